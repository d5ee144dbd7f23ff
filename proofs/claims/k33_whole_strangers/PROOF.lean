import PyProof.Rows.All
import KE.KDictLaws
import KE.KDictOf
import KE.KFromBytes
import KE.KIsAll
import KE.KItem
import Wide.Meth
import PySem.Challenge.RW_wirestream_k33_whole_strangers
set_option compiler.extract_closed false
set_option bootstrap.genMatcherCode false
set_option Elab.async false
set_option linter.all false
set_option maxRecDepth 100000
namespace L2
open PySem PySem.Spec PyProof.Rows
abbrev Key:=Sum Int Str
def Zi8:Key→Value→Bool
  | .inl k,v=>Value.isInt k v
  | .inr x,v=>Value.isStrOf x v
def ZAb (w:World):Key→Int
  | .inl k=>hashInt k
  | .inr x=>hashStr w x
theorem Zay:∀{k:Key} {v:Value},Zi8 k v=true→(∃i t,k=Sum.inl i∧v=Value.int i t)∨(∃x t,k=Sum.inr x∧v=Value.str x t)
  | .inl i,v,h=>by
    obtain ⟨t,e⟩:=Value.isInt_shape (k:=i) (v:=v) h
    exact .inl ⟨i,t,rfl,e⟩
  | .inr x,v,h=>by
    obtain ⟨t,e⟩:=Value.isStrOf_shape (x:=x) (v:=v) h
    exact .inr ⟨x,t,rfl,e⟩
theorem Zof (i:Int) (t:Tok):Zi8 (.inl i) (.int i t)=true:=by simp [Zi8,Value.isInt]
theorem Zoe (x:Str) (t:Tok):Zi8 (.inr x) (.str x t)=true:=by simp [Zi8,Value.isStrOf]
theorem Zu4 (a b:Int):decide ((Sum.inl a:Key)=Sum.inl b)=(a == b):=by
  by_cases e:a=b
  · subst e; simp
  · have h:¬(Sum.inl a:Key)=Sum.inl b:=fun q=>e (Sum.inl.inj q)
    rw [decide_eq_false h]
    exact (beq_eq_false_iff_ne.mpr e).symm
theorem Zu1 (a b:Str):decide ((Sum.inr a:Key)=Sum.inr b)=decide (a=b):=by
  by_cases e:a=b
  · subst e; simp
  · have h:¬(Sum.inr a:Key)=Sum.inr b:=fun q=>e (Sum.inr.inj q)
    rw [decide_eq_false h,decide_eq_false e]
theorem Zu3 (a:Int) (b:Str):decide ((Sum.inl a:Key)=Sum.inr b)=false:=decide_eq_false (fun q=>nomatch q)
theorem Zu2 (a:Str) (b:Int):decide ((Sum.inr a:Key)=Sum.inl b)=false:=decide_eq_false (fun q=>nomatch q)
def ZaN (prog:Program) (w:World):PySem.KeyKind prog w Key where
  is:=Zi8
  hash:=ZAb w
  inj:=fun v a b ha hb=>by
    rcases Zay ha with ⟨i,t,rfl,rfl⟩ | ⟨x,t,rfl,rfl⟩
    · rcases Zay hb with ⟨j,u,rfl,e⟩ | ⟨y,u,rfl,e⟩
      · injection e with e1 _; rw [e1]
      · exact nomatch e
    · rcases Zay hb with ⟨j,u,rfl,e⟩ | ⟨y,u,rfl,e⟩
      · exact nomatch e
      · injection e with e1 _; rw [e1]
  byValue:=fun k v h=>by
    rcases Zay h with ⟨i,t,rfl,rfl⟩ | ⟨x,t,rfl,rfl⟩<;>rfl
  pyHash:=fun hv h=>by
    rcases Zay hv with ⟨i,t,rfl,rfl⟩ | ⟨x,t,rfl,rfl⟩
    · exact wpAny_pyHash_int h
    · exact wpAny_pyHash_str h
  eqBool:=fun hu hv h=>by
    rcases Zay hu with ⟨i,t,rfl,rfl⟩ | ⟨x,t,rfl,rfl⟩
    · rcases Zay hv with ⟨j,u,rfl,rfl⟩ | ⟨y,u,rfl,rfl⟩
      · rw [Zu4] at h; exact wpAny_eqBool_int h
      · rw [Zu3] at h; exact SeqAt.EqAt.int_str i t y u _ _ _ _ h
    · rcases Zay hv with ⟨j,u,rfl,rfl⟩ | ⟨y,u,rfl,rfl⟩
      · rw [Zu2] at h; exact SeqAt.EqAt.str_int x t j u _ _ _ _ h
      · rw [Zu1] at h; exact wpAny_eqBool_str h
  «strs»:=fun k x t v h=>by
    rcases Zay h with ⟨i,u,rfl,e⟩ | ⟨y,u,rfl,e⟩
    · exact nomatch e
    · injection e with e1 _
      subst e1
      cases v<;>rfl
theorem ZlG (prog:Program) (w:World) (i:Int) (t:Tok):(ZaN prog w).is (.inl i) (.int i t)=true:=Zof i t
theorem ZlF (prog:Program) (w:World) (x:Str) (t:Tok):(ZaN prog w).is (.inr x) (.str x t)=true:=Zoe x t
end L2
namespace L2
open PySem PySem.Spec PyProof.Rows
inductive V where
  | non | bl (b:Bool) | int (i:Int) | str (x:Str) | byt (b:Array UInt8) | flt (b:UInt64) | ref (a:Addr) | ty (n:String)
  deriving DecidableEq
def RelV:V→Value→Prop
  | .non,u=>u=Value.none
  | .bl b,u=>u=Value.bool b
  | .int i,u=>∃t,u=Value.int i t
  | .str x,u=>∃t,u=Value.str x t
  | .byt b,u=>∃t,u=Value.bytes b t
  | .flt b,u=>∃t,u=Value.float b t
  | .ref a,u=>u=Value.ref a
  | .ty n,u=>u=Value.type n
abbrev Vals:List V→List Value→Prop:=Paired RelV
theorem Vals.length {xs:List V} {us:List Value} (r:Vals xs us):xs.length=us.length:=Paired.length r
theorem Vals.get:∀{xs:List V} {us:List Value} {i:Nat} {x:V},Vals xs us→xs[i]?=some x→∃u,us[i]?=some u∧RelV x u
  | _,_,_,_,.nil,e=>by simp at e
  | _,_,0,_,.cons r _,e=>by simp at e; subst e; exact ⟨_,rfl,r⟩
  | _,_,i+1,x,.cons _ t,e=>by
    obtain ⟨u,h1,h2⟩:=Vals.get (i:=i) (x:=x) t (by simpa using e)
    exact ⟨u,by simpa using h1,h2⟩
theorem Vals.set {x:V} {u:Value} (r:RelV x u):∀{xs:List V} {us:List Value} (i:Nat),Vals xs us→Vals (xs.set i x) (us.set i u)
  | _,_,_,.nil=>.nil
  | _,_,0,.cons _ t=>.cons r t
  | _,_,i+1,.cons q t=>.cons q (Vals.set r i t)
theorem Vals.append:∀{xs ys:List V} {us ws:List Value},Vals xs us→Vals ys ws→Vals (xs++ys) (us++ws)
  | _,_,_,_,.nil,s=>s
  | _,_,_,_,.cons r t,s=>.cons r (Vals.append t s)
theorem Vals.take:∀{xs:List V} {us:List Value} (n:Nat),Vals xs us→Vals (xs.take n) (us.take n)
  | _,_,0,_=>.nil
  | _,_,_+1,.nil=>.nil
  | _,_,n+1,.cons r t=>.cons r (Vals.take n t)
theorem Vals.drop:∀{xs:List V} {us:List Value} (n:Nat),Vals xs us→Vals (xs.drop n) (us.drop n)
  | _,_,0,r=>r
  | _,_,_+1,.nil=>.nil
  | _,_,n+1,.cons _ t=>Vals.drop n t
theorem Vals.none_of:∀{xs:List V} {us:List Value} {i:Nat},Vals xs us→xs[i]?=none→us[i]?=none:=fun {xs us i} r e=>by
  have h1:=r.length
  have h2:xs.length≤i:=List.getElem?_eq_none_iff.mp e
  exact List.getElem?_eq_none_iff.mpr (by omega)
def RelO:Option V→Option Value→Prop
  | some v,some u=>RelV v u
  | none,none=>True
  | _,_=>False
def KV {κ:Type}:List (κ×V)→List (κ×Value)→Prop:=Paired fun (p:κ×V) (q:κ×Value)=>p.1=q.1∧RelV p.2 q.2
def kV:Key→V
  | .inl i=>.int i
  | .inr x=>.str x
inductive HO where
  | lst (xs:List V)
  | tup (xs:List V)
  | dK (kvs:List (Key×V)) | dT (kvs:List (List Key×V))
  | set (S:Int→Bool) (n:Nat)
  | ins (C dx:Addr) (fs:List (Str×V))
  | own (x:Addr)
  | xd (fs:List (Str×V))
  | met (f x:Addr)
  | rng (lo hi:Int)
  | frz (o:Obj) (u:HO)
  | tbl (ps:Array Value)
  | ext (φ:Heap→Prop)
abbrev Hp:=Addr→Option HO
def upd (H:Hp) (a:Addr) (o:HO):Hp:=fun b=>if b=a then some o else H b
theorem zE {H:Hp} {a:Addr} {o:HO}:upd H a o a=some o:=by unfold upd; rw [if_pos rfl]
theorem ZS {H:Hp} {a b:Addr} {o:HO} (h:b≠a):upd H a o b=H b:=by unfold upd; rw [if_neg h]
theorem zo {H:Hp} {a b:Addr} {o:HO} (h:H a=some o) (h':H b=none):a≠b:=by
  intro e; subst e; rw [h] at h'; cases h'
section
variable (P:Program) (w:World)
def ObjOk (H:Hp) (h:Heap) (a:Addr):HO→Prop
  | .lst xs=>xs.length≤sizeLine∧∃(its:List Value) (n:Nat),Vals xs its∧h.get? a=some { cls:=.type "list",data:=.seq its.toArray n }
  | .tup xs=>xs.length≤sizeLine∧∃its:List Value,Vals xs its∧IsTup h a its.toArray
  | .dK kvs=>kvs.length≤sizeLine∧(a == sysModules)=false∧∃vs,KV kvs vs∧h.DictOf (ZaN P w) a vs
  | .dT kvs=>kvs.length≤sizeLine∧(a == sysModules)=false∧∃xs:List (List Key×Addr×Value),
      Paired (fun (p:List Key×V) (q:List Key×Addr×Value)=>p.1=q.1∧H q.2.1=some (.tup (p.1.map kV))∧RelV p.2 q.2.2) kvs xs∧
      ∃o es ep,h.get? a=some o∧o.ExactDict∧o.data=.dict es ep∧es.toList=xs.map (entryOfKey (tupleKind (ZaN P w)))∧(xs.map (·.1)).Nodup
  | .set S n=>h.SetOf (intKind P w) a S n
  | .ins C dx fs=>H dx=some (.own a)∧fs.length≤1000∧dx≠a∧h.get? a=some (PySem.W.instObj C dx)∧
      ∃mA,h.Ns1 dx mA∧(∀f,RelO (fs.lookup f) (mA f))∧PySem.Within mA (fs.map (·.1))
  | .own _=>∃o,h.get? a=some o
  | .xd fs=>∃mA,h.Ns1 a mA∧∀f,RelO (fs.lookup f) (mA f)
  | .rng lo hi=>∃t u v,h.get? a=some { cls:=.type "range",data:=.fields #[.int lo t,.int hi u,.int 1 v] }
  | .frz o u=>h.get? a=some o∧ObjOk H h a u
  | .tbl ps=>h.get? a=some { cls:=.none,data:=.fields ps }
  | .met f x=>h.get? a=some (PySem.W.methodObj (.ref f) (.ref x))
  | .ext φ=>φ h∧(∃o,h.get? a=some o)∧∀h1 h2:Heap,φ h1→(∀o,h1.get? a=some o→h2.get? a=some o)→φ h2
def HOk (H:Hp) (h:Heap):Prop:=∀a o,H a=some o→ObjOk P w H h a o
end
section
variable {P:Program} {w:World} {H H':Hp} {h h':Heap} {a:Addr} {o:HO}
theorem ObjOk.lt (x:ObjOk P w H h a o):a<h.objs.size:=by
  cases o with
  | lst xs=>obtain ⟨_,_,_,_,e⟩:=x; exact Heap.lt_size e
  | tup xs=>obtain ⟨_,_,_,p⟩:=x; exact p.lt
  | dK kvs=>obtain ⟨_,_,_,_,o,_,_,e,_⟩:=x; exact Heap.lt_size e
  | dT kvs=>obtain ⟨_,_,_,_,o,_,_,e,_⟩:=x; exact Heap.lt_size e
  | set S n=>obtain ⟨o,_,_,_,e,_⟩:=x; exact Heap.lt_size e
  | ins C dx fs=>obtain ⟨_,_,_,e,_⟩:=x; exact Heap.lt_size e
  | own y=>obtain ⟨_,e⟩:=x; exact Heap.lt_size e
  | xd fs=>obtain ⟨_,⟨_,_,_,e,_⟩,_⟩:=x; exact Heap.lt_size e
  | rng lo hi=>obtain ⟨_,_,_,e⟩:=x; exact Heap.lt_size e
  | frz ob u=>obtain ⟨e,_⟩:=x; exact Heap.lt_size e
  | tbl ps=>exact Heap.lt_size (show h.get? a=some _ from x)
  | met f y=>exact Heap.lt_size (show h.get? a=some _ from x)
  | ext φ=>obtain ⟨_,⟨_,e⟩,_⟩:=x; exact Heap.lt_size e
theorem Paired.mapP {α β:Type} {F G:α→β→Prop}:∀{l₁:List α} {l₂:List β},Paired F l₁ l₂→(∀a b,F a b→G a b)→Paired G l₁ l₂
  | _,_,.nil,_=>.nil
  | _,_,.cons r t,f=>.cons (f _ _ r) (Paired.mapP t f)
theorem ObjOk.stay (x:ObjOk P w H h a o) (k:∀b u,(b=a∨H b=some (.own a))→h.get? b=some u→h'.get? b=some u)
    (ho:∀b,H b=some (.own a)→H' b=some (.own a)) (ht:∀b xs,H b=some (.tup xs)→H' b=some (.tup xs)):ObjOk P w H' h' a o:=by
  induction o with
  | lst xs=>obtain ⟨z,its,n,r,e⟩:=x; exact ⟨z,its,n,r,k _ _ (.inl rfl) e⟩
  | tup xs=>obtain ⟨z,its,r,ob,e,c⟩:=x; exact ⟨z,its,r,ob,k _ _ (.inl rfl) e,c⟩
  | dK kvs=>obtain ⟨z,y,vs,r,ob,es,ep,e,c⟩:=x; exact ⟨z,y,vs,r,ob,es,ep,k _ _ (.inl rfl) e,c⟩
  | dT kvs=>
    obtain ⟨z,y,xs,r,ob,es,ep,e,c⟩:=x
    exact ⟨z,y,xs,Paired.mapP r fun p q z=>⟨z.1,ht _ _ z.2.1,z.2.2⟩,ob,es,ep,k _ _ (.inl rfl) e,c⟩
  | set S n=>obtain ⟨ob,es,ep,t,e,c⟩:=x; exact ⟨ob,es,ep,t,k _ _ (.inl rfl) e,c⟩
  | ins C dx fs=>
    obtain ⟨d,z,ne,e,mA,⟨od,es,ep,e2,c⟩,r⟩:=x
    exact ⟨ho _ d,z,ne,k _ _ (.inl rfl) e,mA,⟨od,es,ep,k _ _ (.inr d) e2,c⟩,r⟩
  | own y=>obtain ⟨ob,e⟩:=x; exact ⟨ob,k _ _ (.inl rfl) e⟩
  | xd fs=>obtain ⟨mA,⟨od,es,ep,e,c⟩,r⟩:=x; exact ⟨mA,⟨od,es,ep,k _ _ (.inl rfl) e,c⟩,r⟩
  | rng lo hi=>obtain ⟨t,u,v,e⟩:=x; exact ⟨t,u,v,k _ _ (.inl rfl) e⟩
  | frz ob u ih=>obtain ⟨e,q⟩:=x; exact ⟨k _ _ (.inl rfl) e,ih q⟩
  | tbl ps=>
    have e:h.get? a=some { cls:=.none,data:=.fields ps }:=x
    show h'.get? a=some { cls:=.none,data:=.fields ps }
    exact k a _ (.inl rfl) e
  | met f y=>
    have e:h.get? a=some (PySem.W.methodObj (.ref f) (.ref y)):=x
    show h'.get? a=some (PySem.W.methodObj (.ref f) (.ref y))
    exact k a _ (.inl rfl) e
  | ext φ=>obtain ⟨p,⟨o,e⟩,st⟩:=x; exact ⟨st _ _ p fun o q=>k _ _ (.inl rfl) q,⟨o,k _ _ (.inl rfl) e⟩,st⟩
theorem HOk.lt (x:HOk P w H h) (e:H a=some o):a<h.objs.size:=(x a o e).lt
theorem HOk.fresh (x:HOk P w H h) (e:h.objs.size≤a):H a=none:=by
  cases q:H a with
  | none=>rfl
  | some u=>exact absurd (Nat.lt_of_lt_of_le (x.lt q) e) (Nat.lt_irrefl _)
theorem HOk.kept (x:HOk P w H h) (k:∀b u,h.get? b=some u→h'.get? b=some u):HOk P w H h':=fun a o e=>
  (x a o e).stay (fun b u _ q=>k b u q) (fun _ q=>q) fun _ _ q=>q
theorem HOk.laid (x:HOk P w H h) (k:∀b u,h.get? b=some u→h'.get? b=some u) (hp:h.objs.size≤a) (new:ObjOk P w (upd H a o) h' a o):HOk P w (upd H a o) h':=fun b u e=>by
  have hn:=x.fresh hp
  by_cases hb:b=a
  · subst hb; rw [zE] at e; cases e; exact new
  · rw [ZS hb] at e
    exact (x b u e).stay (fun c v _ q=>k c v q) (fun c q=>by rw [ZS (zo q hn)]; exact q) fun c xs q=>by rw [ZS (zo q hn)]; exact q
end
def Rd (H:Hp) (a:Addr) (u:HO):Prop:=H a=some u∨∃o,H a=some (.frz o u)
theorem Rd.ok {P:Program} {w:World} {H:Hp} {h:Heap} {a:Addr} {u:HO} (r:Rd H a u) (x:HOk P w H h):ObjOk P w H h a u:=by
  rcases r with r | ⟨o,r⟩
  · exact x a u r
  · obtain ⟨_,q⟩:=x a _ r
    exact q
def Mut:Option HO→Prop
  | some (.lst _)=>True
  | some (.dK _)=>True
  | some (.dT _)=>True
  | some (.set _ _)=>True
  | some (.ins _ _ _)=>True
  | some (.ext _)=>True
  | _=>False
section
variable {P:Program} {w:World} {H:Hp} {h h':Heap} {x e:Addr} {o':HO}
theorem HOk.write (ok:HOk P w H h) (mu:Mut (H x)) (he:e=x∨H e=some (.own x)) (k:∀b u,b≠e→h.get? b=some u→h'.get? b=some u) (heo:∃u,h'.get? e=some u)
    (new:ObjOk P w (upd H x o') h' x o'):HOk P w (upd H x o') h':=fun b u q=>by
  have nown:∀c y,H c=some (.own y)→c≠x:=fun c y r z=>by subst z; rw [r] at mu; exact mu
  have ntup:∀c xs,H c=some (.tup xs)→c≠x:=fun c xs r z=>by subst z; rw [r] at mu; exact mu
  by_cases hb:b=x
  · subst hb; rw [zE] at q; cases q; exact new
  · rw [ZS hb] at q
    by_cases hbe:b=e
    · have q':H b=some (.own x):=by
        rcases he with z | z
        · exact absurd (hbe.trans z) hb
        · rw [hbe]; exact z
      rw [q] at q'; cases q'
      obtain ⟨v,hv⟩:=heo
      exact ⟨v,by rw [hbe]; exact hv⟩
    · refine (ok b u q).stay (fun c v hc r=>k c v ?_ r) (fun c r=>by rw [ZS (nown c b r)]; exact r) fun c xs r=>by rw [ZS (ntup c xs r)]; exact r
      rcases hc with rfl | hc
      · exact hbe
      · rintro rfl
        rcases he with z | z
        · exact nown c b hc z
        · rw [hc] at z; cases z; exact hb rfl
end
structure Un (fs ex:List Addr) (H H':Hp) (h h':Heap):Prop where
  keep:∀b o,h.get? b=some o→H b=none→b∉fs→b∉ex→h'.get? b=some o
  slot:∀b o,h.get? b=some o→H b=none→b∈fs→b∉ex→∃sl,h'.get? b=some { o with slots:=sl }
  free:∀b o,h.get? b=some o→H b=none→b∉ex→H' b=none
  there:∀b o,h.get? b=some o→b∉ex→∃o',h'.get? b=some o'
  tups:∀b xs,H b=some (.tup xs)→H' b=some (.tup xs)
  frzs:∀b o u,H b=some (.frz o u)→H' b=some (.frz o u)
  tbls:∀b ps,H b=some (.tbl ps)→∃more,H' b=some (.tbl (ps++more))
section
variable {fs fs' ex ex':List Addr} {H H1 H2:Hp} {h h1 h2 h':Heap} {a x e:Addr} {o:HO}
theorem Un.any (u:Un fs ex H H1 h h1) {b:Addr} {ob:Obj} (q:h.get? b=some ob) (n:H b=none) (hx:b∉ex):∃sl,h1.get? b=some { ob with slots:=sl }:=by
  by_cases hb:b∈fs
  · exact u.slot b ob q n hb hx
  · exact ⟨ob.slots,u.keep b ob q n hb hx⟩
theorem Un.kept (k:∀b u,h.get? b=some u→h'.get? b=some u):Un fs ex H H h h':=
  ⟨fun b ob q _ _ _=>k b ob q,fun b ob q _ _ _=>⟨ob.slots,k b ob q⟩,fun _ _ _ n _=>n,fun b ob q _=>⟨ob,k b ob q⟩,fun _ _ q=>q,fun _ _ _ q=>q,fun _ ps q=>⟨#[],by rw [q]; simp⟩⟩
theorem Un.refl:Un fs ex H H h h:=Un.kept fun _ _ q=>q
theorem Un.laid (k:∀b u,h.get? b=some u→h'.get? b=some u) (hp:h.objs.size≤a) (hn:H a=none):Un fs ex H (upd H a o) h h' where
  keep:=fun b u q _ _ _=>k b u q
  slot:=fun b u q _ _ _=>⟨u.slots,k b u q⟩
  free:=fun b u q n _=>by rw [ZS (Nat.ne_of_lt (Nat.lt_of_lt_of_le (Heap.lt_size q) hp))]; exact n
  there:=fun b u q _=>⟨u,k b u q⟩
  tups:=fun b xs q=>by rw [ZS (zo q hn)]; exact q
  frzs:=fun b u xs q=>by rw [ZS (zo q hn)]; exact q
  tbls:=fun b ps q=>⟨#[],by rw [ZS (zo q hn),q]; simp⟩
theorem Un.write (mu:Mut (H x)) (he:e=x∨H e=some (.own x)) (k:∀b u,b≠e→h.get? b=some u→h'.get? b=some u) (heo:∃u,h'.get? e=some u):Un fs ex H (upd H x o) h h':=by
  have hx:∀b,H b=none→b≠x:=fun b n z=>by subst z; rw [n] at mu; exact mu
  have hb:∀b,H b=none→b≠e:=fun b n z=>by
    subst z
    rcases he with r | r
    · exact hx b n r
    · rw [n] at r; cases r
  have hm:∀b u,H b=some u→¬Mut (some u)→b≠x:=fun b u q nm z=>by subst z; rw [q] at mu; exact nm mu
  refine ⟨fun b u q n _ _=>k b u (hb b n) q,fun b u q n _ _=>⟨u.slots,k b u (hb b n) q⟩,fun b u q n _=>by rw [ZS (hx b n)]; exact n,fun b u q _=>?_,
    fun b xs q=>by rw [ZS (hm b _ q fun z=>z)]; exact q,fun b u xs q=>by rw [ZS (hm b _ q fun z=>z)]; exact q,fun b ps q=>⟨#[],by rw [ZS (hm b _ q fun z=>z),q]; simp⟩⟩
  by_cases hbe:b=e
  · subst hbe; exact heo
  · exact ⟨u,k b u hbe q⟩
end
def trk (h:Heap) (H:Hp):List Addr:=(List.range h.objs.size).filter fun a=>(H a).isSome
def ZjH (h:Heap) (H:Hp):Heap:=PySem.W.hideAll h (trk h H)
theorem Zok (h:Heap) (H:Hp):(ZjH h H).objs.size=h.objs.size:=PySem.W.hideAll_size _ _
theorem Zrg {h:Heap} {H:Hp} {b:Addr} {o:Obj} (e:h.get? b=some o) (n:H b=none):(ZjH h H).get? b=some o:=
  PySem.W.hideAll_get _ e fun hm=>by
    have q:(H b).isSome=true:=(List.mem_filter.mp hm).2
    rw [n] at q; simp at q
theorem ZsB {h:Heap} {H:Hp} {b:Addr} {o:Obj} (e:(ZjH h H).get? b=some o):h.get? b=some o∧H b=none:=by
  have e':h.get? b=some o:=PySem.W.of_hideAll (trk h H) e
  refine ⟨e',?_⟩
  cases q:H b with
  | none=>rfl
  | some x=>
    have hm:b∈trk h H:=List.mem_filter.mpr ⟨List.mem_range.mpr (Heap.lt_size e'),by simp [q]⟩
    have z:(ZjH h H).get? b=none:=PySem.W.hideAll_none (trk h H) hm
    rw [z] at e; cases e
def Zs8 (g h:Heap) (L:Addr):List (Addr×Obj):=(List.range h.objs.size).filterMap fun a=>if a=L∨(g.get? a).isSome=true then none else (h.get? a).map fun o=>(a,o)
def rest (g h:Heap) (L d:Addr):List (Addr×Obj):=(Zs8 g h L).filter fun p=>decide (p.1≠d)
end L2
namespace L2
open PySem PySem.Spec PyProof.Rows
structure Mod (K:PySem.W.Frag) (mg:Str→Option Value) (base:Heap):Prop where
  kin:K.In base
  glob:base.Ns mainGlobals mg
  blt:∃mb,base.Ns builtinsNs mb∧∀x:Str,x≠"__name__"→mb x=bootBuiltins x
  nolimit:base.NoLimit
structure Cx where
  prog:Program
  w:World
  K:PySem.W.Frag
  mg:Str→Option Value
  base:Heap
  A:Around
  N:List Str
  s₀:Shared
  H₀:Hp
  env:Env
  outer:List Env
  stack:List Env
  ex:List Addr
  fn:Str→Bool
  calm:Bool
  pn:List (Addr×Obj)
  xe:Value→Shared→Prop
def frs (l:List Env):List Addr:=l.filterMap (·.frame)
abbrev Cx.fs (X:Cx):List Addr:=frs X.outer
def Vis (sc:Scope) (x:Str):Prop:=sc.names.lookup x=some .local∨sc.names.lookup x=some .cell∨sc.names.lookup x=some .free
def Loc (sc:Scope) (x:Str):Prop:=sc.names.lookup x=some .local∨sc.names.lookup x=some .cell
def ZAC (env:Env) (h:Heap) (m:Str→Option Value) (x:Str) (u:Value):Prop:=
  (env.kindOf x=some .local∧m x=some u)∨((env.kindOf x=some .cell∨env.kindOf x=some .free)∧∃c,env.cells.lookup x=some c∧h.IsCell c (some u))
structure Cx.Ok (X:Cx):Prop where
  mod:Mod X.K X.mg X.base
  kind:X.env.scope.kind=.function
  glob:X.env.globals=mainGlobals
  blt:X.env.builtins=builtinsNs
  above:X.s₀.heap.objs.size≤X.env.locals
  inj:∀x y c,X.env.cells.lookup x=some c→X.env.cells.lookup y=some c→x=y
  has:∀x,(X.env.kindOf x=some .cell∨X.env.kindOf x=some .free)→∃c,X.env.cells.lookup x=some c
  cab:∀x c,X.fn x=true→X.env.cells.lookup x=some c→X.s₀.heap.objs.size≤c
  hd:X.calm=true→X.A.handled=none
  frames:X.A.frames=some X.stack
  stk:X.stack=X.outer∨(X.stack=X.env::X.outer∧X.env.frame=some X.env.locals)
  exf:∀b∈X.ex,b≠X.env.locals∧∀x c,X.env.cells.lookup x=some c→c≠b
  bs:∀b o,X.base.get? b=some o→X.s₀.heap.get? b=some o∧X.H₀ b=none
  bsz:X.base.objs.size≤X.s₀.heap.objs.size
  noex:∀b o,X.base.get? b=some o→b∉X.ex
  exfs:∀b∈X.ex,b∉X.fs
  funs:X.s₀.heap.FunFrames X.base X.outer
  frf:∀b∈X.fs,X.H₀ b=none
structure Inv (X:Cx) (pins:List (Addr×Obj)) (σ:List (Option V)) (H:Hp) (s:Shared):Prop where
  ok:X.Ok
  os:s.os=X.s₀.os
  bare:AllBare s.gens
  base:Un X.fs X.ex X.H₀ H X.s₀.heap s.heap
  loc:∃m,s.heap.Ns X.env.locals m∧∀(i:Nat) (x:Str) (v:V),X.N[i]?=some x→σ[i]?=some (some v)→Vis X.env.scope x→∃u,RelV v u∧ZAC X.env s.heap m x u
  cell:∀x c,X.env.cells.lookup x=some c→∃v,s.heap.IsCell c v
  free:H X.env.locals=none
  freeC:∀x c,X.env.cells.lookup x=some c→H c=none
  pin:∀p∈X.pn++pins,s.heap.get? p.1=some p.2∧H p.1=none∧p.1≠X.env.locals∧p.1∉X.fs∧∀v,p.2.data≠.cell v
  hok:HOk X.prog X.w H s.heap
  len:σ.length=X.N.length
section
variable {X:Cx} {pins:List (Addr×Obj)} {σ:List (Option V)} {H H':Hp} {s:Shared} {h':Heap}
theorem Cx.Ok.nofr (ok:X.Ok) {b:Addr} {o:Obj} (e:X.base.get? b=some o):b∉X.fs:=fun hb=>by
  have:=(ok.funs.mem hb).1
  rw [e] at this; cases this
theorem Inv.bs (I:Inv X pins σ H s):∀b o,X.base.get? b=some o→s.heap.get? b=some o∧H b=none:=fun b o e=>
  ⟨I.base.keep b o (I.ok.bs b o e).1 (I.ok.bs b o e).2 (I.ok.nofr e) (I.ok.noex b o e),I.base.free b o (I.ok.bs b o e).1 (I.ok.bs b o e).2 (I.ok.noex b o e)⟩
theorem Inv.bk (I:Inv X pins σ H s):∀b o,X.base.get? b=some o→s.heap.get? b=some o:=fun b o e=>(I.bs b o e).1
theorem Inv.mod (I:Inv X pins σ H s):Mod X.K X.mg X.base:=I.ok.mod
theorem Inv.kIn (I:Inv X pins σ H s):X.K.In s.heap:=I.ok.mod.kin.keeps I.bk
theorem Inv.lt (I:Inv X pins σ H s):X.env.locals<s.heap.objs.size:=let ⟨_,hn,_⟩:=I.loc; hn.lt
theorem Inv.sz (I:Inv X pins σ H s):X.s₀.heap.objs.size≤s.heap.objs.size:=Nat.le_trans I.ok.above (Nat.le_of_lt I.lt)
theorem Inv.nofs (I:Inv X pins σ H s) {a:Addr} (h:s.heap.objs.size≤a):a∉X.fs:=fun hb=>by
  obtain ⟨_,o,ho,_⟩:=I.ok.funs.mem hb
  exact absurd (Nat.lt_of_lt_of_le (Heap.lt_size ho) (Nat.le_trans I.sz h)) (Nat.lt_irrefl _)
theorem Inv.cne (I:Inv X pins σ H s):∀x c,X.env.cells.lookup x=some c→c≠X.env.locals:=fun x c e z=>by
  obtain ⟨v,o,ho,hd⟩:=I.cell x c e
  obtain ⟨m,⟨o',es,ep,ho',hd',_⟩,_⟩:=I.loc
  rw [z,ho'] at ho; cases ho; rw [hd'] at hd; cases hd
theorem Inv.funs (I:Inv X pins σ H s):s.heap.FunFrames X.base X.outer:=by
  have all:∀(l:List Env),(∀b∈frs l,b∈X.fs)→X.s₀.heap.FunFrames X.base l→s.heap.FunFrames X.base l:=by
    intro l
    induction l with
    | nil=>intro _ _; trivial
    | cons env r ih=>
      intro hs hl
      obtain ⟨hk,⟨L,o,hf,hn,ho,hd⟩,hr⟩:=hl
      have hL:L∈X.fs:=hs L (by unfold frs; rw [List.filterMap_cons,hf]; exact List.mem_cons_self)
      obtain ⟨sl,e⟩:=I.base.slot L o ho (I.ok.frf L hL) hL fun z=>I.ok.exfs L z hL
      exact ⟨hk,⟨L,_,hf,hn,e,hd⟩,ih (fun b hb=>hs b (by unfold frs; rw [List.filterMap_cons,hf]; exact List.mem_cons_of_mem _ hb)) hr⟩
  exact all X.outer (fun _ hb=>hb) I.ok.funs
theorem Inv.stack (I:Inv X pins σ H s):s.heap.FunFrames X.base X.stack:=by
  rcases I.ok.stk with e | ⟨e,hf⟩
  · rw [e]; exact I.funs
  · rw [e]
    obtain ⟨m,hn,_⟩:=I.loc
    refine .cons (by rw [I.ok.kind]; decide) hf hn ?_ I.funs
    exact Heap.get?_none_of_le (Nat.le_trans I.ok.bsz I.ok.above)
theorem Inv.stkSub (I:Inv X pins σ H s):∀b∈frs X.stack,b∈X.env.locals::X.fs:=fun b hb=>by
  rcases I.ok.stk with e | ⟨e,hf⟩
  · rw [e] at hb; exact List.mem_cons_of_mem _ hb
  · rw [e] at hb
    unfold frs at hb
    rw [List.filterMap_cons,hf] at hb
    exact hb
theorem Inv.stkFree (I:Inv X pins σ H s):∀b∈frs X.stack,H b=none:=fun b hb=>by
  rcases List.mem_cons.mp (I.stkSub b hb) with e | hb
  · rw [e]; exact I.free
  · obtain ⟨_,o,ho,_⟩:=I.ok.funs.mem hb
    exact I.base.free b o ho (I.ok.frf b hb) fun z=>I.ok.exfs b z hb
theorem Inv.step {g':Array GenState} {t':Nat} {d':Drawn} {ch:List Addr} (I:Inv X pins σ H s)
    (hch:∀b∈ch,(b∈X.ex∨X.s₀.heap.objs.size≤b)∧b≠X.env.locals∧(∀x c,X.env.cells.lookup x=some c→c≠b)∧∀p∈X.pn++pins,p.1≠b)
    (keep:∀b o,b≠X.env.locals→b∉X.fs→b∉ch→s.heap.get? b=some o→H b=none→h'.get? b=some o)
    (slot:∀b o,b≠X.env.locals→b∈X.fs→b∉ch→s.heap.get? b=some o→H b=none→∃sl,h'.get? b=some { o with slots:=sl }) (free:∀b o,b∉ch→s.heap.get? b=some o→H b=none→H' b=none)
    (there:∀b o,b∉ch→s.heap.get? b=some o→∃o',h'.get? b=some o')
    (tups:∀b xs,H b=some (.tup xs)→H' b=some (.tup xs)) (frzs:∀b o u,H b=some (.frz o u)→H' b=some (.frz o u)) (tbls:∀b ps,H b=some (.tbl ps)→∃more,H' b=some (.tbl (ps++more)))
    (ns:∀m,s.heap.Ns X.env.locals m→h'.Ns X.env.locals m) (hok:HOk X.prog X.w H' h') (hg:AllBare g') :
    Inv X pins σ H' { s with heap:=h',gens:=g',drawn:=d',toks:=t' }:=by
  have neL:∀b o,X.s₀.heap.get? b=some o→b≠X.env.locals:=fun b o e=>Nat.ne_of_lt (Nat.lt_of_lt_of_le (Heap.lt_size e) I.ok.above)
  have neC:∀b o,X.s₀.heap.get? b=some o→b∉X.ex→b∉ch:=fun b o e hx hb=>by
    rcases (hch b hb).1 with z | z
    · exact hx z
    · exact absurd (Nat.lt_of_lt_of_le (Heap.lt_size e) z) (Nat.lt_irrefl _)
  have cellK:∀x c,X.env.cells.lookup x=some c→∀v,s.heap.IsCell c v→h'.IsCell c v:=fun x c e v ⟨o,ho,hd⟩=>by
    have nch:c∉ch:=fun z=>(hch c z).2.2.1 x c e rfl
    by_cases hc:c∈X.fs
    · obtain ⟨sl,q⟩:=slot c o (I.cne x c e) hc nch ho (I.freeC x c e)
      exact ⟨_,q,hd⟩
    · exact ⟨o,keep c o (I.cne x c e) hc nch ho (I.freeC x c e),hd⟩
  refine ⟨I.ok,I.os,hg,⟨fun b o e n hb hx=>?_,fun b o e n hb hx=>?_,fun b o e n hx=>?_,fun b o e hx=>?_,fun b xs e=>tups b xs (I.base.tups b xs e),fun b o xs e=>frzs b o xs (I.base.frzs b o xs e),fun b ps e=>?_⟩,?_,fun x c e=>?_,?_,fun x c e=>?_,fun p hp=>?_,hok,I.len⟩
  · exact keep b o (neL b o e) hb (neC b o e hx) (I.base.keep b o e n hb hx) (I.base.free b o e n hx)
  · obtain ⟨sl,e1⟩:=I.base.slot b o e n hb hx
    obtain ⟨sl',e2⟩:=slot b _ (neL b o e) hb (neC b o e hx) e1 (I.base.free b o e n hx)
    exact ⟨sl',e2⟩
  · obtain ⟨o',e1⟩:=I.base.there b o e hx
    exact free b o' (neC b o e hx) e1 (I.base.free b o e n hx)
  · obtain ⟨o',e1⟩:=I.base.there b o e hx
    exact there b o' (neC b o e hx) e1
  · obtain ⟨m1,e1⟩:=I.base.tbls b ps e
    obtain ⟨m2,e2⟩:=tbls b _ e1
    exact ⟨m1++m2,by rw [e2,Array.append_assoc]⟩
  · obtain ⟨m,hn,hl⟩:=I.loc
    refine ⟨m,ns m hn,fun i x v e1 e2 e3=>?_⟩
    obtain ⟨u,r,l⟩:=hl i x v e1 e2 e3
    refine ⟨u,r,?_⟩
    rcases l with l | ⟨k,c,e,z⟩
    · exact .inl l
    · exact .inr ⟨k,c,e,cellK x c e _ z⟩
  · obtain ⟨v,z⟩:=I.cell x c e
    exact ⟨v,cellK x c e v z⟩
  · obtain ⟨m,⟨o,_,_,ho,_⟩,_⟩:=I.loc
    exact free _ o (fun z=>(hch _ z).2.1 rfl) ho I.free
  · obtain ⟨v,o,ho,hd⟩:=I.cell x c e
    exact free c o (fun z=>(hch c z).2.2.1 x c e rfl) ho (I.freeC x c e)
  · obtain ⟨e,n,ne,nf,d⟩:=I.pin p hp
    have nch:p.1∉ch:=fun z=>(hch p.1 z).2.2.2 p hp rfl
    exact ⟨keep p.1 p.2 ne nf nch e n,free p.1 p.2 nch e n,ne,nf,d⟩
theorem Inv.un {t':Nat} (I:Inv X pins σ H s) (u:Un X.fs [] H H' s.heap h') (hok:HOk X.prog X.w H' h'):Inv X pins σ H' { s with heap:=h',toks:=t' }:=by
  obtain ⟨m,⟨o,es,ep,ho,r⟩,_⟩:=id I.loc
  obtain ⟨sl,hL⟩:=u.any ho I.free (by simp)
  exact I.step (g':=s.gens) (d':=s.drawn) (ch:=[]) (fun _ z=>nomatch z) (fun b o _ hb _ e n=>u.keep b o e n hb (by simp)) (fun b o _ hb _ e n=>u.slot b o e n hb (by simp)) (fun b o _ e n=>u.free b o e n (by simp)) (fun b o _ e=>u.there b o e (by simp)) u.tups u.frzs u.tbls (fun m' hm=>by
    obtain ⟨o',es',ep',ho',r'⟩:=hm
    rw [ho] at ho'; cases ho'
    exact ⟨_,es',ep',hL,r'⟩) hok I.bare
theorem Inv.call {g':Array GenState} {t':Nat} {d':Drawn} {ch:List Addr} (I:Inv X pins σ H s) (u:Un (frs X.stack) ch H H' s.heap h') (hok:HOk X.prog X.w H' h') (hg:AllBare g')
    (hch:∀b∈ch,(b∈X.ex∨X.s₀.heap.objs.size≤b)∧b≠X.env.locals∧(∀x c,X.env.cells.lookup x=some c→c≠b)∧∀p∈X.pn++pins,p.1≠b) :
    Inv X pins σ H' { s with heap:=h',gens:=g',drawn:=d',toks:=t' }:=by
  obtain ⟨m,⟨o,es,ep,ho,r⟩,_⟩:=id I.loc
  obtain ⟨sl,hL⟩:=u.any ho I.free fun z=>(hch _ z).2.1 rfl
  exact I.step (ch:=ch) hch (fun b o hL hb hc e n=>u.keep b o e n (fun z=>(List.mem_cons.mp (I.stkSub b z)).elim hL hb) hc) (fun b o _ _ hc e n=>u.any e n hc) (fun b o hc e n=>u.free b o e n hc) (fun b o hc e=>u.there b o e hc) u.tups u.frzs u.tbls (fun m' hm=>by
    obtain ⟨o',es',ep',ho',r'⟩:=hm
    rw [ho] at ho'; cases ho'
    exact ⟨_,es',ep',hL,r'⟩) hok hg
theorem Inv.turned {t':Nat} {it:Addr} (I:Inv X pins σ H s) (k:∀b o,b≠it→s.heap.get? b=some o→h'.get? b=some o) (hn:H it=none) (hL:it≠X.env.locals)
    (h1:it∈X.ex∨X.s₀.heap.objs.size≤it) (h2:∀x c,X.env.cells.lookup x=some c→c≠it) (h3:∀p∈X.pn++pins,p.1≠it):Inv X pins σ H { s with heap:=h',toks:=t' }:=by
  have nit:∀b u,H b=some u→b≠it:=fun b u e z=>by rw [z,hn] at e; cases e
  refine I.step (g':=s.gens) (d':=s.drawn) (ch:=[it]) (fun b hb=>?_) (fun b o _ _ hc e _=>k b o (fun z=>hc (by simp [z])) e) (fun b o _ _ hc e _=>⟨o.slots,k b o (fun z=>hc (by simp [z])) e⟩) (fun _ _ _ _ n=>n)
    (fun b o hc e=>⟨o,k b o (fun z=>hc (by simp [z])) e⟩) (fun _ _ e=>e) (fun _ _ _ e=>e) (fun b ps e=>⟨#[],by rw [e]; simp⟩) (fun m hm=>?_) (fun b u e=>?_) I.bare
  · have e:b=it:=by simpa using hb
    subst e
    exact ⟨h1,hL,h2,h3⟩
  · obtain ⟨o,es,ep,ho,r⟩:=hm
    exact ⟨o,es,ep,k _ o (Ne.symm hL) ho,r⟩
  · refine (I.hok b u e).stay (fun c v hc q=>k c v ?_ q) (fun _ q=>q) fun _ _ q=>q
    rcases hc with z | z
    · rw [z]; exact nit b u e
    · exact nit c _ z
theorem Inv.tok (I:Inv X pins σ H s) (t:Nat):Inv X pins σ H { s with toks:=t }:=I.un (h':=s.heap) (t':=t) Un.refl I.hok
theorem Inv.kept {t':Nat} (I:Inv X pins σ H s) (k:∀b u,s.heap.get? b=some u→h'.get? b=some u):Inv X pins σ H { s with heap:=h',toks:=t' }:=I.un (Un.kept k) (I.hok.kept k)
theorem Inv.laid {a:Addr} {o:HO} {t':Nat} (I:Inv X pins σ H s) (k:∀b u,s.heap.get? b=some u→h'.get? b=some u) (hp:s.heap.objs.size≤a) (new:ObjOk X.prog X.w (upd H a o) h' a o) :
    Inv X pins σ (upd H a o) { s with heap:=h',toks:=t' }:=I.un (Un.laid k hp (I.hok.fresh hp)) (I.hok.laid k hp new)
theorem Inv.write {x e:Addr} {o:HO} {t':Nat} (I:Inv X pins σ H s) (mu:Mut (H x)) (he:e=x∨H e=some (.own x)) (k:∀b u,b≠e→s.heap.get? b=some u→h'.get? b=some u) (heo:∃u,h'.get? e=some u)
    (new:ObjOk X.prog X.w (upd H x o) h' x o):Inv X pins σ (upd H x o) { s with heap:=h',toks:=t' }:=I.un (Un.write mu he k heo) (I.hok.write mu he k heo new)
theorem Inv.pins_of {pins':List (Addr×Obj)} (I:Inv X pins σ H s) (h:∀p∈pins',s.heap.get? p.1=some p.2∧H p.1=none∧p.1≠X.env.locals∧p.1∉X.fs∧∀v,p.2.data≠.cell v):Inv X pins' σ H s:=
  ⟨I.ok,I.os,I.bare,I.base,I.loc,I.cell,I.free,I.freeC,fun p hp=>(List.mem_append.mp hp).elim (fun z=>I.pin p (List.mem_append_left _ z)) (h p),I.hok,I.len⟩
theorem ZlE {N:List Str} (hN:N.Nodup) {i j:Nat} {x:Str} (a:N[i]?=some x) (b:N[j]?=some x):i=j:=by
  obtain ⟨h1,e1⟩:=List.getElem?_eq_some_iff.mp a
  obtain ⟨h2,e2⟩:=List.getElem?_eq_some_iff.mp b
  exact (List.getElem_inj hN).mp (e1.trans e2.symm)
theorem ZnX {M:Model} {A:Around} {E:Value→Shared→Prop} {i:Nat} {x:Str} {v:V} {u:Value} {Q:Unit→Shared→Prop} (I:Inv X pins σ H s) (hN:X.N.Nodup) (hi:X.N[i]?=some x) (hx:Loc X.env.scope x) (r:RelV v u)
    (h:∀s',Inv X pins (σ.set i (some v)) H s'→(∃a,Heap.SameBut a s.heap s'.heap∧(a=X.env.locals∨X.env.cells.lookup x=some a))→Q () s') (hf:X.fn x=true∨X.env.scope.names.lookup x=some .local:=by first | exact .inl rfl | exact .inr rfl | assumption):wpAny M A (storeName X.env x u) Q E s:=by
  obtain ⟨m,hn,hl⟩:=id I.loc
  have hcls:(X.env.scope.kind == .class || (X.env.scope.kind == .module && X.env.locals != X.env.globals))=false:=by rw [I.ok.kind]; rfl
  have hiσ:i < σ.length:=by rw [I.len]; exact (List.getElem?_eq_some_iff.mp hi).1
  have cne:=I.cne
  have tracked:∀{a:Addr} {h':Heap},(∃o,s.heap.get? a=some o∧H a=none)→Heap.SameBut a s.heap h'→HOk X.prog X.w H h':=fun {a h'} ha hs b ob e=>by
    obtain ⟨_,_,hfree⟩:=ha
    refine (I.hok b ob e).stay (fun c w' hc q=>(hs.2 c ?_).trans q) (fun _ q=>q) fun _ _ q=>q
    rintro rfl
    rcases hc with rfl | hc
    · rw [hfree] at e; cases e
    · rw [hfree] at hc; cases hc
  rcases hx with hk | hk
  · refine wpAny_storeName_local hk hn (fun h' hn' hs=>?_) hcls
    obtain ⟨oL,_,_,hoL,_⟩:=id hn
    refine h _ ⟨I.ok,I.os,I.bare,⟨fun b o e n hb hx=>?_,fun b o e n hb hx=>?_,I.base.free,fun b o e hx=>?_,I.base.tups,I.base.frzs,I.base.tbls⟩,⟨_,hn',fun j y v' e1 e2 e3=>?_⟩,fun y c e=>?_,I.free,I.freeC,fun p hp=>?_,tracked ⟨oL,hoL,I.free⟩ hs,by simpa using I.len⟩ ⟨_,hs,.inl rfl⟩
    · exact (hs.2 b (Nat.ne_of_lt (Nat.lt_of_lt_of_le (Heap.lt_size e) I.ok.above))).trans (I.base.keep b o e n hb hx)
    · obtain ⟨sl,e1⟩:=I.base.slot b o e n hb hx
      exact ⟨sl,(hs.2 b (Nat.ne_of_lt (Nat.lt_of_lt_of_le (Heap.lt_size e) I.ok.above))).trans e1⟩
    · obtain ⟨o',e1⟩:=I.base.there b o e hx
      exact ⟨o',(hs.2 b (Nat.ne_of_lt (Nat.lt_of_lt_of_le (Heap.lt_size e) I.ok.above))).trans e1⟩
    · by_cases hj:j=i
      · subst hj
        rw [hi] at e1; cases e1
        rw [List.getElem?_set_self hiσ] at e2
        cases e2
        exact ⟨u,r,.inl ⟨hk,by simp⟩⟩
      · rw [List.getElem?_set_ne (Ne.symm hj)] at e2
        obtain ⟨u',r',q⟩:=hl j y v' e1 e2 e3
        refine ⟨u',r',?_⟩
        rcases q with ⟨k,e⟩ | ⟨k,c,e,z⟩
        · refine .inl ⟨k,?_⟩
          have:y≠x:=fun e=>hj (ZlE hN e1 (e ▸ hi))
          simp [this,e]
        · exact .inr ⟨k,c,e,z.sameBut hs (cne y c e)⟩
    · obtain ⟨w',z⟩:=I.cell y c e
      exact ⟨w',z.sameBut hs (cne y c e)⟩
    · obtain ⟨e,n,ne,nf,d⟩:=I.pin p hp
      exact ⟨(hs.2 p.1 ne).trans e,n,ne,nf,d⟩
  · have hfn:X.fn x=true:=by
      rcases hf with z | z
      · exact z
      · rw [z] at hk; cases hk
    obtain ⟨c,hc⟩:=I.ok.has x (.inl hk)
    obtain ⟨w',z⟩:=I.cell x c hc
    refine wpAny_storeName_cell I.ok.kind hk hc z (fun h' hc' hs=>?_)
    obtain ⟨oc,hoc,hocd⟩:=id z
    refine h { s with heap:=h' } ⟨I.ok,I.os,I.bare,⟨fun b o e n hb hx=>?_,fun b o e n hb hx=>?_,I.base.free,fun b o e hx=>?_,I.base.tups,I.base.frzs,I.base.tbls⟩,⟨m,hn.sameBut hs (Ne.symm (cne x c hc)),fun j y v' e1 e2 e3=>?_⟩,fun y c' e=>?_,I.free,I.freeC,fun p hp=>?_,tracked ⟨oc,hoc,I.freeC x c hc⟩ hs,by simpa using I.len⟩ ⟨c,hs,.inr hc⟩
    · exact (hs.2 b (Nat.ne_of_lt (Nat.lt_of_lt_of_le (Heap.lt_size e) (I.ok.cab x c hfn hc)))).trans (I.base.keep b o e n hb hx)
    · obtain ⟨sl,e1⟩:=I.base.slot b o e n hb hx
      exact ⟨sl,(hs.2 b (Nat.ne_of_lt (Nat.lt_of_lt_of_le (Heap.lt_size e) (I.ok.cab x c hfn hc)))).trans e1⟩
    · obtain ⟨o',e1⟩:=I.base.there b o e hx
      exact ⟨o',(hs.2 b (Nat.ne_of_lt (Nat.lt_of_lt_of_le (Heap.lt_size e) (I.ok.cab x c hfn hc)))).trans e1⟩
    · by_cases hj:j=i
      · subst hj
        rw [hi] at e1; cases e1
        rw [List.getElem?_set_self hiσ] at e2
        cases e2
        exact ⟨u,r,.inr ⟨.inl hk,c,hc,hc'⟩⟩
      · rw [List.getElem?_set_ne (Ne.symm hj)] at e2
        obtain ⟨u',r',q⟩:=hl j y v' e1 e2 e3
        refine ⟨u',r',?_⟩
        rcases q with q | ⟨k,c',e,z'⟩
        · exact .inl q
        · refine .inr ⟨k,c',e,z'.sameBut hs ?_⟩
          rintro rfl
          exact hj (ZlE hN e1 (I.ok.inj _ _ _ e hc ▸ hi))
    · by_cases hcc:c'=c
      · subst hcc; exact ⟨_,hc'⟩
      · obtain ⟨w2,z2⟩:=I.cell y c' e
        exact ⟨w2,z2.sameBut hs hcc⟩
    · obtain ⟨e,n,ne,nf,d⟩:=I.pin p hp
      refine ⟨(hs.2 p.1 ?_).trans e,n,ne,nf,d⟩
      intro q
      rw [q,hoc] at e
      have q':oc=p.2:=Option.some.inj e
      exact d w' (by rw [←q']; exact hocd)
theorem Zln {M:Model} {A:Around} {E:Value→Shared→Prop} {i:Nat} {x:Str} {v:V} {u:Value} {Q:Unit→Shared→Prop} (I:Inv X pins σ H s) (hN:X.N.Nodup) (hi:X.N[i]?=some x) (hx:Loc X.env.scope x) (r:RelV v u)
    (h:∀s',Inv X pins (σ.set i (some v)) H s'→Q () s') (hf:X.fn x=true∨X.env.scope.names.lookup x=some .local:=by first | exact .inl rfl | exact .inr rfl | assumption):wpAny M A (storeName X.env x u) Q E s:=
  ZnX I hN hi hx r (fun s' I' _=>h s' I') hf
theorem Inv.call' {s':Shared} {ch:List Addr} (I:Inv X pins σ H s) (ho:s'.os=s.os) (u:Un (frs X.stack) ch H H' s.heap s'.heap) (hok:HOk X.prog X.w H' s'.heap) (hg:AllBare s'.gens)
    (hch:∀b∈ch,(b∈X.ex∨X.s₀.heap.objs.size≤b)∧b≠X.env.locals∧(∀x c,X.env.cells.lookup x=some c→c≠b)∧∀p∈X.pn++pins,p.1≠b):Inv X pins σ H' s':=by
  obtain ⟨h',g',d',t',o'⟩:=s'
  have e:o'=s.os:=ho
  subst e
  exact I.call (g':=g') (t':=t') (d':=d') u hok hg hch
end
abbrev XK:=Value→Option Addr→Hp→Prop
abbrev St:=List (Option V)
abbrev VK:=V→Hp→Prop
abbrev TE:=St→Hp→VK→Prop
abbrev TT:=St→Hp→(Bool→Hp→Prop)→Prop
abbrev TA:=St→Hp→(List V→Hp→Prop)→Prop
structure ZfB where
  nx:St→Hp→Prop
  rt:VK
  bk:St→Hp→Prop:=fun _ _=>False
  ct:St→Hp→Prop:=fun _ _=>False
abbrev TS:=ZfB→St→Hp→Prop
def EP (X:Cx) (pins:List (Addr×Obj)) (σ:St) (Q:VK) (u:Value) (s':Shared):Prop:=∃v H',Inv X pins σ H' s'∧RelV v u∧Q v H'
def TP (X:Cx) (pins:List (Addr×Obj)) (σ:St) (Q:Bool→Hp→Prop) (b:Bool) (s':Shared):Prop:=∃H',Inv X pins σ H' s'∧Q b H'
def AP (X:Cx) (pins:List (Addr×Obj)) (σ:St) (Q:List V→Hp→Prop) (us:List Value) (s':Shared):Prop:=∃vs H',Inv X pins σ H' s'∧Vals vs us∧Q vs H'
def SP (X:Cx) (pins:List (Addr×Obj)) (D:ZfB) (f:Flow) (s':Shared):Prop:=
  match f with
  | .next=>∃σ' H',Inv X pins σ' H' s'∧D.nx σ' H'
  | .brk=>∃σ' H',Inv X pins σ' H' s'∧D.bk σ' H'
  | .cont=>∃σ' H',Inv X pins σ' H' s'∧D.ct σ' H'
  | .ret u=>∃v σ' H',Inv X pins σ' H' s'∧RelV v u∧D.rt v H'
def PE (X:Cx) (e:Expr) (t:TE):Prop:=
  ∀(pins:List (Addr×Obj)) (s:Shared) (σ:St) (H:Hp) (Q:VK),Inv X pins σ H s→t σ H Q→wpAny (model X.prog X.w) X.A (eval e X.env) (EP X pins σ Q) X.xe s
def PT (X:Cx) (e:Expr) (t:TT):Prop:=
  ∀(pins:List (Addr×Obj)) (s:Shared) (σ:St) (H:Hp) (Q:Bool→Hp→Prop),Inv X pins σ H s→t σ H Q→wpAny (model X.prog X.w) X.A (isTrue e X.env (eval e X.env)) (TP X pins σ Q) X.xe s
def PW (X:Cx) (e:Expr) (t:TT):Prop:=
  ∀(whole:Sem Value) (pins:List (Addr×Obj)) (s:Shared) (σ:St) (H:Hp) (Q:Bool→Hp→Prop),Inv X pins σ H s→t σ H Q→wpAny (model X.prog X.w) X.A (isTrue e X.env whole) (TP X pins σ Q) X.xe s
theorem PW.pt {X:Cx} {e:Expr} {t:TT} (h:PW X e t):PT X e t:=h _
def PA (X:Cx) (es:List Expr) (t:TA):Prop:=
  ∀(pos:Pos) (pins:List (Addr×Obj)) (s:Shared) (σ:St) (H:Hp) (Q:List V→Hp→Prop),Inv X pins σ H s→t σ H Q→wpAny (model X.prog X.w) X.A (spliced (backTo pos (starEach es X.env))) (AP X pins σ Q) X.xe s
def PS (X:Cx) (st:Stmt) (t:TS):Prop:=
  ∀(pins:List (Addr×Obj)) (s:Shared) (σ:St) (H:Hp) (D:ZfB),Inv X pins σ H s→t D σ H→wpAny (model X.prog X.w) X.A (exec st X.env) (SP X pins D) X.xe s
def PSs (X:Cx) (st:List Stmt) (t:TS):Prop:=
  ∀(pins:List (Addr×Obj)) (s:Shared) (σ:St) (H:Hp) (D:ZfB),Inv X pins σ H s→t D σ H→wpAny (model X.prog X.w) X.A (execs st X.env) (SP X pins D) X.xe s
theorem thn {α:Type} {t:Sem α} {Q Q':α→Shared→Prop} {M:Model} {A:Around} {E:Value→Shared→Prop} {s:Shared} (h:wpAny M A t Q E s) (hQ:∀a s,Q a s→Q' a s):wpAny M A t Q' E s:=wpAny_mono h hQ fun _ _ x=>x
end L2
namespace L2
open PySem PySem.Spec PyProof.Rows
section
variable {X:Cx}
theorem bin {a b:Expr} {ta tb:TE} (ha:PE X a ta) (hb:PE X b tb) {pins:List (Addr×Obj)} {s:Shared} {σ:St} {H:Hp} {R:V→V→Hp→Prop} (I:Inv X pins σ H s) (h:ta σ H fun x H1=>tb σ H1 fun y H2=>R x y H2)
    {α:Type} {Q:α→Shared→Prop} {f:Value→Value→Sem α}
    (hf:∀v u s2 x y H2,Inv X pins σ H2 s2→RelV x v→RelV y u→R x y H2→wpAny (model X.prog X.w) X.A (f v u) Q X.xe s2) :
    wpAny (model X.prog X.w) X.A (eval a X.env) (fun v s₁=>wpAny (model X.prog X.w) X.A (eval b X.env) (fun u s₂=>wpAny (model X.prog X.w) X.A (f v u) Q X.xe s₂) X.xe s₁) X.xe s:=by
  refine thn (ha pins s σ H _ I h) fun v s1 ⟨x,H1,I1,r1,q1⟩=>?_
  refine thn (hb pins s1 σ H1 _ I1 q1) fun u s2 ⟨y,H2,I2,r2,q2⟩=>?_
  exact hf v u s2 x y H2 I2 r1 r2 q2
def ZzI (i:Nat):TE:=fun σ H Q=>∃v,σ[i]?=some (some v)∧Q v H
def tC (v:V):TE:=fun _ H Q=>Q v H
theorem ZhW {i:Nat} {x:Str} {pos:Pos} (hN:X.N[i]?=some x) (hv:Vis X.env.scope x) (hd:(x == ("__debug__":Str))=false:=by decide) (hcd:(x == ("__classdict__":Str))=false:=by decide):PE X (.Name x pos) (ZzI i):=by
  intro pins s σ H Q I h
  obtain ⟨v,e,h⟩:=h
  obtain ⟨m,hn,hl⟩:=I.loc
  obtain ⟨u,r,l⟩:=hl i x v hN e hv
  have fin:EP X pins σ Q u s:=⟨v,H,I,r,h⟩
  rcases l with ⟨hk,hm⟩ | ⟨hk,c,hc,hcell⟩
  · exact wpAny_Name (wpAny_loadName_local I.ok.kind hk hn hm fin) hd
  · rcases hk with hk | hk
    · exact wpAny_Name (wpAny_loadName_cell I.ok.kind hk hc hcell fin) hd
    · exact wpAny_Name (wpAny_loadName_free I.ok.kind hk hc hcell fin hcd) hd
theorem ZuI {i j pos}:PE X (.Constant (.int i) j pos) (tC (.int i)):=fun _ _ _ H _ I h=>wpAny_Constant_int ⟨.int i,H,I.tok _,⟨_,rfl⟩,h⟩
theorem Zws {b j pos}:PE X (.Constant (.bool b) j pos) (tC (.bl b)):=fun _ _ _ H _ I h=>Constant_bool ⟨.bl b,H,I,rfl,h⟩
theorem ZuH {j pos}:PE X (.Constant .none j pos) (tC .non):=fun _ _ _ H _ I h=>Constant_none ⟨.non,H,I,rfl,h⟩
theorem ZuF {x j pos}:PE X (.Constant (.str x) j pos) (tC (.str x)):=fun _ _ _ H _ I h=>Calls.Constant_str ⟨.str x,H,I.tok _,⟨_,rfl⟩,h⟩
def Gl (X:Cx) (x:Str):Prop:=X.env.kindOf x=some .globalImplicit
theorem ZhD {E:Value→Shared→Prop} {pins:List (Addr×Obj)} {s:Shared} {σ:St} {H:Hp} {x:Str} {u:Value} {pos:Pos} {Q:Value→Shared→Prop} (I:Inv X pins σ H s) (hg:Gl X x) (hm:X.mg x=some u) (h:Q u s)
    (hd:(x == ("__debug__":Str))=false:=by decide):wpAny (model X.prog X.w) X.A (eval (.Name x pos) X.env) Q E s:=
  Calls.Name_function_global I.ok.kind hg (Calls.loadGlobal_global (by rw [I.ok.glob]; exact I.mod.glob.keeps I.bk) hm h) hd
theorem Zh8 {E:Value→Shared→Prop} {pins:List (Addr×Obj)} {s:Shared} {σ:St} {H:Hp} {x:Str} {u:Value} {pos:Pos} {Q:Value→Shared→Prop} (I:Inv X pins σ H s) (hg:Gl X x) (hm:X.mg x=none) (hv:bootBuiltins x=some u) (h:Q u s)
    (hn:x≠"__name__":=by decide) (hd:(x == ("__debug__":Str))=false:=by decide):wpAny (model X.prog X.w) X.A (eval (.Name x pos) X.env) Q E s:=by
  obtain ⟨mb,h1,h2⟩:=I.mod.blt
  exact Calls.Name_function_global I.ok.kind hg (Calls.loadGlobal_builtin (by rw [I.ok.glob]; exact I.mod.glob.keeps I.bk) hm (by rw [I.ok.blt]; exact h1.keeps I.bk) ((h2 x hn).trans hv) h) hd
theorem Zng {x:Str} {v:V} {u:Value} {pos:Pos} (hg:Gl X x) (hm:X.mg x=some u) (r:RelV v u) (hd:(x == ("__debug__":Str))=false:=by decide):PE X (.Name x pos) (tC v):=
  fun _ _ _ H _ I h=>ZhD I hg hm ⟨v,H,I,r,h⟩ hd
theorem Zsx {x:Str} {v:V} {u:Value} {pos:Pos} (hg:Gl X x) (hm:X.mg x=none) (hv:bootBuiltins x=some u) (r:RelV v u) (hn:x≠"__name__":=by decide) (hd:(x == ("__debug__":Str))=false:=by decide):PE X (.Name x pos) (tC v):=
  fun _ _ _ H _ I h=>Zh8 I hg hm hv ⟨v,H,I,r,h⟩ hn hd
variable {a b:Expr} {ta tb:TE} {pos:Pos}
def PC (X:Cx) (op:CmpOp) (a b:Expr) (t:TE):Prop:=
  ∀(pins:List (Addr×Obj)) (s:Shared) (σ:St) (H:Hp) (Q:VK),Inv X pins σ H s→t σ H Q→
    wpAny (model X.prog X.w) X.A (eval a X.env) (fun v s₁=>wpAny (model X.prog X.w) X.A (eval b X.env) (fun u s₂=>wpAny (model X.prog X.w) X.A (compareOp op v u) (EP X pins σ Q) X.xe s₂) X.xe s₁) X.xe s
theorem ZqO (b:Expr) {op:CmpOp} (h:op≠.In) (h2:op≠.NotIn):behindInMarks op b=false:=by
  have e1:(op == CmpOp.In)=false:=by cases op<;>first | rfl | exact absurd rfl h
  have e2:(op == CmpOp.NotIn)=false:=by cases op<;>first | rfl | exact absurd rfl h2
  cases b<;>simp [behindInMarks,e1,e2]
def tB (t:TE):TT:=fun σ H Q=>t σ H fun x H1=>∃c,x=.bl c∧Q c H1
theorem Zuu {op:CmpOp} {t:TE} (h:PC X op a b t) (h1:behindInMarks op b=false:=by first | exact ZqO _ (by decide) (by decide) | rfl):PT X (.Compare a [op] [b] pos) (tB t):=by
  intro pins s σ H Q I hw
  refine wpAny_isTrue_Compare1 (thn (h pins s σ H _ I hw) fun v s1 h1=>thn h1 fun u s2 h2=>thn h2 fun c s3 ⟨x,H1,I1,r1,q1⟩=>?_) h1
  obtain ⟨d,rfl,q⟩:=q1
  cases r1
  exact wpAny_truthy_bool ⟨H1,I1,q⟩
variable {tA tB':TT} {rest:List Expr}
def ZzT (t u:TT):TT:=fun σ H Q=>t σ H fun c H1=>if c=true then u σ H1 Q else Q false H1
def tOr (t u:TT):TT:=fun σ H Q=>t σ H fun c H1=>if c=true then Q true H1 else u σ H1 Q
def ZzO (t:TT):TT:=fun σ H Q=>t σ H fun c H1=>Q (!c) H1
theorem Zsj (ha:PT X a tA):PW X (.BoolOp .And [a] pos) tA:=by
  intro wh pins s σ H Q I h
  refine isTrue_and (thn (ha pins s σ H Q I h) fun c s1 e=>?_)
  cases c with
  | true=>exact isTrue_and_nil e
  | false=>exact e
theorem Zuq (ha:PT X a tA):PW X (.BoolOp .Or [a] pos) tA:=by
  intro wh pins s σ H Q I h
  refine isTrue_or (thn (ha pins s σ H Q I h) fun c s1 e=>?_)
  cases c with
  | false=>exact isTrue_or_nil e
  | true=>exact e
theorem Zur (ha:PT X a tA) (hb:PW X (.BoolOp .And (b::rest) pos) tB'):PW X (.BoolOp .And (a::b::rest) pos) (ZzT tA tB'):=by
  intro wh pins s σ H Q I h
  refine isTrue_and (thn (ha pins s σ H _ I h) fun c s1 ⟨H1,I1,q1⟩=>?_)
  cases c with
  | true=>exact hb wh pins s1 σ H1 Q I1 q1
  | false=>exact ⟨H1,I1,q1⟩
theorem Zwk (ha:PT X a tA) (hb:PW X (.BoolOp .Or (b::rest) pos) tB'):PW X (.BoolOp .Or (a::b::rest) pos) (tOr tA tB'):=by
  intro wh pins s σ H Q I h
  refine isTrue_or (thn (ha pins s σ H _ I h) fun c s1 ⟨H1,I1,q1⟩=>?_)
  cases c with
  | true=>exact ⟨H1,I1,q1⟩
  | false=>exact hb wh pins s1 σ H1 Q I1 q1
theorem Zut (ha:PT X a tA):PT X (.UnaryOp .Not a pos) (ZzO tA):=by
  intro pins s σ H Q I h
  exact isTrue_not (ha pins s σ H (fun c H1=>Q (!c) H1) I h)
def Zv7 (ta tb:TE):TE:=fun σ H Q=>ta σ H fun x H1=>∃c,x=.bl c∧if c=true then tb σ H1 Q else Q (.bl false) H1
def ZzN (ta tb:TE):TE:=fun σ H Q=>ta σ H fun x H1=>∃c,x=.bl c∧if c=true then Q (.bl true) H1 else tb σ H1 Q
theorem ZuG {op} {t:TE} (h:PE X a t):PE X (.BoolOp op [a] pos) t:=fun pins s σ H Q I hw=>BoolOp_one (h pins s σ H Q I hw)
theorem ZuK (ha:PE X a ta) (hb:PE X (.BoolOp .And (b::rest) pos) tb):PE X (.BoolOp .And (a::b::rest) pos) (Zv7 ta tb):=by
  intro pins s σ H Q I h
  refine BoolOp_and (thn (ha pins s σ H _ I h) fun v s1 ⟨x,H1,I1,r1,q1⟩=>?_)
  obtain ⟨c,rfl,q1⟩:=q1
  cases r1
  refine wpAny_truthy_bool ?_
  cases c with
  | true=>exact hb pins s1 σ H1 Q I1 q1
  | false=>exact ⟨.bl false,H1,I1,rfl,q1⟩
theorem Zwp (ha:PE X a ta) (hb:PE X (.BoolOp .Or (b::rest) pos) tb):PE X (.BoolOp .Or (a::b::rest) pos) (ZzN ta tb):=by
  intro pins s σ H Q I h
  refine BoolOp_or (thn (ha pins s σ H _ I h) fun v s1 ⟨x,H1,I1,r1,q1⟩=>?_)
  obtain ⟨c,rfl,q1⟩:=q1
  cases r1
  refine wpAny_truthy_bool ?_
  cases c with
  | false=>exact hb pins s1 σ H1 Q I1 q1
  | true=>exact ⟨.bl true,H1,I1,rfl,q1⟩
def tIf (t:TT) (ta tb:TE):TE:=fun σ H Q=>t σ H fun c H1=>if c=true then ta σ H1 Q else tb σ H1 Q
theorem Zqx {c:Expr} (hc:PT X c tA) (ha:PE X a ta) (hb:PE X b tb):PE X (.IfExp c a b pos) (tIf tA ta tb):=by
  intro pins s σ H Q I h
  refine wpAny_IfExp (thn (hc pins s σ H _ I h) fun d s1 ⟨H1,I1,q1⟩=>?_)
  cases d with
  | true=>exact ha pins s1 σ H1 Q I1 q1
  | false=>exact hb pins s1 σ H1 Q I1 q1
end
end L2
namespace L2
open PySem PySem.Spec PyProof.Rows
def SqL (K:PySem.W.Frag) (H:Hp) (a:Addr) (xs:List V):Prop:=
  Rd H a (.lst xs)∨
    ∃(o:Obj) (its:Array Value) (n:Nat),K.lookup a=some o∧o.cls=.type "list"∧o.dict=none∧o.data=.seq its n∧its.size≤sizeLine∧Vals xs its.toList
def SqT (K:PySem.W.Frag) (H:Hp) (a:Addr) (xs:List V):Prop:=
  Rd H a (.tup xs)∨
    ∃(o:Obj) (its:Array Value) (n:Nat),K.lookup a=some o∧o.cls=.type "tuple"∧o.data=.seq its n∧its.size≤sizeLine∧Vals xs its.toList
def ZAz:Value→Option V
  | .none=>some .non
  | .bool b=>some (.bl b)
  | .int i _=>some (.int i)
  | .str x _=>some (.str x)
  | .bytes b _=>some (.byt b)
  | .float b _=>some (.flt b)
  | .ref a=>some (.ref a)
  | .type n=>some (.ty n)
  | _=>none
theorem RelV.abs {x:V} {u:Value} (r:RelV x u):ZAz u=some x:=by
  cases x with
  | non=>cases r; rfl
  | bl _=>cases r; rfl
  | int _=>obtain ⟨t,rfl⟩:=r; rfl
  | str _=>obtain ⟨t,rfl⟩:=r; rfl
  | byt _=>obtain ⟨t,rfl⟩:=r; rfl
  | flt _=>obtain ⟨t,rfl⟩:=r; rfl
  | ref _=>cases r; rfl
  | ty _=>cases r; rfl
theorem RelV.inj {x y:V} {u:Value} (r:RelV x u) (q:RelV y u):x=y:=Option.some.inj (r.abs.symm.trans q.abs)
theorem Vals.inj:∀{xs ys:List V} {us:List Value},Vals xs us→Vals ys us→xs=ys
  | _,_,_,.nil,.nil=>rfl
  | _,_,_,.cons r t,.cons r' t'=>by rw [r.inj r',Vals.inj t t']
section
variable {X:Cx} {pins:List (Addr×Obj)} {σ:St} {H:Hp} {s:Shared} {a:Addr} {xs ys:List V}
theorem SqL.of {K:PySem.W.Frag} (h:H a=some (.lst xs)):SqL K H a xs:=.inl (.inl h)
theorem SqT.of {K:PySem.W.Frag} (h:H a=some (.tup xs)):SqT K H a xs:=.inl (.inl h)
theorem Inv.list (I:Inv X pins σ H s) (h:SqL X.K H a xs):∃its:List Value,Vals xs its∧PlainL s.heap a its.toArray∧xs.length≤sizeLine:=by
  rcases h with h | ⟨o,its,n,hk,hc,hd,hs,hz,r⟩
  · obtain ⟨z,its,n,r,e⟩:=h.ok I.hok
    exact ⟨its,r,⟨_,n,e,rfl,rfl,rfl⟩,z⟩
  · refine ⟨its.toList,r,⟨o,n,I.kIn a o hk,hc,hd,by simpa using hs⟩,?_⟩
    have e:=r.length
    simp only [Array.length_toList] at e
    omega
theorem Inv.tuple (I:Inv X pins σ H s) (h:SqT X.K H a xs):∃its:List Value,Vals xs its∧IsTup s.heap a its.toArray∧xs.length≤sizeLine:=by
  rcases h with h | ⟨o,its,n,hk,hc,hs,hz,r⟩
  · obtain ⟨z,its,r,p⟩:=h.ok I.hok
    exact ⟨its,r,p,z⟩
  · refine ⟨its.toList,r,⟨o,I.kIn a o hk,hc,n,by simpa using hs⟩,?_⟩
    have e:=r.length
    simp only [Array.length_toList] at e
    omega
theorem Inv.list_inj (I:Inv X pins σ H s) (h:SqL X.K H a xs) (h':SqL X.K H a ys):xs=ys:=by
  obtain ⟨its,r,⟨o,n,e,_,_,d⟩,_⟩:=I.list h
  obtain ⟨its',r',⟨o',n',e',_,_,d'⟩,_⟩:=I.list h'
  rw [e] at e'; cases e'
  rw [d] at d'
  injection d' with d1 _
  have:its=its':=by simpa using congrArg Array.toList d1
  subst this
  exact r.inj r'
theorem Inv.tuple_inj (I:Inv X pins σ H s) (h:SqT X.K H a xs) (h':SqT X.K H a ys):xs=ys:=by
  obtain ⟨its,r,⟨o,e,_,n,d⟩,_⟩:=I.tuple h
  obtain ⟨its',r',⟨o',e',_,n',d'⟩,_⟩:=I.tuple h'
  rw [e] at e'; cases e'
  rw [d] at d'
  injection d' with d1 _
  have:its=its':=by simpa using congrArg Array.toList d1
  subst this
  exact r.inj r'
end
abbrev Cx.wish (X:Cx) (E:Value→Shared→Prop):Cx:={ X with xe:=E }
abbrev Cx.nox (X:Cx):Cx:=X.wish fun _ _=>False
theorem Cx.Ok.wish {X:Cx} (ok:X.Ok) (E:Value→Shared→Prop):(X.wish E).Ok:=
  ⟨ok.mod,ok.kind,ok.glob,ok.blt,ok.above,ok.inj,ok.has,ok.cab,ok.hd,ok.frames,ok.stk,ok.exf,ok.bs,ok.bsz,ok.noex,ok.exfs,ok.funs,ok.frf⟩
theorem Cx.Ok.unwish {X:Cx} {E:Value→Shared→Prop} (ok:(X.wish E).Ok):X.Ok:=
  ⟨ok.mod,ok.kind,ok.glob,ok.blt,ok.above,ok.inj,ok.has,ok.cab,ok.hd,ok.frames,ok.stk,ok.exf,ok.bs,ok.bsz,ok.noex,ok.exfs,ok.funs,ok.frf⟩
section
variable {X:Cx} {pins:List (Addr×Obj)} {σ:St} {H:Hp} {s:Shared} {E:Value→Shared→Prop}
theorem Inv.wish (I:Inv X pins σ H s) (E:Value→Shared→Prop):Inv (X.wish E) pins σ H s:=⟨I.ok.wish E,I.os,I.bare,I.base,I.loc,I.cell,I.free,I.freeC,I.pin,I.hok,I.len⟩
theorem Inv.unwish (I:Inv (X.wish E) pins σ H s):Inv X pins σ H s:=⟨I.ok.unwish,I.os,I.bare,I.base,I.loc,I.cell,I.free,I.freeC,I.pin,I.hok,I.len⟩
theorem SP.unwish {D:ZfB} {f:Flow} {s':Shared} (h:SP (X.wish E) pins D f s'):SP X pins D f s':=by
  cases f with
  | next=>obtain ⟨σ',H',I,q⟩:=h; exact ⟨σ',H',I.unwish,q⟩
  | brk=>obtain ⟨σ',H',I,q⟩:=h; exact ⟨σ',H',I.unwish,q⟩
  | cont=>obtain ⟨σ',H',I,q⟩:=h; exact ⟨σ',H',I.unwish,q⟩
  | ret u=>obtain ⟨v,σ',H',I,r,q⟩:=h; exact ⟨v,σ',H',I.unwish,r,q⟩
theorem PSs.nox {st:List Stmt} {t:TS} (h:PSs X.nox st t):PSs X st t:=fun pins s σ H D I hw=>
  wpAny_mono (h pins s σ H D (I.wish _) hw) (fun _ _ q=>q.unwish) fun _ _ z=>False.elim z
end
section
variable {X:Cx} {st:Stmt} {rest:List Stmt} {t u:TS} {e:Expr} {te:TE} {pos:Pos}
def Zv4:TS:=fun D σ H=>D.nx σ H
def ZzL (t u:TS):TS:=fun D σ H=>t { D with nx:=u D } σ H
theorem Zsn:PSs X [] Zv4:=fun _ _ σ H _ I h=>wpAny_execs_nil ⟨σ,H,I,h⟩
theorem Zqo (h1:PS X st t) (h2:PSs X rest u):PSs X (st::rest) (ZzL t u):=by
  intro pins s σ H D I h
  refine wpAny_execs_cons (thn (h1 pins s σ H { D with nx:=u D } I h) fun f s1 q=>?_)
  cases f with
  | next=>
    obtain ⟨σ',H',I',q⟩:=q
    exact h2 pins s1 σ' H' D I' q
  | ret v=>exact q
  | brk=>exact q
  | cont=>exact q
theorem Zsm (h1:PS X st t):PSs X [st] t:=by
  intro pins s σ H D I h
  refine wpAny_execs_cons (thn (h1 pins s σ H D I h) fun f s1 q=>?_)
  cases f with
  | next=>exact wpAny_execs_nil q
  | ret v=>exact q
  | brk=>exact q
  | cont=>exact q
theorem Inv.quiet {pins:List (Addr×Obj)} {σ:St} {H:Hp} {s:Shared} (I:Inv X pins σ H s):interactive X.env=false:=by simp [interactive,I.ok.kind]
def Zv5 (te:TE):TS:=fun D σ H=>te σ H fun _ H1=>D.nx σ H1
theorem Znc (he:PE X e te) (hs:swapsWith e none pos.line X.env=pure false:=by rfl):PS X (.Expr e pos) (Zv5 te):=by
  intro pins s σ H D I h
  exact wpAny_Expr_any (thn (he pins s σ H _ I h) fun v s1 ⟨x,H1,I1,r1,q1⟩=>⟨σ,H1,I1,q1⟩) I.quiet hs
def ZzM (te:TE):TS:=fun D σ H=>te σ H D.rt
theorem Zuv (he:PE X e te):PS X (.Return (some e) pos) (ZzM te):=by
  intro pins s σ H D I h
  exact wpAny_Return_some (thn (he pins s σ H _ I h) fun v s1 ⟨x,H1,I1,r1,q1⟩=>⟨x,σ,H1,I1,r1,q1⟩)
def Zv2:TS:=fun D _ H=>D.rt .non H
theorem Zso:PS X (.Return none pos) Zv2:=fun _ _ σ H _ I h=>wpAny_Return_none ⟨.non,σ,H,I,rfl,h⟩
def ZzQ (c:TT) (t u:TS):TS:=fun D σ H=>c σ H fun b H1=>if b=true then t D σ H1 else u D σ H1
theorem Zwm {c:Expr} {a b:List Stmt} {tc:TT} (hc:PT X c tc) (ha:PSs X a t) (hb:PSs X b u):PS X (.If c a b pos) (ZzQ tc t u):=by
  intro pins s σ H D I h
  refine wpAny_If (thn (hc pins s σ H _ I h) fun d s1 ⟨H1,I1,q1⟩=>?_)
  cases d with
  | true=>exact ha pins s1 σ H1 D I1 q1
  | false=>exact hb pins s1 σ H1 D I1 q1
end
abbrev TG:=V→St→Hp→(St→Hp→Prop)→Prop
abbrev TGs:=List V→St→Hp→(St→Hp→Prop)→Prop
def PG (X:Cx) (target:Expr) (t:TG):Prop:=
  ∀(pins:List (Addr×Obj)) (s:Shared) (σ:St) (H:Hp) (v:V) (u:Value) (Q:St→Hp→Prop),Inv X pins σ H s→RelV v u→t v σ H Q→
    wpAny (model X.prog X.w) X.A (assign target X.env u) (fun _ s'=>∃σ' H',Inv X pins σ' H' s'∧Q σ' H') X.xe s
def PGs (X:Cx) (ts:List Expr) (t:TGs):Prop:=
  ∀(pins:List (Addr×Obj)) (s:Shared) (σ:St) (H:Hp) (vs:List V) (us:List Value) (Q:St→Hp→Prop),Inv X pins σ H s→Vals vs us→t vs σ H Q→
    wpAny (model X.prog X.w) X.A (assignInOrder ((assignEach ts X.env).map (·.2)) us) (fun _ s'=>∃σ' H',Inv X pins σ' H' s'∧Q σ' H') X.xe s
abbrev Zvf:=V→V→V→Hp→(Hp→Prop)→Prop
def Zw7 (X:Cx) (t:Zvf):Prop:=
  ∀(pins:List (Addr×Obj)) (s:Shared) (σ:St) (H:Hp) (o i v:V) (ov iv u:Value) (Q:Hp→Prop),Inv X pins σ H s→RelV o ov→RelV i iv→RelV v u→t o i v H Q→
    wpAny (model X.prog X.w) X.A (setItem ov iv u) (fun _ s'=>∃H',Inv X pins σ H' s'∧Q H') X.xe s
section
variable {X:Cx} {pos:Pos}
def ZlW (i:Nat):TG:=fun v σ H Q=>Q (σ.set i (some v)) H
theorem Zf5 {i:Nat} {x:Str} (hN:X.N.Nodup) (hi:X.N[i]?=some x) (hx:Loc X.env.scope x) (hf:X.fn x=true∨X.env.scope.names.lookup x=some .local:=by first | exact .inl rfl | exact .inr rfl | assumption):PG X (.Name x pos) (ZlW i):=by
  intro pins s σ H v u Q I r h
  exact wpAny_assign_Name (Zln I hN hi hx r (fun s' I'=>⟨_,H,I',h⟩) hf)
def ZAs:TGs:=fun vs σ H Q=>vs=[]∧Q σ H
def ZwU (t:TG) (u:TGs):TGs:=fun vs σ H Q=>∃v r,vs=v::r∧t v σ H fun σ' H'=>u r σ' H' Q
theorem Zss:PGs X [] ZAs:=by
  intro pins s σ H vs us Q I r h
  obtain ⟨e,h⟩:=h
  subst e
  cases r
  exact assignInOrder_nil ⟨σ,H,I,h⟩
theorem Zlv {e:Expr} {es:List Expr} {t:TG} {u:TGs} (h1:PG X e t) (h2:PGs X es u)
    (hs:(assignEach (e::es) X.env).map (·.2)=assign e X.env::(assignEach es X.env).map (·.2):=by rfl):PGs X (e::es) (ZwU t u):=by
  intro pins s σ H vs us Q I r h
  obtain ⟨v,vr,e1,h⟩:=h
  subst e1
  cases r with
  | cons r rr=>
    rw [hs]
    refine assignInOrder_cons (thn (h1 pins s σ H _ _ _ I r h) fun _ s1 ⟨σ1,H1,I1,q1⟩=>?_)
    exact h2 pins s1 σ1 H1 _ _ Q I1 rr q1
def ZAr (K:PySem.W.Frag) (n:Nat) (t:TGs):TG:=fun v σ H Q=>∃a xs,v=.ref a∧SqT K H a xs∧xs.length=n∧t xs σ H Q
theorem ZuC {es:List Expr} {k:Nat} {t:TGs} {n:Nat} (hc:X.calm=true) (h:PGs X es t)
    (hn:(assignEach es X.env).length=n:=by rfl) (hst:(assignEach es X.env).findIdx? (·.1)=none:=by rfl):PG X (.Tuple es k pos) (ZAr X.K n t):=by
  intro pins s σ H v u Q I r hw
  obtain ⟨a,xs,e1,hq,hl,hw⟩:=hw
  subst e1
  cases r
  obtain ⟨its,rv,ht,hz⟩:=I.tuple hq
  refine assign_Tuple_tuple (I.ok.hd hc) ht (by simp [hn,←hl,rv.length]) hst fun h' hx=>?_
  have I1:Inv X pins σ H { s with heap:=h' }:=I.kept (t':=s.toks) fun b o e=>hx b o (Nat.ne_of_lt (Heap.lt_size e)) e
  exact h pins _ σ H xs _ Q I1 (by simpa using rv) hw
def ZwT (to ti:TE) (t:Zvf):TG:=fun v σ H Q=>to σ H fun o H1=>ti σ H1 fun i H2=>t o i v H2 fun H3=>Q σ H3
theorem ZuD {o i:Expr} {to ti:TE} {t:Zvf} (ho:PE X o to) (hi:PE X i ti) (hs:Zw7 X t)
    (ha:∀v,assign (.Subscript o i pos) X.env v=(do
      let ov ←holding [v] (eval o X.env)
      let iv ←holding [v,ov] (eval i X.env)
      standAt pos
      holding [v,ov,iv] (setItem ov iv v)
      release [v,ov,iv] []):=by intro _; rfl):PG X (.Subscript o i pos) (ZwT to ti t):=by
  intro pins s σ H v u Q I r h
  rw [ha]
  refine wpAny_bind (wpAny_holding (thn (ho pins s σ H _ I h) fun ov s1 ⟨x,H1,I1,r1,q1⟩=>?_))
  refine wpAny_bind (wpAny_holding (thn (hi pins s1 σ H1 _ I1 q1) fun iv s2 ⟨y,H2,I2,r2,q2⟩=>?_))
  refine wpAny_bind (wpAny_standAt (wpAny_bind (wpAny_holding (thn (hs pins s2 σ H2 x y v ov iv u _ I2 r1 r2 r q2) fun _ s3 ⟨H3,I3,q3⟩=>?_))))
  exact wpAny_release ⟨σ,H3,I3,q3⟩
def Zsb (te:TE) (g:TG):TS:=fun D σ H=>te σ H fun x H1=>g x σ H1 D.nx
theorem Zux {tg e:Expr} {te:TE} {g:TG} (he:PE X e te) (hg:PG X tg g) (hs:swapsWithSole [tg] e pos.line X.env=pure false:=by rfl) (hw:swappedStores [tg] e X.env=pure none:=by rfl)
    (h1:(assignEach [tg] X.env).map (·.2)=[assign tg X.env]:=by rfl):PS X (.Assign [tg] e pos) (Zsb te g):=by
  intro pins s σ H D I h
  refine wpAny_Assign_stores (thn (he pins s σ H _ I h) fun v s1 ⟨x,H1,I1,r1,q1⟩=>?_) hs hw
  rw [h1]
  exact thn (hg pins s1 σ H1 x v _ I1 r1 q1) fun _ s2 q=>q
theorem Zmr {i:Nat} {x:Str} {e:Expr} {te:TE} {pos':Pos} (hN:X.N.Nodup) (hi:X.N[i]?=some x) (hx:Loc X.env.scope x) (he:PE X e te) (hs:swapsWith e (some (.Name x pos')) pos.line X.env=pure false:=by rfl) (hf:X.fn x=true∨X.env.scope.names.lookup x=some .local:=by first | exact .inl rfl | exact .inr rfl | assumption) :
    PS X (.Assign [.Name x pos'] e pos) (Zsb te (ZlW i)):=by
  intro pins s σ H D I h
  refine wpAny_Assign_Name (thn (he pins s σ H _ I h) fun v s1 ⟨y,H1,I1,r1,q1⟩=>?_) hs
  exact Zln I1 hN hi hx r1 (fun s2 I2=>⟨_,H1,I2,q1⟩) hf
end
section
variable {X:Cx} {pos:Pos}
def Zuc (c:TT) (tb:TS):TS:=fun D σ H=>∃W:Nat→St→Hp→Prop,(∃m,W m σ H)∧∀m σ H,W m σ H→
  c σ H fun b H1=>if b=true then ∃N:St→Hp→Prop,(∀σ' H',N σ' H'→∃m',m'<m∧W m' σ' H')∧tb { D with nx:=N,ct:=N,bk:=D.nx } σ H1 else D.nx σ H1
theorem Zqp {c:Expr} {body:List Stmt} {tc:TT} {tb:TS} (hp:PassesOwn (model X.prog X.w) X.A X.env X.xe) (hc:PT X c tc) (hb:PSs X body tb):PS X (.While c body [] pos) (Zuc tc tb):=by
  intro pins s σ H D I h
  obtain ⟨W,⟨m0,w0⟩,turn⟩:=h
  refine wpAny_While (codeAny_whileLoop (fun n s'=>∃σ' H',Inv X pins σ' H' s'∧W n σ' H') ?_ m0 ⟨σ,H,I,w0⟩)
  rintro n s1 ⟨σ1,H1,I1,w1⟩
  refine wpAny_passesOwn hp (thn (hc pins s1 σ1 H1 _ I1 (turn n σ1 H1 w1)) fun b s2 ⟨H2,I2,q2⟩=>?_)
  cases b with
  | true=>
    obtain ⟨N,hN,q2⟩:=q2
    rw [if_pos rfl]
    refine wpAny_passesOwn hp (thn (hb pins s2 σ1 H2 _ I2 q2) fun f s3 q3=>?_)
    cases f with
    | next=>
      obtain ⟨σ3,H3,I3,n3⟩:=q3
      obtain ⟨m',hm,w3⟩:=hN σ3 H3 n3
      exact ⟨m',hm,σ3,H3,I3,w3⟩
    | cont=>
      obtain ⟨σ3,H3,I3,n3⟩:=q3
      obtain ⟨m',hm,w3⟩:=hN σ3 H3 n3
      exact ⟨m',hm,σ3,H3,I3,w3⟩
    | brk=>exact q3
    | ret v=>exact q3
  | false=>
    rw [if_neg Bool.false_ne_true]
    exact wpAny_execs_nil ⟨σ1,H2,I2,q2⟩
end
structure It where
  go:Nat→Hp→Prop
  yld:Nat→Hp→V→Hp→Prop
  stop:Nat→Hp→Prop
def ZiJ (X:Cx) (pins:List (Addr×Obj)) (H:Hp) (b:Addr):Prop:=
  H b=none∧b≠X.env.locals∧b∉X.fs∧(b∈X.ex∨X.s₀.heap.objs.size≤b)∧(∀x c,X.env.cells.lookup x=some c→c≠b)∧∀p∈X.pn++pins,p.1≠b
theorem Inv.fpOk {X:Cx} {pins:List (Addr×Obj)} {σ:St} {H H':Hp} {s:Shared} {b:Addr} (I:Inv X pins σ H s) (hb:s.heap.objs.size≤b) (hn:H' b=none):ZiJ X pins H' b:=by
  refine ⟨hn,Nat.ne_of_gt (Nat.lt_of_lt_of_le I.lt hb),I.nofs hb,.inr (Nat.le_trans I.sz hb),fun x c e z=>?_,fun p hp z=>?_⟩
  · obtain ⟨v,q⟩:=I.cell x c e
    exact absurd (Nat.lt_of_lt_of_le q.lt (by rw [z]; exact hb)) (Nat.lt_irrefl _)
  · exact absurd (Nat.lt_of_lt_of_le (Heap.lt_size (I.pin p hp).1) (by rw [z]; exact hb)) (Nat.lt_irrefl _)
structure Zow (P:Program) (w:World) (K:PySem.W.Frag) (tg:Expr) (J:It) (fp:List Addr) (it:Addr) (tn:Nat→Heap→Prop):Prop where
  mem:it∈fp
  obj:∀i h,tn i h→∀b∈fp,∃o,h.get? b=some o∧∀v,o.data≠.cell v
  keep:∀i h h',tn i h→(∀b∈fp,∀o,h.get? b=some o→h'.get? b=some o)→tn i h'
  item:∀(X:Cx),X.prog=P→X.w=w→X.K=K→X.calm=true→∀(i:Nat) (pins:List (Addr×Obj)) (s:Shared) (σ:St) (H:Hp) (E:Value→Shared→Prop),Inv X pins σ H s→(∀b∈fp,ZiJ X pins H b)→tn i s.heap→J.go i H→
    wpAny (model P w) X.A (pyNext (.ref it)) (fun r s1=>∃u,r=some u∧
      wpAny (model P w) X.A (letOwnedTupleGo tg (.ref it) u) (fun _ s2=>∃x H',Inv X pins σ H' s2∧RelV x u∧J.yld i H x H'∧tn (i+1) s2.heap∧∀b∈fp,H' b=none) E s1) E s
  done:∀(X:Cx),X.prog=P→X.w=w→X.K=K→X.calm=true→∀(i:Nat) (pins:List (Addr×Obj)) (s:Shared) (σ:St) (H:Hp) (E:Value→Shared→Prop),Inv X pins σ H s→(∀b∈fp,ZiJ X pins H b)→tn i s.heap→J.stop i H→
    wpAny (model P w) X.A (pyNext (.ref it)) (fun r s1=>r=none∧Inv X pins σ H s1) E s
  self:∀(A:Around) (i:Nat) (s:Shared) (Q:Value→Shared→Prop) (E:Value→Shared→Prop),tn i s.heap→Q (.ref it) s→wpAny (model P w) A (pyIter (.ref it)) Q E s
abbrev TI:=St→Hp→(It→Hp→Prop)→Prop
def PIE (X:Cx) (pins:List (Addr×Obj)) (σ:St) (tg:Expr) (R:It→Hp→Prop) (itv:Value) (s2:Shared):Prop:=
  ∃(it:Addr) (fp:List Addr) (tn:Nat→Heap→Prop) (J:It) (H':Hp),itv=.ref it∧Inv X pins σ H' s2∧Zow X.prog X.w X.K tg J fp it tn∧tn 0 s2.heap∧(∀b∈fp,ZiJ X pins H' b)∧R J H'
def PI (X:Cx) (tg iter:Expr) (wi:TI):Prop:=
  ∀(pins:List (Addr×Obj)) (s:Shared) (σ:St) (H:Hp) (R:It→Hp→Prop),Inv X pins σ H s→wi σ H R→
    wpAny (model X.prog X.w) X.A (eval iter X.env) (fun v s1=>wpAny (model X.prog X.w) X.A (pyIter v) (PIE X pins σ tg R) X.xe s1) X.xe s
theorem Zrk {M:Model} {A:Around} {E:Value→Shared→Prop} {s:Shared} {tg:Expr} {it:Addr} {u:Value} {o:Obj} {n:String} {vs:Array Value} {Q:Unit→Shared→Prop} (ho:s.heap.get? it=some o) (hc:o.cls=.type n) (hd:o.data=.fields vs)
    (hn:["enumerate","zip","dict_itemiterator","dict_reverseitemiterator","odict_iterator","itertools.zip_longest","itertools.pairwise"].contains n=false) (hQ:Q () s):wpAny M A (letOwnedTupleGo tg (.ref it) u) Q E s:=by
  unfold letOwnedTupleGo
  cases tg<;>first
    | exact wpAny_pure hQ
    | (cases u<;>first
        | exact wpAny_pure hQ
        | (refine wpAny_bind (wpAny_load ho ?_)
           rw [hc,hd]
           show wpAny M A (if (["enumerate","zip","dict_itemiterator","dict_reverseitemiterator","odict_iterator","itertools.zip_longest","itertools.pairwise"].contains n && vs[0]? == some (rawInt _))=true then _ else _) Q E s
           rw [if_neg (by intro h; rw [hn,Bool.false_and] at h; cases h)]
           exact wpAny_pure hQ))
def Itl (K:PySem.W.Frag) (a:Addr):It:=
  ⟨fun i H=>∃xs x,SqL K H a xs∧xs[i]?=some x,fun i H x H'=>H'=H∧∀xs,SqL K H a xs→xs[i]?=some x,fun i H=>∃xs,SqL K H a xs∧xs.length≤i⟩
def Itt (K:PySem.W.Frag) (a:Addr):It:=
  ⟨fun i H=>∃xs x,SqT K H a xs∧xs[i]?=some x,fun i H x H'=>H'=H∧∀xs,SqT K H a xs→xs[i]?=some x,fun i H=>∃xs,SqT K H a xs∧xs.length≤i⟩
def Itr (lo:Int) (n:Nat):It:=⟨fun i _=>i<n,fun i H x H'=>H'=H∧x=.int (lo+i),fun i _=>n≤i⟩
theorem ZnP {P:Program} {w:World} {K:PySem.W.Frag} {tg:Expr} (a it:Addr):Zow P w K tg (Itl K a) [it] it (fun i h=>h.IsListIter it a i) where
  mem:=by simp
  obj:=fun i h st b hb=>by
    have e:b=it:=by simpa using hb
    subst e
    obtain ⟨o,e,c,d⟩:=st
    exact ⟨o,e,fun v z=>by rw [d] at z; cases z⟩
  keep:=fun i h h' st k=>st.at fun o e=>k it (by simp) o e
  item:=by
    intro X hP hw hK hc i pins s σ H E I hf st hg
    subst hP hw hK
    obtain ⟨xs,x,hq,hx⟩:=hg
    obtain ⟨its,rv,p,hz⟩:=I.list hq
    obtain ⟨u,hu,ru⟩:=rv.get hx
    obtain ⟨f0,f1,f2,f3,f4,f5⟩:=hf it (by simp)
    refine wpAny_pyNext_list_item st p.isList (x:=u) (by simpa using hu) fun h' st' sb=>?_
    have I1:Inv X pins σ H { s with heap:=h' }:=I.turned (t':=s.toks) (fun b o hb e=>(sb.2 b hb).trans e) f0 f1 f3 f4 f5
    obtain ⟨o,e,c,d⟩:=id st'
    exact ⟨u,rfl,Zrk (s:={ s with heap:=h' }) e c d (by decide) ⟨x,H,I1,ru,⟨rfl,fun ys hy=>by rw [I.list_inj hy hq]; exact hx⟩,st',fun b hb=>(hf b hb).1⟩⟩
  done:=by
    intro X hP hw hK hc i pins s σ H E I hf st hg
    subst hP hw hK
    obtain ⟨xs,hq,hx⟩:=hg
    obtain ⟨its,rv,p,hz⟩:=I.list hq
    obtain ⟨f0,f1,f2,f3,f4,f5⟩:=hf it (by simp)
    have hl:=rv.length
    exact wpAny_pyNext_list_end (I.ok.hd hc) st p.isList (by simp; omega) fun h' eb=>⟨rfl,I.turned (t':=s.toks) (fun b o hb e=>eb b o hb e) f0 f1 f3 f4 f5⟩
  self:=fun _ _ _ _ _ st h=>wpAny_pyIter_listiter st h
theorem Zmd {P:Program} {w:World} {K:PySem.W.Frag} {tg:Expr} (a it:Addr):Zow P w K tg (Itt K a) [it] it (fun i h=>h.IsTupleIter it a i) where
  mem:=by simp
  obj:=fun i h st b hb=>by
    have e:b=it:=by simpa using hb
    subst e
    obtain ⟨o,e,c,d⟩:=st
    exact ⟨o,e,fun v z=>by rw [d] at z; cases z⟩
  keep:=fun i h h' st k=>st.at fun o e=>k it (by simp) o e
  item:=by
    intro X hP hw hK hc i pins s σ H E I hf st hg
    subst hP hw hK
    obtain ⟨xs,x,hq,hx⟩:=hg
    obtain ⟨its,rv,p,hz⟩:=I.tuple hq
    obtain ⟨u,hu,ru⟩:=rv.get hx
    obtain ⟨f0,f1,f2,f3,f4,f5⟩:=hf it (by simp)
    refine wpAny_pyNext_tuple_item st (show s.heap.IsTuple a its.toArray from p) (x:=u) (by simpa using hu) fun h' st' sb=>?_
    have I1:Inv X pins σ H { s with heap:=h' }:=I.turned (t':=s.toks) (fun b o hb e=>(sb.2 b hb).trans e) f0 f1 f3 f4 f5
    obtain ⟨o,e,c,d⟩:=id st'
    exact ⟨u,rfl,Zrk (s:={ s with heap:=h' }) e c d (by decide) ⟨x,H,I1,ru,⟨rfl,fun ys hy=>by rw [I.tuple_inj hy hq]; exact hx⟩,st',fun b hb=>(hf b hb).1⟩⟩
  done:=by
    intro X hP hw hK hc i pins s σ H E I hf st hg
    subst hP hw hK
    obtain ⟨xs,hq,hx⟩:=hg
    obtain ⟨its,rv,p,hz⟩:=I.tuple hq
    obtain ⟨f0,f1,f2,f3,f4,f5⟩:=hf it (by simp)
    have hl:=rv.length
    exact wpAny_pyNext_tuple_end (I.ok.hd hc) st (show s.heap.IsTuple a its.toArray from p) (by simp; omega) fun h' eb=>⟨rfl,I.turned (t':=s.toks) (fun b o hb e=>eb b o hb e) f0 f1 f3 f4 f5⟩
  self:=fun _ _ _ _ _ st h=>wpAny_pyIter_tupleiter st h
theorem Zme {P:Program} {w:World} {K:PySem.W.Frag} {tg:Expr} (it:Addr) (lo:Int) (n:Nat):Zow P w K tg (Itr lo n) [it] it (fun i h=>IsRangeIter h it (lo+(i:Nat)*1) ((n:Int)-(i:Nat)) 1) where
  mem:=by simp
  obj:=fun i h st b hb=>by
    have e:b=it:=by simpa using hb
    subst e
    exact ⟨_,st,fun v z=>by
      have z':Data.fields _=Data.cell v:=z
      cases z'⟩
  keep:=fun i h h' st k=>k it (by simp) _ st
  item:=by
    intro X hP hw hK hc i pins s σ H E I hf st hg
    subst hP hw hK
    obtain ⟨f0,f1,f2,f3,f4,f5⟩:=hf it (by simp)
    have W:=Walks.range (prog:=X.prog) (w:=X.w) (I.ok.hd hc) it lo 1 n
    refine W.item i s _ _ hg st fun v h' tk hv st' kk=>?_
    obtain ⟨t,rfl⟩:=hv
    have I1:Inv X pins σ H { s with heap:=h',toks:=tk }:=I.turned (fun b o hb e=>kk b o (by simpa using hb) e) f0 f1 f3 f4 f5
    refine ⟨_,rfl,Zrk (s:={ s with heap:=h',toks:=tk }) (n:="range_iterator") st' rfl rfl (by decide) ⟨.int (lo+i),H,I1,⟨t,?_⟩,⟨rfl,rfl⟩,st',fun b hb=>(hf b hb).1⟩⟩
    rw [Int.mul_one]
  done:=by
    intro X hP hw hK hc i pins s σ H E I hf st hg
    subst hP hw hK
    obtain ⟨f0,f1,f2,f3,f4,f5⟩:=hf it (by simp)
    exact wpAny_pyNext_range_end (I.ok.hd hc) st (by have:n≤i:=hg; omega) fun h' eb=>⟨rfl,I.turned (t':=s.toks) (fun b o hb e=>eb b o hb e) f0 f1 f3 f4 f5⟩
  self:=fun _ _ _ _ _ st h=>wpAny_pyIter_rangeiter st h
end L2
namespace L2
open PySem PySem.Spec PyProof.Rows
section
variable {X:Cx} {tg:Expr}
theorem Zqj {pins:List (Addr×Obj)} {σ:St} {H:Hp} {s:Shared} {R:It→Hp→Prop} {E:Value→Shared→Prop} {lo hi:Int} {t u v:Tok} {tk:Nat} (I:Inv X pins σ H s) (h1 : -(2 ^ 62)≤lo) (h2:lo<2 ^ 62) (h3 : -(2 ^ 62)≤hi) (h4:hi<2 ^ 62)
    (q:R (Itr lo (hi-lo).toNat) H):wpAny (model X.prog X.w) X.A (pyIter (.ref s.heap.objs.size)) (PIE X pins σ tg R) E { s with heap:=s.heap.push { cls:=.type "range",data:=.fields #[.int lo t,.int hi u,.int 1 v] },toks:=tk }:=by
  refine wpAny_pyIter_range (IsRange.new ..) (small_one h1 h2 h3 h4) ?_
  have I1:Inv X pins σ H { s with heap:=s.heap.push { cls:=.type "range",data:=.fields #[.int lo t,.int hi u,.int 1 v] },toks:=tk }:=I.kept fun b o e=>Heap.get?_push_of_some _ e
  refine ⟨(s.heap.push { cls:=.type "range",data:=.fields #[.int lo t,.int hi u,.int 1 v] }).objs.size,[(s.heap.push { cls:=.type "range",data:=.fields #[.int lo t,.int hi u,.int 1 v] }).objs.size],_,_,H,rfl,
    I1.kept (t':=tk) fun b o e=>Heap.get?_push_of_some _ e,Zme _ lo (hi-lo).toNat,?_,fun b hb=>?_,q⟩
  · have e1:lo+((0:Nat):Int)*1=lo:=by simp
    have e2:(((hi-lo).toNat:Nat):Int)-((0:Nat):Int)=Builtin.Range.rangeSize lo hi 1:=by rw [rangeSize_one]; split<;>omega
    show IsRangeIter _ _ (lo+((0:Nat):Int)*1) ((((hi-lo).toNat:Nat):Int)-((0:Nat):Int)) 1
    rw [e1,e2]
    exact Heap.get?_push_size _ rfl
  · have e:b=(s.heap.push { cls:=.type "range",data:=.fields #[.int lo t,.int hi u,.int 1 v] }).objs.size:=by simpa using hb
    subst e
    exact I1.fpOk (Nat.le_refl _) (I1.hok.fresh (Nat.le_refl _))
def ZwO (ta:TA):TI:=fun σ H R=>ta σ H fun vs H1=>∃j:Int,vs=[.int j]∧-(2 ^ 62)≤j∧j<2 ^ 62∧R (Itr 0 j.toNat) H1
theorem Zn3 {a:Expr} {ta:TA} {p pos:Pos} (hg:Gl X "range") (hm:X.mg "range"=none) (ha:PA X [a] ta) (hs:starEach [a] X.env=[(false,eval a X.env)]:=by rfl):PI X tg (.Call (.Name "range" p) [a] [] pos) (ZwO ta):=by
  intro pins s σ H R I h
  refine Call_ (Zh8 I hg hm boot_range (PyProof.Rows.callWith_type1 (thn (ha pos pins s σ H _ I h) fun us s1 ⟨vs,H1,I1,r1,q1⟩=>?_) hs rfl))
  obtain ⟨j,e,q1,q2,q⟩:=q1
  subst e
  cases r1 with
  | cons r rr=>
    cases rr
    obtain ⟨t,rfl⟩:=r
    exact call_range_1 (Zqj I1 (by omega) (by omega) q1 q2 (by simpa using q))
def ZzR (wi:TI) (g:TG) (tb:TS):TS:=fun D σ H=>wi σ H fun J H1=>∃W:Nat→Nat→St→Hp→Prop,(∃m,W 0 m σ H1)∧∀i m σ H,W i m σ H→
  (J.stop i H∧D.nx σ H)∨(J.go i H∧∃N:St→Hp→Prop,(∀σ' H',N σ' H'→∃m',m'<m∧W (i+1) m' σ' H')∧∀x H',J.yld i H x H'→g x σ H' fun σ2 H2=>tb { D with nx:=N,ct:=N,bk:=D.nx } σ2 H2)
def Zjz (fp:List Addr) (h:Heap):List (Addr×Obj):=fp.filterMap fun b=>(h.get? b).map fun o=>(b,o)
theorem Zep {fp:List Addr} {h:Heap} {b:Addr} {o:Obj} (hb:b∈fp) (e:h.get? b=some o):(b,o)∈Zjz fp h:=List.mem_filterMap.mpr ⟨b,hb,by rw [e]; rfl⟩
theorem Zn7 {fp:List Addr} {h:Heap} {p:Addr×Obj} (hp:p∈Zjz fp h):p.1∈fp∧h.get? p.1=some p.2:=by
  obtain ⟨b,hb,e⟩:=List.mem_filterMap.mp hp
  cases q:h.get? b with
  | none=>rw [q] at e; cases e
  | some o=>
    rw [q] at e
    have e':(b,o)=p:=Option.some.inj e
    subst e'
    exact ⟨hb,q⟩
theorem Inv.pinned {pins:List (Addr×Obj)} {σ:St} {H:Hp} {s:Shared} {fp:List Addr} (I:Inv X pins σ H s) (hf:∀b∈fp,ZiJ X pins H b) (ho:∀b∈fp,∃o,s.heap.get? b=some o∧∀v,o.data≠.cell v):Inv X (pins++Zjz fp s.heap) σ H s:=
  I.pins_of fun p hp=>(List.mem_append.mp hp).elim (fun z=>I.pin p (List.mem_append_right _ z)) fun z=>by
    obtain ⟨hb,e⟩:=Zn7 z
    obtain ⟨f0,f1,f2,_⟩:=hf p.1 hb
    obtain ⟨o,e',d⟩:=ho p.1 hb
    rw [e] at e'; cases e'
    exact ⟨e,f0,f1,f2,d⟩
theorem Inv.unpinned {pins pl:List (Addr×Obj)} {σ:St} {H:Hp} {s:Shared} (I:Inv X (pins++pl) σ H s):Inv X pins σ H s:=I.pins_of fun p hp=>I.pin p (List.mem_append_right _ (List.mem_append_left _ hp))
theorem Zqq {iter:Expr} {body:List Stmt} {wi:TI} {g:TG} {tb:TS} {pos:Pos} (hp:PassesOwn (model X.prog X.w) X.A X.env X.xe) (hc:X.calm=true) (hi:PI X tg iter wi) (hg:PG X tg g) (hb:PSs X body tb)
    (hs:∀x,foldedSetIterable iter X.env x=pure x:=by intro _; rfl):PS X (.For tg iter body [] pos) (ZzR wi g tb):=by
  intro pins s σ H D I h
  refine wpAny_For (thn (hi pins s σ H _ I h) fun v s1 h1=>thn h1 fun itv s2 h2=>?_) hs
  obtain ⟨it,fp,tn,J,H2,e,I2,T,st2,f2,W,⟨m0,w0⟩,turn⟩:=h2
  subst e
  have stat:∀{H':Hp},(∀b∈fp,H' b=none)→∀b∈fp,ZiJ X pins H' b:=fun hn b hb=>⟨hn b hb,(f2 b hb).2⟩
  refine codeAny_forLoop_any (fun n s'=>∃i σ' H',Inv X pins σ' H' s'∧tn i s'.heap∧(∀b∈fp,H' b=none)∧W i n σ' H') ?_ m0 ⟨0,σ,H2,I2,st2,fun b hb=>(f2 b hb).1,w0⟩
  rintro n s3 ⟨i,σ3,H3,I3,st3,fr3,w3⟩
  rcases turn i n σ3 H3 w3 with ⟨stop,qn⟩ | ⟨go,N,hN,step⟩
  · refine wpAny_passesOwn hp (thn (T.done X rfl rfl rfl hc i pins s3 σ3 H3 X.xe I3 (stat fr3) st3 stop) fun r s4 ⟨hr,I4⟩=>?_)
    subst hr
    exact wpAny_execs_nil ⟨σ3,H3,I4,qn⟩
  · refine wpAny_passesOwn hp (thn (T.item X rfl rfl rfl hc i pins s3 σ3 H3 X.xe I3 (stat fr3) st3 go) fun r s4 ⟨u,hr,h4⟩=>?_)
    subst hr
    refine wpAny_passesOwn hp (thn h4 fun _ s5 ⟨x,H5,I5,r5,y5,st5,fr5⟩=>?_)
    have I5':=I5.pinned (stat fr5) (T.obj _ _ st5)
    refine wpAny_passesOwn hp (thn (hg _ s5 σ3 H5 x u _ I5' r5 (step x H5 y5)) fun _ s6 ⟨σ6,H6,I6,q6⟩=>?_)
    refine wpAny_passesOwn hp (thn (hb _ s6 σ6 H6 _ I6 q6) fun f s7 q7=>?_)
    have again:∀{σ7:St} {H7:Hp},Inv X (pins++Zjz fp s5.heap) σ7 H7 s7→N σ7 H7→∃m,m<n∧∃i σ' H',Inv X pins σ' H' s7∧tn i s7.heap∧(∀b∈fp,H' b=none)∧W i m σ' H':=fun {σ7 H7} I7 n7=>by
      obtain ⟨m',hm,w7⟩:=hN σ7 H7 n7
      refine ⟨m',hm,i+1,σ7,H7,I7.unpinned,T.keep _ _ _ st5 fun b hb o e=>(I7.pin (b,o) (List.mem_append_right _ (List.mem_append_right _ (Zep hb e)))).1,fun b hb=>?_,w7⟩
      obtain ⟨o,e,d⟩:=T.obj _ _ st5 b hb
      exact (I7.pin (b,o) (List.mem_append_right _ (List.mem_append_right _ (Zep hb e)))).2.1
    cases f with
    | next=>obtain ⟨σ7,H7,I7,n7⟩:=q7; exact again I7 n7
    | cont=>obtain ⟨σ7,H7,I7,n7⟩:=q7; exact again I7 n7
    | brk=>obtain ⟨σ7,H7,I7,q7⟩:=q7; exact ⟨σ7,H7,I7.unpinned,q7⟩
    | ret v=>obtain ⟨x7,σ7,H7,I7,r7,q7⟩:=q7; exact ⟨x7,σ7,H7,I7.unpinned,r7,q7⟩
end
end L2
namespace L2
open PySem PySem.Spec PyProof.Rows
abbrev R2:=V→V→Hp→VK→Prop
def OpR (X:Cx) (f:Value→Value→Sem Value) (r:R2):Prop:=
  ∀(pins:List (Addr×Obj)) (s:Shared) (σ:St) (H:Hp) (x y:V) (v u:Value) (Q:VK),Inv X pins σ H s→RelV x v→RelV y u→r x y H Q→
    wpAny (model X.prog X.w) X.A (f v u) (EP X pins σ Q) X.xe s
def CallR (X:Cx) (f:Value) (r:List V→Hp→VK→Prop):Prop:=
  ∀(pins:List (Addr×Obj)) (s:Shared) (σ:St) (H:Hp) (xs:List V) (us:List Value) (Q:VK),Inv X pins σ H s→Vals xs us→r xs H Q→
    wpAny (model X.prog X.w) X.A (call f us) (EP X pins σ Q) X.xe s
def ZAA (X:Cx) (r:V→Hp→(Bool→Hp→Prop)→Prop):Prop:=
  ∀(pins:List (Addr×Obj)) (s:Shared) (σ:St) (H:Hp) (x:V) (v:Value) (Q:Bool→Hp→Prop),Inv X pins σ H s→RelV x v→r x H Q→
    wpAny (model X.prog X.w) X.A (truthy v) (TP X pins σ Q) X.xe s
def tOp (r:R2) (ta tb:TE):TE:=fun σ H Q=>ta σ H fun x H1=>tb σ H1 fun y H2=>r x y H2 Q
def rI (C:Int→Int→Prop) (g:Int→Int→V):R2:=fun x y H Q=>∃i j,x=.int i∧y=.int j∧C i j∧Q (g i j) H
def rI0 (g:Int→Int→V):R2:=fun x y H Q=>∃i j,x=.int i∧y=.int j∧Q (g i j) H
section
variable {X:Cx} {a b c:Expr} {ta tb tc:TE} {pos:Pos}
theorem Zvb (ha:PE X a ta) (hb:PE X b tb) {pins:List (Addr×Obj)} {s:Shared} {σ:St} {H:Hp} {R:V→V→Hp→Prop} (I:Inv X pins σ H s)
    (h:ta σ H fun x H1=>tb σ H1 fun y H2=>R x y H2) {Q:Value→Shared→Prop} {f:Value→Value→Sem Value}
    (hf:∀v u s2 x y H2,Inv X pins σ H2 s2→RelV x v→RelV y u→R x y H2→wpAny (model X.prog X.w) X.A (f v u) Q X.xe s2) :
    wpAny (model X.prog X.w) X.A (eval a X.env) (fun v s₁=>wpAny (model X.prog X.w) X.A (eval b X.env) (fun u s₂=>wpAny (model X.prog X.w) X.A (f v u) Q X.xe s₂) X.xe s₁) X.xe s:=by
  refine thn (ha pins s σ H _ I h) fun v s1 ⟨x,H1,I1,r1,q1⟩=>?_
  refine thn (hb pins s1 σ H1 _ I1 q1) fun u s2 ⟨y,H2,I2,r2,q2⟩=>?_
  exact hf v u s2 x y H2 I2 r1 r2 q2
theorem Zwq {op:Operator} {r:R2} (ho:OpR X (binaryOp op) r) (ha:PE X a ta) (hb:PE X b tb):PE X (.BinOp a op b pos) (tOp r ta tb):=by
  intro pins s σ H Q I h
  exact wpAny_BinOp (Zvb ha hb I h fun v u s2 x y H2 I2 rx ry q=>ho pins s2 σ H2 x y v u Q I2 rx ry q)
theorem opI {f:Value→Value→Sem Value} {C:Int→Int→Prop} {g:Int→Int→Int}
    (rule:∀(i j:Int) (t u:Tok) (s:Shared) (Q:Value→Shared→Prop) (E:Value→Shared→Prop),C i j→Q (.int (g i j) s.toks) { s with toks:=s.toks+1 }→wpAny (model X.prog X.w) X.A (f (.int i t) (.int j u)) Q E s) :
    OpR X f (rI C fun i j=>.int (g i j)):=by
  intro pins s σ H x y v u Q I rx ry h
  obtain ⟨i,j,rfl,rfl,hc,q⟩:=h
  obtain ⟨t,rfl⟩:=rx
  obtain ⟨t',rfl⟩:=ry
  exact rule i j t t' s _ _ hc ⟨.int (g i j),H,I.tok _,⟨_,rfl⟩,q⟩
theorem ZuU {f:Value→Value→Sem Value} {g:Int→Int→Int}
    (rule:∀(i j:Int) (t u:Tok) (s:Shared) (Q:Value→Shared→Prop) (E:Value→Shared→Prop),Q (.int (g i j) s.toks) { s with toks:=s.toks+1 }→wpAny (model X.prog X.w) X.A (f (.int i t) (.int j u)) Q E s) :
    OpR X f (rI0 fun i j=>.int (g i j)):=by
  intro pins s σ H x y v u Q I rx ry h
  obtain ⟨i,j,rfl,rfl,q⟩:=h
  obtain ⟨t,rfl⟩:=rx
  obtain ⟨t',rfl⟩:=ry
  exact rule i j t t' s _ _ ⟨.int (g i j),H,I.tok _,⟨_,rfl⟩,q⟩
theorem ZsA {f:Value→Value→Sem Value} {g:Int→Int→Bool}
    (rule:∀(i j:Int) (t u:Tok) (s:Shared) (Q:Value→Shared→Prop) (E:Value→Shared→Prop),Q (.bool (g i j)) s→wpAny (model X.prog X.w) X.A (f (.int i t) (.int j u)) Q E s) :
    OpR X f (rI0 fun i j=>.bl (g i j)):=by
  intro pins s σ H x y v u Q I rx ry h
  obtain ⟨i,j,rfl,rfl,q⟩:=h
  obtain ⟨t,rfl⟩:=rx
  obtain ⟨t',rfl⟩:=ry
  exact rule i j t t' s _ _ ⟨.bl (g i j),H,I,rfl,q⟩
def CMul (i j:Int):Prop:=(-(2 ^ 64)<i∧i<2 ^ 64)∨(-(2 ^ 64)<j∧j<2 ^ 64)
theorem CMul.ok {i j:Int} (h:CMul i j):IntMulOk i j:=by
  rcases h with ⟨h1,h2⟩ | ⟨h1,h2⟩
  · exact .of_left (intBits_le_64 h1 h2)
  · exact .of_right (intBits_le_64 h1 h2)
theorem op_add:OpR X (binaryOp .Add) (rI0 fun i j=>.int (i+j)):=ZuU fun _ _ _ _ _ _ _ q=>add_int q
theorem ZuN:OpR X (binaryOp .Sub) (rI0 fun i j=>.int (i-j)):=ZuU fun _ _ _ _ _ _ _ q=>sub_int q
theorem op_mul:OpR X (binaryOp .Mult) (rI CMul fun i j=>.int (i*j)):=opI fun _ _ _ _ _ _ _ hc q=>mul_int q hc.ok
theorem ZuQ:OpR X (binaryOp .Mod) (rI (fun _ j=>0<j) fun i j=>.int (i % j)):=opI fun i j _ _ _ _ _ hc q=>by
  have h1:(0:Int)<j:=hc
  exact mod_int' (by omega) (by rw [Int.fmod_eq_emod_of_nonneg i (by omega)]; exact q)
theorem ZuT:OpR X (binaryOp .BitAnd) (rI0 fun i j=>.int (Builtin.bitAnd i j)):=ZuU fun _ _ _ _ _ _ _ q=>and_int q
end
section
variable {X:Cx} {a b c:Expr} {ta tb tc:TE} {pos:Pos}
theorem Zrm {pins:List (Addr×Obj)} {σ:St} {H:Hp} {s:Shared} {Q:VK} {k k':Bool} (I:Inv X pins σ H s) (q:Q (.bl k) H) (e:k=k'):EP X pins σ Q (.bool k') s:=by
  subst e
  exact ⟨.bl k,H,I,rfl,q⟩
theorem Zwx:OpR X (compareOp .Lt) (rI0 fun i j=>.bl (decide (i<j))):=ZsA fun _ _ _ _ _ _ _ q=>lt_int q
theorem Zwy:OpR X (compareOp .LtE) (rI0 fun i j=>.bl (decide (i≤j))):=ZsA fun _ _ _ _ _ _ _ q=>le_int q
theorem Zwz:OpR X (compareOp .Gt) (rI0 fun i j=>.bl (decide (j<i))):=ZsA fun _ _ _ _ _ _ _ q=>gt_int q
theorem ZwA:OpR X (compareOp .GtE) (rI0 fun i j=>.bl (decide (j≤i))):=ZsA fun _ _ _ _ _ _ _ q=>ge_int q
theorem op_isN:OpR X (compareOp .Is) (fun x y H Q=>y=.non∧Q (.bl (decide (x=.non))) H):=by
  intro pins s σ H x y v u Q I rx ry h
  obtain ⟨rfl,q⟩:=h
  cases ry
  refine is_none_gen (Zrm I q ?_)
  cases x<;>first
    | (cases rx; rfl)
    | (obtain ⟨t,rfl⟩:=rx; rfl)
theorem op_notN:OpR X (compareOp .IsNot) (fun x y H Q=>y=.non∧Q (.bl (!decide (x=.non))) H):=by
  intro pins s σ H x y v u Q I rx ry h
  obtain ⟨rfl,q⟩:=h
  cases ry
  refine isnot_none_gen (Zrm I q ?_)
  cases x<;>first
    | (cases rx; rfl)
    | (obtain ⟨t,rfl⟩:=rx; rfl)
theorem OpR.or {f:Value→Value→Sem Value} {r r':R2} (h:OpR X f r) (h':OpR X f r'):OpR X f (fun x y H Q=>r x y H Q∨r' x y H Q):=by
  intro pins s σ H x y v u Q I rx ry q
  rcases q with q | q
  · exact h pins s σ H x y v u Q I rx ry q
  · exact h' pins s σ H x y v u Q I rx ry q
theorem ZqN (b:Expr) {op:CmpOp} (h:op≠.In:=by decide) (h2:op≠.NotIn:=by decide):behindInMarks op b=false:=by
  have e1:(op == CmpOp.In)=false:=by cases op<;>first | rfl | exact absurd rfl h
  have e2:(op == CmpOp.NotIn)=false:=by cases op<;>first | rfl | exact absurd rfl h2
  cases b<;>simp [behindInMarks,e1,e2]
theorem Zsv {op:CmpOp} {r:R2} (ho:OpR X (compareOp op) r) (ha:PE X a ta) (hb:PE X b tb) (hm:behindInMarks op b=false):PE X (.Compare a [op] [b] pos) (tOp r ta tb):=by
  intro pins s σ H Q I h
  exact wpAny_Compare1 (Zvb ha hb I h fun v u s2 x y H2 I2 rx ry q=>ho pins s2 σ H2 x y v u Q I2 rx ry q) hm
def Ztm (t:TE):TT:=fun σ H Q=>t σ H fun x H'=>∃k,x=.bl k∧Q k H'
theorem Zsl {op:CmpOp} {r:R2} (ho:OpR X (compareOp op) r) (ha:PE X a ta) (hb:PE X b tb) (hm:behindInMarks op b=false):PT X (.Compare a [op] [b] pos) (Ztm (tOp r ta tb)):=by
  intro pins s σ H Q I h
  refine wpAny_isTrue_Compare1 (thn (ha pins s σ H _ I h) fun v s1 ⟨x,H1,I1,r1,q1⟩=>thn (hb pins s1 σ H1 _ I1 q1) fun u s2 ⟨y,H2,I2,r2,q2⟩=>
    thn (ho pins s2 σ H2 x y v u _ I2 r1 r2 q2) fun c s3 ⟨z,H3,I3,r3,k,e,q3⟩=>?_) hm
  subst e
  cases r3
  exact wpAny_truthy_bool ⟨H3,I3,q3⟩
def Zmo (r r':R2) (ta tb tc:TE):TE:=fun σ H Q=>ta σ H fun x H1=>tb σ H1 fun y H2=>r x y H2 fun z H3=>∃k,z=.bl k∧
  (if k=true then tc σ H3 fun w' H4=>r' y w' H4 Q else Q (.bl false) H3)
theorem ZqB {op op':CmpOp} {r r':R2} (ho:OpR X (compareOp op) r) (ho':OpR X (compareOp op') r') (ha:PE X a ta) (hb:PE X b tb) (hc:PE X c tc)
    (hm:lastMarks [op,op'] [b,c]=false:=by with_unfolding_all rfl):PE X (.Compare a [op,op'] [b,c] pos) (Zmo r r' ta tb tc):=by
  intro pins s σ H Q I h
  refine Compare_chain (thn (ha pins s σ H _ I h) fun v s1 ⟨x,H1,I1,r1,q1⟩=>chain_link (thn (hb pins s1 σ H1 _ I1 q1) fun u s2 ⟨y,H2,I2,r2,q2⟩=>
    thn (ho pins s2 σ H2 x y v u _ I2 r1 r2 q2) fun d s3 ⟨z,H3,I3,r3,k,e,q3⟩=>?_)) hm
  subst e
  cases r3
  refine wpAny_truthy_bool ?_
  cases k with
  | false=>exact ite_ff ⟨.bl false,H3,I3,rfl,q3⟩
  | true=>exact ite_tt (chain_last (thn (hc pins s3 σ H3 _ I3 q3) fun w' s4 ⟨z',H4,I4,r4,q4⟩=>ho' pins s4 σ H4 y z' u w' Q I4 r2 r4 q4))
theorem Zqn {op op':CmpOp} {r r':R2} (ho:OpR X (compareOp op) r) (ho':OpR X (compareOp op') r') (ha:PE X a ta) (hb:PE X b tb) (hc:PE X c tc)
    (hm:lastMarks [op,op'] [b,c]=false:=by with_unfolding_all rfl):PT X (.Compare a [op,op'] [b,c] pos) (Ztm (Zmo r r' ta tb tc)):=by
  intro pins s σ H Q I h
  refine isTrue_chain (thn (ha pins s σ H _ I h) fun v s1 ⟨x,H1,I1,r1,q1⟩=>test_link (thn (hb pins s1 σ H1 _ I1 q1) fun u s2 ⟨y,H2,I2,r2,q2⟩=>
    thn (ho pins s2 σ H2 x y v u _ I2 r1 r2 q2) fun d s3 ⟨z,H3,I3,r3,k,e,q3⟩=>?_)) hm
  subst e
  cases r3
  refine wpAny_truthy_bool ?_
  cases k with
  | false=>
    obtain ⟨k',e',q'⟩:=q3
    cases e'
    exact ite_ff ⟨H3,I3,q'⟩
  | true=>
    refine ite_tt (test_last (thn (hc pins s3 σ H3 _ I3 q3) fun w' s4 ⟨z',H4,I4,r4,q4⟩=>thn (ho' pins s4 σ H4 y z' u w' _ I4 r2 r4 q4) fun d' s5 ⟨z2,H5,I5,r5,k2,e2,q5⟩=>?_))
    subst e2
    cases r5
    exact wpAny_truthy_bool ⟨H5,I5,q5⟩
def TruV (K:PySem.W.Frag) (x:V) (H:Hp) (k:Bool):Prop:=
  match x with
  | .non=>k=false
  | .bl b=>k=b
  | .int i=>k=(i != 0)
  | .str y=>y.length≤sizeLine∧k=((y.length:Int) != 0)
  | .byt y=>y.size≤sizeLine∧k=((y.size:Int) != 0)
  | .ref p=>(∃xs,SqL K H p xs∧k=!xs.isEmpty)∨(∃xs,SqT K H p xs∧k=!xs.isEmpty)∨∃kvs,H p=some (.dK kvs)∧k=!kvs.isEmpty
  | _=>False
theorem ZmG {κ:Type} {kvs:List (κ×V)} {vs:List (κ×Value)} (r:KV kvs vs):(!vs.isEmpty)=!kvs.isEmpty:=by
  cases r<;>rfl
theorem Zia {xs:List V} {its:List Value} (r:Vals xs its):(!its.toArray.isEmpty)=!xs.isEmpty:=by
  cases r<;>simp
theorem ZfO:(sizeLine:Nat)<2 ^ 63:=by rw [sizeLine_eq]; decide
theorem Zp2:ZAA X (fun x H Q=>∃k,TruV X.K x H k∧Q k H):=by
  intro pins s σ H x v Q I rx h
  obtain ⟨k,e,q⟩:=h
  have hl:=ZfO
  have hs:sizeLine=16777216:=sizeLine_eq
  cases x with
  | non=>
    cases rx
    have e':k=false:=e
    subst e'
    exact truthy_none ⟨H,I,q⟩
  | bl b=>
    cases rx
    have e':k=b:=e
    subst e'
    exact wpAny_truthy_bool ⟨H,I,q⟩
  | int i=>
    obtain ⟨t,rfl⟩:=rx
    have e':k=(i != 0):=e
    subst e'
    exact PySem.P.truthy_int ⟨H,I,q⟩
  | str y=>
    obtain ⟨t,rfl⟩:=rx
    obtain ⟨hy,e'⟩:y.length≤sizeLine∧k=((y.length:Int) != 0):=e
    subst e'
    exact PySem.P.truthy_str (by omega) ⟨H,I.tok _,q⟩
  | byt y=>
    obtain ⟨t,rfl⟩:=rx
    obtain ⟨hy,e'⟩:y.size≤sizeLine∧k=((y.size:Int) != 0):=e
    subst e'
    exact PySem.W.truthy_bytes (by omega) ⟨H,I.tok _,q⟩
  | ref p=>
    cases rx
    have e':(∃xs,SqL X.K H p xs∧k=!xs.isEmpty)∨(∃xs,SqT X.K H p xs∧k=!xs.isEmpty)∨∃kvs,H p=some (.dK kvs)∧k=!kvs.isEmpty:=e
    rcases e' with ⟨xs,hx,e'⟩ | ⟨xs,hx,e'⟩ | ⟨kvs,hx,e'⟩
    · subst e'
      obtain ⟨its,r,pl,hz⟩:=I.list hx
      have hlen:=r.length
      exact wpAny_truthy_list pl.isList (by simp only [List.size_toArray]; omega) ⟨H,I.tok _,by rw [Zia r]; exact q⟩
    · subst e'
      obtain ⟨its,r,pl,hz⟩:=I.tuple hx
      have hlen:=r.length
      exact truthy_tuple pl (by simp only [List.size_toArray]; omega) ⟨H,I.tok _,by rw [Zia r]; exact q⟩
    · subst e'
      obtain ⟨hz,hS,vs,r,m⟩:kvs.length≤sizeLine∧(p == sysModules)=false∧∃vs,KV kvs vs∧s.heap.DictOf (ZaN X.prog X.w) p vs:=I.hok p _ hx
      have hlen:kvs.length=vs.length:=Paired.length r
      exact wpAny_truthy_dict hS m (by omega) ⟨H,I.tok _,by rw [ZmG r]; exact q⟩
  | _=>exact (show False from e).elim
theorem Zqm (ha:PE X a ta) (he:∀whole,isTrue a X.env whole=(do let v ←whole; standAt a.pos; holding [v] (truthy v))) :
    PT X a (fun σ H Q=>ta σ H fun x H'=>∃k,TruV X.K x H' k∧Q k H'):=by
  intro pins s σ H Q I h
  exact isTrue_plain (thn (ha pins s σ H _ I h) fun v s1 ⟨x,H1,I1,r1,q1⟩=>Zp2 pins s1 σ H1 x v Q I1 r1 q1) (he _)
theorem op_add_str:OpR X (binaryOp .Add) (fun x y H Q=>∃i j,x=.str i∧y=.str j∧i.length+j.length≤sizeLine∧Q (.str (i++j)) H):=by
  intro pins s σ H x y v u Q I rx ry h
  obtain ⟨i,j,rfl,rfl,hz,q⟩:=h
  obtain ⟨t,rfl⟩:=rx
  obtain ⟨t',rfl⟩:=ry
  exact add_str (fun t' tk=>⟨.str (i++j),H,I.tok _,⟨_,rfl⟩,q⟩) hz
theorem ZfX {x:V} {us:List Value} (r:Vals [x] us):∃u,us=[u]∧RelV x u:=by
  cases r with
  | cons r1 r2=>cases r2; exact ⟨_,rfl,r1⟩
theorem Zp0 {x y:V} {us:List Value} (r:Vals [x,y] us):∃u w',us=[u,w']∧RelV x u∧RelV y w':=by
  cases r with
  | cons r1 r2=>
    cases r2 with
    | cons r3 r4=>cases r4; exact ⟨_,_,rfl,r1,r3⟩
theorem Zoq (hc:X.calm=true):CallR X (.builtin "max") (fun xs H Q=>∃i j,xs=[.int i,.int j]∧Q (.int (if j > i then j else i)) H):=by
  intro pins s σ H xs us Q I r h
  obtain ⟨i,j,rfl,q⟩:=h
  obtain ⟨u,w',rfl,⟨t,rfl⟩,⟨t',rfl⟩⟩:=Zp0 r
  refine max_two_ints (I.ok.hd hc) fun h' tk k=>⟨_,H,I.kept k,?_,q⟩
  by_cases hj:j > i
  · rw [if_pos hj,if_pos hj]; exact ⟨_,rfl⟩
  · rw [if_neg hj,if_neg hj]; exact ⟨_,rfl⟩
theorem Zop (hc:X.calm=true):CallR X (.builtin "min") (fun xs H Q=>∃i j,xs=[.int i,.int j]∧Q (.int (if j<i then j else i)) H):=by
  intro pins s σ H xs us Q I r h
  obtain ⟨i,j,rfl,q⟩:=h
  obtain ⟨u,w',rfl,⟨t,rfl⟩,⟨t',rfl⟩⟩:=Zp0 r
  refine min_two_ints (I.ok.hd hc) fun h' tk k=>⟨_,H,I.kept k,?_,q⟩
  by_cases hj:j<i
  · rw [if_pos hj,if_pos hj]; exact ⟨_,rfl⟩
  · rw [if_neg hj,if_neg hj]; exact ⟨_,rfl⟩
theorem Zor:CallR X (.type "int") (fun xs H Q=>(∃i,xs=[.int i]∧Q (.int i) H)∨∃k,xs=[.bl k]∧Q (.int (if k then 1 else 0)) H):=by
  intro pins s σ H xs us Q I r h
  rcases h with ⟨i,rfl,q⟩ | ⟨k,rfl,q⟩
  · obtain ⟨u,rfl,t,rfl⟩:=ZfX r
    exact call_int_int ⟨.int i,H,I,⟨_,rfl⟩,q⟩
  · obtain ⟨u,rfl,r1⟩:=ZfX r
    cases r1
    exact call_int_bool ⟨.int (if k then 1 else 0),H,I.tok _,⟨_,rfl⟩,q⟩
end
end L2
namespace L2
open PySem PySem.Spec PyProof.Rows
structure ObjM (h:Heap) (x dx C:Addr) (mA:Str→Option Value):Prop where
  obj:h.get? x=some (PySem.W.instObj C dx)
  ns:h.Ns1 dx mA
  ne:dx≠x
theorem Zoc {h:Heap} {dx:Addr} {mA:Str→Option Value} (n:h.Ns1 dx mA):∃od,h.get? dx=some od∧∀name,PySem.W.lookIn name od=some (mA name):=by
  obtain ⟨o,es,ep,ho,hd,hk,_,hm⟩:=n
  refine ⟨o,ho,fun name=>?_⟩
  have e:=hm name
  unfold nsFind findBy at e
  rw [←Array.find?_toList] at e
  unfold PySem.W.lookIn
  rw [hd]
  dsimp only
  split
  · rename_i y q
    rw [q] at e
    exact congrArg some e
  · rename_i q
    rw [q] at e
    have a:es.toList.any (·.refKey)=false:=by
      rw [List.any_eq_false]
      intro y hy
      obtain ⟨z,t,hkey⟩:=hk y (Array.mem_toList_iff.mp hy)
      simp [DictEntry.refKey,hkey]
    have a':¬es.toList.any (·.refKey)=true:=by rw [a]; exact Bool.false_ne_true
    rw [if_neg a']
    exact congrArg some e
theorem ObjM.look {h:Heap} {x dx C:Addr} {mA:Str→Option Value} (I:ObjM h x dx C mA):∃od,PySem.W.InstAt h x (PySem.W.instObj C dx) C (some od)∧∀name,PySem.W.lookIn name od=some (mA name):=
  let ⟨od,ho,hl⟩:=Zoc I.ns
  ⟨od,⟨I.obj,rfl,rfl,ho⟩,hl⟩
section
variable {prog:Program} {w:World} {A:Around} {E:Value→Shared→Prop} {s:Shared} {K:PySem.W.Frag} {x dx C f:Addr} {mA:Str→Option Value} {name:Str} {v:Value}
theorem ZsV {expr:Bool} {Q:Value→Shared→Prop} (X:K.In s.heap) (I:ObjM s.heap x dx C mA) (hg:PySem.W.plainGet K C name=true) (hh:PySem.W.hasDictIn K C=true)
    (ha:PySem.W.findIn K (.ref C) name=some none) (hv:mA name=some v) (hv':PySem.W.handedIn v=true) (h:Q v { s with toks:=s.toks+1 }) :
    wpAny (model prog w) A (getAttr (.ref x) name expr) Q E s:=by
  obtain ⟨od,J,hl⟩:=I.look
  exact PySem.W.get_value X J (PySem.W.plainGet_of hg).1 (PySem.W.findObj_own hh ha rfl (by rw [hl,hv])) hv' h
theorem Zsc {ns:List Str} {Q:Unit→Shared→Prop} (X:K.In s.heap) (I:ObjM s.heap x dx C mA)
    (hs:PySem.W.findIn K (.ref C) "__setattr__"=some (some (.builtin "object.__setattr__"))) (hp:PySem.W.plainOver K C=true) (ht:PySem.W.takerIn K C name=some none) (hh:PySem.W.hasDictIn K C=true)
    (hw:PySem.Within mA ns) (hsz:ns.length≤sizeLine)
    (h:∀h',ObjM h' x dx C (fun y=>if y=name then some v else mA y)→Heap.SameBut dx s.heap h'→Q () { s with heap:=h',toks:=s.toks+2 }) :
    wpAny (model prog w) A (setAttr (.ref x) name v) Q E s:=by
  obtain ⟨od,J,hl⟩:=I.look
  refine PySem.W.set_plain X J hs (PySem.W.osa_open (s:={ s with toks:=s.toks+1 }) (r:=none) X J hp ht fun b=>?_)
  obtain ⟨cd,hc,hd'⟩:=PySem.W.any_some hh
  have hx:s.heap.get? x=some ⟨.ref C,some dx,.plain,#[]⟩:=I.obj
  refine wpAny_bind (wpAny_pure (wpAny_bind (wpAny_bind (wpAny_loadPart hx (wpAny_bind (PySem.W.Looks.here (s:={ s with toks:=s.toks+1 }) (PySem.W.looks_clsIn X hc) ?_))))))
  rw [hd']
  refine wpAny_pure (a:=some dx) (wpAny_bind (wpAny_pure (wpAny_bind ?_)))
  refine wpAny_nsSet1 (s:={ s with toks:=s.toks+1 }) I.ns fun h' hn2 hs2=>?_
  obtain ⟨oD,esD,epD,hoD,hdD,hcD⟩:=hn2.count (PySem.Within.cons name v hw)
  refine wpAny_bind (wpAny_lookBehind hoD (by rw [hdD]; exact pastItsLine_dict (Nat.le_trans hcD (by rw [List.length_cons]; omega))) ?_)
  exact wpAny_pure (h _ ⟨(hs2.2 _ (Ne.symm I.ne)).trans I.obj,hn2,I.ne⟩ hs2)
theorem Zq2 {R:Result→Shared→Prop} {vs:List Value} {kw:List (Str×Value)} (X:K.In s.heap) (hm:PySem.W.makesIn K C=true)
    (hi:PySem.W.findIn K (.ref C) "__init__"=some (some (.ref f))) (hf:PySem.W.typeIn K (.ref f)=some (.type "function"))
    (h:codeAny (model prog w) (A.under (.builtin "type.__call__" ⟨.ref C::vs,kw⟩)) (.call (.ref f) ⟨.ref (s.heap.objs.size+1)::vs,kw⟩) (PySem.W.InitBack (s.heap.objs.size+1) R)
      { s with heap:=(s.heap.push PySem.W.emptyDict).push (PySem.W.instObj C s.heap.objs.size) }) :
    codeAny (model prog w) A (.call (.ref C) ⟨vs,kw⟩) R s:=by
  obtain ⟨hh,g,d,t,os⟩:=s
  exact PySem.W.make_core (PySem.W.makes_of X hm) (PySem.W.looks_findIn X hi) (fun self=>PySem.W.bind_fn X self hf) (.inl rfl) h
end
def ZdT (f:Str) (v:V):List (Str×V)→List (Str×V)
  | []=>[(f,v)]
  | (g,x)::r=>if g=f then (g,v)::r else (g,x)::ZdT f v r
theorem Zhd (f g:Str) (v:V):∀fs:List (Str×V),(ZdT f v fs).lookup g=if g=f then some v else fs.lookup g
  | []=>by
    show List.lookup g [(f,v)]=_
    by_cases h:g=f
    · have hb:(g == f)=true:=beq_iff_eq.mpr h
      simp only [List.lookup,hb,if_pos h]
    · have hb:(g == f)=false:=beq_eq_false_iff_ne.mpr h
      simp only [List.lookup,hb,if_neg h]
  | (k,x)::r=>by
    have ih:=Zhd f g v r
    rw [show ZdT f v ((k,x)::r)=(if k=f then (k,v)::r else (k,x)::ZdT f v r) from rfl]
    by_cases hk:k=f
    · rw [if_pos hk]
      by_cases h:g=k
      · have hb:(g == k)=true:=beq_iff_eq.mpr h
        simp only [List.lookup,hb,if_pos (h.trans hk)]
      · have hb:(g == k)=false:=beq_eq_false_iff_ne.mpr h
        simp only [List.lookup,hb,if_neg (fun e:g=f=>h (e.trans hk.symm))]
    · rw [if_neg hk]
      by_cases h:g=k
      · have hb:(g == k)=true:=beq_iff_eq.mpr h
        simp only [List.lookup,hb,if_neg (fun e:g=f=>hk (h.symm.trans e))]
      · have hb:(g == k)=false:=beq_eq_false_iff_ne.mpr h
        simp only [List.lookup,hb]
        exact ih
theorem ZgS (f:Str) (v:V):∀fs:List (Str×V),f∈(ZdT f v fs).map (·.1)∧∀g,g∈fs.map (·.1)→g∈(ZdT f v fs).map (·.1)
  | []=>⟨by simp [ZdT],fun g h=>by simp at h⟩
  | (k,x)::r=>by
    obtain ⟨i1,i2⟩:=ZgS f v r
    rw [show ZdT f v ((k,x)::r)=(if k=f then (k,v)::r else (k,x)::ZdT f v r) from rfl]
    by_cases hk:k=f
    · rw [if_pos hk]
      subst hk
      exact ⟨by simp,fun g h=>by simpa using h⟩
    · rw [if_neg hk]
      refine ⟨?_,fun g h=>?_⟩
      · rw [List.map_cons]
        exact List.mem_cons_of_mem _ i1
      · rw [List.map_cons] at h ⊢
        rcases List.mem_cons.mp h with e | e
        · exact List.mem_cons.mpr (.inl e)
        · exact List.mem_cons_of_mem _ (i2 g e)
theorem Zhf (f:Str) (v:V):∀fs:List (Str×V),(ZdT f v fs).length≤fs.length+1
  | []=>by simp [ZdT]
  | (k,x)::r=>by
    have ih:=Zhf f v r
    rw [show ZdT f v ((k,x)::r)=(if k=f then (k,v)::r else (k,x)::ZdT f v r) from rfl]
    by_cases hk:k=f
    · rw [if_pos hk,List.length_cons,List.length_cons]; omega
    · rw [if_neg hk,List.length_cons,List.length_cons]; omega
theorem RelO.some_of {v:V} {o:Option Value} (r:RelO (some v) o):∃u,o=some u∧RelV v u:=by
  cases o with
  | none=>exact (show False from r).elim
  | some u=>exact ⟨u,rfl,r⟩
theorem RelO.none_of {o:Option Value} (r:RelO none o):o=none:=by
  cases o with
  | none=>rfl
  | some u=>exact (show False from r).elim
theorem Zol {v:V} {u:Value} (r:RelV v u):PySem.W.handedIn u=true:=by
  cases v with
  | non=>cases (show u=Value.none from r); rfl
  | bl b=>cases (show u=Value.bool b from r); rfl
  | int i=>obtain ⟨t,e⟩:=(show ∃t,u=Value.int i t from r); cases e; rfl
  | str x=>obtain ⟨t,e⟩:=(show ∃t,u=Value.str x t from r); cases e; rfl
  | byt b=>obtain ⟨t,e⟩:=(show ∃t,u=Value.bytes b t from r); cases e; rfl
  | flt b=>obtain ⟨t,e⟩:=(show ∃t,u=Value.float b t from r); cases e; rfl
  | ref a=>cases (show u=Value.ref a from r); rfl
  | ty n=>cases (show u=Value.type n from r); rfl
section
variable {P:Program} {w:World} {H H':Hp} {h h':Heap} {a C dx:Addr} {fs fs':List (Str×V)}
theorem ZjG (hok:HOk P w H h) (e:H a=some (.ins C dx fs)):∃mA,ObjM h a dx C mA∧(∀f,RelO (fs.lookup f) (mA f))∧PySem.Within mA (fs.map (·.1))∧fs.length≤1000∧H dx=some (.own a):=by
  obtain ⟨d,z,ne,ob,mA,n,r,q⟩:=(show ObjOk P w H h a (.ins C dx fs) from hok a _ e)
  exact ⟨mA,⟨ob,n,ne⟩,r,q,z,d⟩
end
structure Cls (K:PySem.W.Frag) (C:Addr):Prop where
  pg:PySem.W.plainGet K C Str.empty=true
  hd:PySem.W.hasDictIn K C=true
  po:PySem.W.plainOver K C=true
  sa:PySem.W.findIn K (.ref C) "__setattr__"=some (some (.builtin "object.__setattr__"))
theorem Cls.get {K:PySem.W.Frag} {C:Addr} (c:Cls K C) (f:Str):PySem.W.plainGet K C f=true:=c.pg
def NoAttr (K:PySem.W.Frag) (C:Addr) (f:Str):Prop:=PySem.W.findIn K (.ref C) f=some none
theorem NoAttr.taker {K:PySem.W.Frag} {C:Addr} {f:Str} (n:NoAttr K C f):PySem.W.takerIn K C f=some none:=by
  unfold PySem.W.takerIn
  rw [show PySem.W.findIn K (.ref C) f=some none from n]
  rfl
structure Con (K:PySem.W.Frag) (C:Addr) (f:Str) (v:V) (u:Value):Prop where
  at_:PySem.W.findIn K (.ref C) f=some (some u)
  rel:RelV v u
  get:PySem.W.specialIn K u "__get__"=some none
  cp:PySem.W.copiedNames.contains f=false
structure ZAB (K:PySem.W.Frag) (C:Addr) (m:Str) (f:Addr):Prop where
  at_:PySem.W.findIn K (.ref C) m=some (some (.ref f))
  fn:PySem.W.isFn K (.ref f)=true
  kp:PySem.W.keepIn K (.ref f)=true
section
variable {X:Cx} {pins:List (Addr×Obj)} {σ:St} {H:Hp} {s:Shared} {a C dx:Addr} {fs:List (Str×V)} {f:Str} {v:V} {A:Around} {E:Value→Shared→Prop}
theorem ZmI {b:Bool} {Q:Value→Shared→Prop} (I:Inv X pins σ H s) (e:H a=some (.ins C dx fs)) (c:Cls X.K C) (n:NoAttr X.K C f) (l:fs.lookup f=some v)
    (h:∀u s',Inv X pins σ H s'→RelV v u→Q u s'):wpAny (model X.prog X.w) A (getAttr (.ref a) f b) Q E s:=by
  obtain ⟨mA,O,r,_,_,_⟩:=ZjG I.hok e
  obtain ⟨u,hu,ru⟩:=RelO.some_of (v:=v) (o:=mA f) (by rw [←l]; exact r f)
  exact ZsV I.kIn O (c.get f) c.hd n hu (Zol ru) (h u _ (I.tok _) ru)
theorem Zmp {y:V} {u:Value} {Q:Unit→Shared→Prop} (I:Inv X pins σ H s) (e:H a=some (.ins C dx fs)) (c:Cls X.K C) (n:NoAttr X.K C f) (hl:fs.length<1000) (ry:RelV y u)
    (h:∀s',Inv X pins σ (upd H a (.ins C dx (ZdT f y fs))) s'→Q () s'):wpAny (model X.prog X.w) A (setAttr (.ref a) f u) Q E s:=by
  obtain ⟨mA,O,r,wi,_,ho⟩:=ZjG I.hok e
  have hz:(fs.map (·.1)).length≤sizeLine:=by rw [List.length_map,sizeLine_eq]; omega
  refine Zsc I.kIn O c.sa c.po n.taker c.hd wi hz fun h' O' sb=>h _ ?_
  have hd:∃o,h'.get? dx=some o:=let ⟨o,_,_,e',_⟩:=O'.ns; ⟨o,e'⟩
  refine I.write (x:=a) (e:=dx) (by rw [e]; exact True.intro) (.inr ho) (fun b q hb z=>(sb.2 b hb).trans z) hd ?_
  refine ⟨by rw [ZS O.ne]; exact ho,?_,O.ne,O'.obj,_,O'.ns,fun g=>?_,fun g hg=>?_⟩
  · have:=Zhf f y fs; omega
  · show RelO ((ZdT f y fs).lookup g) (if g=f then some u else mA g)
    rw [Zhd]
    by_cases q:g=f
    · rw [if_pos q,if_pos q]; exact ry
    · rw [if_neg q,if_neg q]; exact r g
  · by_cases q:g=f
    · rw [q]; exact (ZgS f y fs).1
    · refine (ZgS f y fs).2 g (wi g fun z=>hg ?_)
      show (if g=f then some u else mA g)=none
      rw [if_neg q]; exact z
theorem Inv.made (I:Inv X pins σ H s):Inv X pins σ (upd (upd H s.heap.objs.size (.own (s.heap.objs.size+1))) (s.heap.objs.size+1) (.ins C s.heap.objs.size []))
    { s with heap:=(s.heap.push PySem.W.emptyDict).push (PySem.W.instObj C s.heap.objs.size) }:=by
  have e1:(s.heap.push PySem.W.emptyDict).get? s.heap.objs.size=some PySem.W.emptyDict:=Heap.get?_push_size s.heap rfl
  have e2:((s.heap.push PySem.W.emptyDict).push (PySem.W.instObj C s.heap.objs.size)).get? (s.heap.objs.size+1)=some (PySem.W.instObj C s.heap.objs.size):=by
    have:=Heap.get?_push_size (s.heap.push PySem.W.emptyDict) (o:=PySem.W.instObj C s.heap.objs.size) rfl
    rwa [Heap.size_push] at this
  have e3:(s.heap.push PySem.W.emptyDict).Ns s.heap.objs.size (fun _=>none):=⟨PySem.W.emptyDict,#[],_,e1,rfl,(fun e he=>absurd he (by simp)),fun _=>rfl⟩
  have I1:=I.laid (a:=s.heap.objs.size) (o:=.own (s.heap.objs.size+1)) (h':=s.heap.push PySem.W.emptyDict) (t':=s.toks) (fun b u q=>Heap.get?_push_of_some _ q) (Nat.le_refl _) ⟨_,e1⟩
  refine I1.laid (a:=s.heap.objs.size+1) (o:=.ins C s.heap.objs.size []) (t':=s.toks) (fun b u q=>Heap.get?_push_of_some _ q) (Nat.le_of_eq (Heap.size_push _ _)) ?_
  have ne:s.heap.objs.size≠s.heap.objs.size+1:=Nat.ne_of_lt (Nat.lt_succ_self _)
  refine ⟨by rw [ZS ne,zE],Nat.zero_le _,ne,e2,fun _=>none,(Heap.Ns1.of_empty e3).at fun o q=>Heap.get?_push_of_some _ q,fun _=>True.intro,fun y hy=>absurd rfl hy⟩
theorem Zs5 {prog:Program} {w:World} {env:Env} {e:Expr} {f:Str} {pos:Pos} {s:Shared} {Q:Value→Shared→Prop} (hb:attributeBase e f env (eval e env)=eval e env)
    (h:wpAny (model prog w) A (eval e env) (fun o s₁=>wpAny (model prog w) A (getAttr o f true) Q E s₁) E s):wpAny (model prog w) A (eval (.Attribute e f pos) env) Q E s:=
  Attribute_any_ h (by rw [arm_eval_Attribute,hb])
end
def ZzS (K:PySem.W.Frag) (ta:TE) (f:Str):TE:=fun σ H Q=>ta σ H fun x H1=>∃a C dx fs v,x=.ref a∧H1 a=some (.ins C dx fs)∧Cls K C∧NoAttr K C f∧fs.lookup f=some v∧Q v H1
def Zz1 (K:PySem.W.Frag) (ta tv:TE) (f:Str):TS:=fun D σ H=>tv σ H fun y H1=>ta σ H1 fun x H2=>∃a C dx fs,x=.ref a∧H2 a=some (.ins C dx fs)∧Cls K C∧NoAttr K C f∧fs.length<1000∧
  D.nx σ (upd H2 a (.ins C dx (ZdT f y fs)))
section
variable {X:Cx} {o e value:Expr} {f:Str} {pos pos' tpos:Pos} {ta tv:TE}
theorem ZuJ (he:PE X e ta) (hb:attributeBase e f X.env (eval e X.env)=eval e X.env):PE X (.Attribute e f pos) (ZzS X.K ta f):=by
  intro pins s σ H Q I h
  refine Zs5 hb (thn (he pins s σ H _ I h) fun u s1 ⟨x,H1,I1,rx,a,C,dx,fs,v,ex,ea,c,n,l,q⟩=>?_)
  subst ex
  obtain rfl:u=Value.ref a:=rx
  exact ZmI I1 ea c n l fun u' s2 I2 ru=>⟨v,H1,I2,ru,q⟩
theorem Zuw (ha:PE X o ta) (hv:PE X value tv) (hs:swapsWith value (some (.Attribute o f pos')) pos.line X.env=pure false):PS X (.Assign [.Attribute o f pos'] value pos) (Zz1 X.K ta tv f):=by
  intro pins s σ H D I h
  refine plainObj_wpAny_Assign_Attribute (thn (hv pins s σ H _ I h) fun u s1 ⟨y,H1,I1,ry,q⟩=>thn (ha pins s1 σ H1 _ I1 q) fun ov s2 ⟨x,H2,I2,rx,a,C,dx,fs,ex,ea,c,n,l,q2⟩=>?_) hs
  subst ex
  obtain rfl:ov=Value.ref a:=rx
  exact Zmp I2 ea c n l ry fun s3 I3=>⟨σ,_,I3,q2⟩
end
section
variable {X:Cx} {pins:List (Addr×Obj)} {σ:St} {H:Hp} {s:Shared} {A:Around} {E:Value→Shared→Prop} {Q:Value→Shared→Prop} {c:Value} {b:Bool}
inductive ZgA (K:PySem.W.Frag) (H:Hp):V→Value→Prop where
  | non:ZgA K H .non (.type "NoneType")
  | bl (x:Bool):ZgA K H (.bl x) (.type "bool")
  | int (i:Int):ZgA K H (.int i) (.type "int")
  | str (x:Str):ZgA K H (.str x) (.type "str")
  | flt (x:UInt64):ZgA K H (.flt x) (.type "float")
  | lst {a:Addr} {xs:List V} (e:H a=some (.lst xs)):ZgA K H (.ref a) (.type "list")
  | frz {a:Addr} {o:Obj} {xs:List V} (e:H a=some (.frz o (.lst xs))):ZgA K H (.ref a) (.type "list")
  | tup {a:Addr} {xs:List V} (e:H a=some (.tup xs)):ZgA K H (.ref a) (.type "tuple")
  | dK {a:Addr} {kvs:List (Key×V)} (e:H a=some (.dK kvs)):ZgA K H (.ref a) (.type "dict")
  | dT {a:Addr} {kvs:List (List Key×V)} (e:H a=some (.dT kvs)):ZgA K H (.ref a) (.type "dict")
  | ins {a C dx:Addr} {fs:List (Str×V)} (e:H a=some (.ins C dx fs)) (cl:Cls K C) (ha:PySem.W.findIn K (.ref C) "__class__"=some (some (.builtin "object.__class__")))
      (hn:PySem.W.specialIn K (.builtin "object.__class__") "__get__"=some (some (.builtin "getset_descriptor.__get__"))) (htk:PySem.W.takesIn K (.builtin "object.__class__")=some true)
      (hm:PySem.W.mroIn K C (.type "object")=some true):ZgA K H (.ref a) (.ref C)
theorem Zoh {x:V} {u t:Value} (I:Inv X pins σ H s) (rx:RelV x u) (ty:ZgA X.K H x t) (e:PySem.W.kitOne X.K t c=some b) (h:∀tk,Q (.bool b) { s with toks:=tk }) :
    wpAny (model X.prog X.w) A (call (.builtin "isinstance") [u,c]) Q E s:=by
  cases ty with
  | non=>cases (show u=Value.none from rx); exact PySem.W.kia_one PySem.W.kitx_none I.kIn True.intro e (fun z=>nomatch z) h
  | bl y=>cases (show u=Value.bool y from rx); exact PySem.W.kia_one PySem.W.kitx_bool I.kIn True.intro e (fun z=>nomatch z) h
  | int i=>obtain ⟨t,q⟩:=(show ∃t,u=Value.int i t from rx); cases q; exact PySem.W.kia_one PySem.W.kitx_int I.kIn True.intro e (fun z=>nomatch z) h
  | str y=>obtain ⟨t,q⟩:=(show ∃t,u=Value.str y t from rx); cases q; exact PySem.W.kia_one PySem.W.kitx_str I.kIn True.intro e (fun z=>nomatch z) h
  | flt y=>obtain ⟨t,q⟩:=(show ∃t,u=Value.float y t from rx); cases q; exact PySem.W.kia_one PySem.W.kitx_float I.kIn True.intro e (fun z=>nomatch z) h
  | @lst a xs ea=>
    cases (show u=Value.ref a from rx)
    obtain ⟨_,_,n,_,h1⟩:=(show ObjOk X.prog X.w H s.heap a (.lst xs) from I.hok a _ ea)
    exact PySem.W.kia_one PySem.W.kitx_list I.kIn ⟨_,h1,rfl⟩ e (fun z=>nomatch z) h
  | @frz a ob xs ea=>
    cases (show u=Value.ref a from rx)
    obtain ⟨_,_,_,n,_,h1⟩:=(show ObjOk X.prog X.w H s.heap a (.frz ob (.lst xs)) from I.hok a _ ea)
    exact PySem.W.kia_one PySem.W.kitx_list I.kIn ⟨_,h1,rfl⟩ e (fun z=>nomatch z) h
  | @tup a xs ea=>
    cases (show u=Value.ref a from rx)
    obtain ⟨_,_,_,p⟩:=(show ObjOk X.prog X.w H s.heap a (.tup xs) from I.hok a _ ea)
    obtain ⟨o,h1,h2,_⟩:=p
    exact PySem.W.kia_one PySem.W.kitx_tuple I.kIn ⟨o,h1,h2⟩ e (fun z=>nomatch z) h
  | @dK a kvs ea=>
    cases (show u=Value.ref a from rx)
    obtain ⟨_,_,vs,_,p⟩:=(show ObjOk X.prog X.w H s.heap a (.dK kvs) from I.hok a _ ea)
    obtain ⟨o,es,ep,h1,h2,_⟩:=p
    exact PySem.W.kia_one PySem.W.kitx_dict I.kIn ⟨o,h1,h2.1⟩ e (fun z=>nomatch z) h
  | @dT a kvs ea=>
    cases (show u=Value.ref a from rx)
    obtain ⟨_,_,xs,_,o,es,ep,h1,h2,_⟩:=(show ObjOk X.prog X.w H s.heap a (.dT kvs) from I.hok a _ ea)
    exact PySem.W.kia_one PySem.W.kitx_dict I.kIn ⟨o,h1,h2.1⟩ e (fun z=>nomatch z) h
  | @ins a C dx fs ea cl ha hn htk hm=>
    cases (show u=Value.ref a from rx)
    obtain ⟨mA,O,_⟩:=ZjG I.hok ea
    obtain ⟨od,J,_⟩:=O.look
    exact PySem.W.kia_one (PySem.W.kitx_own (cl.get _) cl.hd ha hn htk hm) I.kIn J e (fun z=>nomatch z) h
end
end L2
namespace L2
open PySem PySem.Spec PyProof.Rows
structure Room (k:Nat) (A:Around):Prop where
  hd:A.handled=none
  dp:A.depth+3*k+5<recursionLimit
  un:A.units+16*k+200<cLine
theorem Room.mono {j k:Nat} {A:Around} (r:Room k A) (h:j≤k):Room j A:=⟨r.hd,by have:=r.dp; omega,by have:=r.un; omega⟩
theorem Room.deeper {k:Nat} {A:Around} (r:Room (k+1) A) (env:Env):Room k (A.deeper env):=
  ⟨r.hd,by have:=r.dp; show A.depth+1+3*k+5<_; omega,by have:=r.un; show A.units+3+16*k+200<_; omega⟩
theorem ZmD {A:Around} {C:Addr} {us:List Value} {kw:List (Str×Value)}:(A.under (.builtin "type.__call__" ⟨.ref C::us,kw⟩)).depth=A.depth+1:=by
  first | rfl | simp [Around.under,Code.weight,Code.isCreation,Code.isGuard,Code.isCaller,Code.frames,Code.isFrame,guardIds]
theorem ZmC {A:Around} {C:Addr} {us:List Value} {kw:List (Str×Value)}:(A.under (.builtin "type.__call__" ⟨.ref C::us,kw⟩)).units=A.units+1:=by
  first | rfl | simp [Around.under,Code.cUnits,Code.frames,Code.isFrame]
theorem Room.make {k:Nat} {A:Around} (r:Room (k+1) A) (C:Addr) (us:List Value) (kw:List (Str×Value)):Room k (A.under (.builtin "type.__call__" ⟨.ref C::us,kw⟩)):=
  ⟨r.hd,by have:=r.dp; rw [ZmD]; omega,by have:=r.un; rw [ZmC]; omega⟩
theorem Room.depth {k:Nat} {A:Around} (r:Room k A):A.depth<recursionLimit:=by have:=r.dp; omega
theorem Room.units {k:Nat} {A:Around} (r:Room k A):A.units+64<cLine:=by have:=r.un; omega
def Zud:TA:=fun _ H Q=>Q [] H
def Ztp (ta:TE) (tr:TA):TA:=fun σ H Q=>ta σ H fun x H1=>tr σ H1 fun xs H2=>Q (x::xs) H2
section
variable {X:Cx} {e:Expr} {es:List Expr} {te:TE} {t:TA} {pos:Pos}
theorem ZhX:PA X [] Zud:=fun _ _ _ _ H Q I h=>Calls.spliced_nil ⟨[],H,I,.nil,h⟩
theorem Zf6 (ha:PE X e te) (hr:PA X es t) (hs:starEach (e::es) X.env=(false,eval e X.env)::starEach es X.env:=by rfl):PA X (e::es) (Ztp te t):=by
  intro pos pins s σ H Q I h
  rw [hs]
  show wpAny _ _ (spliced ((false,eval e X.env)::backTo pos (starEach es X.env))) _ _ s
  refine Calls.spliced_cons (thn (ha pins s σ H _ I h) fun u s1 ⟨x,H1,I1,r1,q1⟩=>?_)
  exact thn (hr pos pins s1 σ H1 _ I1 q1) fun us s2 ⟨xs,H2,I2,r2,q2⟩=>⟨x::xs,H2,I2,.cons r1 r2,q2⟩
def ZzJ (t:TA):TE:=fun σ H Q=>t σ H fun xs H1=>xs.length≤sizeLine∧∀p,H1 p=none→Q (.ref p) (upd H1 p (.tup xs))
def ZzP (t:TA):TE:=fun σ H Q=>t σ H fun xs H1=>xs.length≤sizeLine∧∀p,H1 p=none→Q (.ref p) (upd H1 p (.lst xs))
theorem ZuE {x1} (h:PA X es t):PE X (.Tuple es x1 pos) (ZzJ t):=by
  intro pins s σ H Q I hq
  refine wpAny_Tuple_spliced (thn (h pos pins s σ H _ I hq) fun us s1 ⟨xs,H1,I1,r,z,q⟩=>⟨by rw [←r.length]; exact z,?_⟩)
  have hf:H1 s1.heap.objs.size=none:=I1.hok.fresh (Nat.le_refl _)
  refine ⟨.ref s1.heap.objs.size,upd H1 s1.heap.objs.size (.tup xs),I1.laid (t':=s1.toks) (fun b u e=>Heap.get?_push_of_some _ e) (Nat.le_refl _) ?_,rfl,q _ hf⟩
  exact ⟨z,us,r,⟨_,Heap.get?_push_size _ rfl,rfl,_,rfl⟩⟩
theorem Zqw (h:PA X es t):PE X (.List es pos) (ZzP t):=by
  intro pins s σ H Q I hq
  refine wpAny_List_spliced (thn (h pos pins s σ H _ I hq) fun us s1 ⟨xs,H1,I1,r,z,q⟩=>⟨by rw [←r.length]; exact z,?_⟩)
  have hf:H1 s1.heap.objs.size=none:=I1.hok.fresh (Nat.le_refl _)
  refine ⟨.ref s1.heap.objs.size,upd H1 s1.heap.objs.size (.lst xs),I1.laid (t':=s1.toks) (fun b u e=>Heap.get?_push_of_some _ e) (Nat.le_refl _) ?_,rfl,q _ hf⟩
  exact ⟨z,us,0,r,Heap.get?_push_size _ rfl⟩
end
abbrev Sp:=List V→Hp→VK→XK→Prop
abbrev CXT:=List Env→Hp→Shared→XK→Value→Shared→Prop
structure Env0 (P:Program) (w:World) (K:PySem.W.Frag) (mg:Str→Option Value) (base:Heap) (A:Around) (outer:List Env) (s:Shared) (H:Hp):Prop where
  frames:A.frames=some outer
  mod:Mod K mg base
  bs:∀b o,base.get? b=some o→s.heap.get? b=some o∧H b=none
  bsz:base.objs.size≤s.heap.objs.size
  funs:s.heap.FunFrames base outer
  frf:∀b∈frs outer,H b=none
  hok:HOk P w H s.heap
  bare:AllBare s.gens
def CE (outer:List Env) (P:Program) (w:World) (H:Hp) (s:Shared) (Q:VK) (u:Value) (s':Shared):Prop:=
  ∃v H',s'.os=s.os∧AllBare s'.gens∧Un (frs outer) [] H H' s.heap s'.heap∧HOk P w H' s'.heap∧RelV v u∧Q v H'
def CR (CX:CXT) (outer:List Env) (P:Program) (w:World) (H:Hp) (s:Shared) (Q:VK) (E:XK) (r:Result) (s':Shared):Prop:=
  match r with
  | .ok (.ret u)=>CE outer P w H s Q u s'
  | .ok _=>False
  | .error e=>CX outer H s E e s'
structure FnOk (P:Program) (w:World) (K:PySem.W.Frag) (mg:Str→Option Value) (base:Heap) (CX:CXT) (k:Nat) (f:Addr) (fd:FuncData) (ps:List Str) (sp:Sp):Prop where
  len:∀vs H Q E,sp vs H Q E→vs.length=ps.length
  run:∀(A:Around) (outer:List Env) (s:Shared) (H:Hp) (args:Args) (us:List Value) (vs:List V) (Q:VK) (E:XK),Room k A→Env0 P w K mg base A outer s H→BindsTo s fd args (ps.zip us)→Vals vs us→sp vs H Q E→
    codeAny (model P w) A (.call (.ref f) args) (CR CX outer P w H s Q E) s
theorem FnOk.imp {P:Program} {w:World} {K:PySem.W.Frag} {mg:Str→Option Value} {base:Heap} {CX:CXT} {k:Nat} {f:Addr} {fd:FuncData} {ps:List Str} {sp sp':Sp} (F:FnOk P w K mg base CX k f fd ps sp)
    (h:∀vs H Q E,sp' vs H Q E→sp vs H Q E):FnOk P w K mg base CX k f fd ps sp':=
  ⟨fun vs H Q E q=>F.len vs H Q E (h _ _ _ _ q),fun A outer s H args us vs Q E hr he hb hv hs=>F.run A outer s H args us vs Q E hr he hb hv (h _ _ _ _ hs)⟩
theorem Env0.make {P:Program} {w:World} {K:PySem.W.Frag} {mg:Str→Option Value} {base:Heap} {A:Around} {outer:List Env} {s:Shared} {H:Hp} (e:Env0 P w K mg base A outer s H) (C:Addr) (us:List Value) (kw:List (Str×Value)) :
    Env0 P w K mg base (A.under (.builtin "type.__call__" ⟨.ref C::us,kw⟩)) outer s H:=⟨by first | exact e.frames | (simpa [Around.under,Code.envs,Code.isFrame,pushEnvs] using e.frames),e.mod,e.bs,e.bsz,e.funs,e.frf,e.hok,e.bare⟩
section
variable {X:Cx} {pins:List (Addr×Obj)} {σ:St} {H:Hp} {s s':Shared}
theorem Inv.env0 (I:Inv X pins σ H s):Env0 X.prog X.w X.K X.mg X.base X.A X.stack s H:=
  ⟨I.ok.frames,I.ok.mod,I.bs,Nat.le_trans I.ok.bsz I.sz,I.stack,I.stkFree,I.hok,I.bare⟩
theorem Inv.after {Q:VK} {u:Value} (I:Inv X pins σ H s) (h:CE X.stack X.prog X.w H s Q u s'):EP X pins σ Q u s':=by
  obtain ⟨v,H',os,bare,un,hok,r,q⟩:=h
  obtain ⟨hh,g,d,t,os'⟩:=s'
  obtain rfl:os'=s.os:=os
  exact ⟨v,H',I.call (h':=hh) (g':=g) (d':=d) (t':=t) (ch:=[]) un hok bare (fun b z=>absurd z (by simp)),r,q⟩
end
def Ztq (sp:Sp) (dvs:List V) (E:XK) (t:TA):TE:=fun σ H Q=>t σ H fun vs H1=>sp (vs++dvs) H1 Q E
def Ztn (C:Addr) (sp:Sp) (dvs:List V) (E:XK) (t:TA):TE:=fun σ H Q=>t σ H fun vs H1=>∀x dx,H1 x=none→H1 dx=none→dx≠x→
  sp (.ref x::(vs++dvs)) (upd (upd H1 dx (.own x)) x (.ins C dx [])) (fun v H2=>v=.non∧Q (.ref x) H2) E
def Binds (K:PySem.W.Frag) (fd:FuncData) (ps:List Str) (ds:List Value):Prop:=
  ∀(s:Shared) (us:List Value),K.In s.heap→(us++ds).length=ps.length→BindsTo s fd ⟨us,[]⟩ (ps.zip (us++ds))
theorem Binds.all {K:PySem.W.Frag} {fd:FuncData} {ps:List Str} (h:∀us:List Value,us.length=ps.length→bindArgs fd ⟨us,[]⟩=pure (ps.zip us)):Binds K fd ps []:=fun s us _ hl=>by
  rw [List.append_nil] at hl ⊢
  exact .of_eq (h us hl)
def Zg8 (CX:CXT) (X:Cx) (E:XK):Prop:=∀(pins:List (Addr×Obj)) (σ:St) (H:Hp) (s:Shared) (e:Value) (s':Shared),Inv X pins σ H s→CX X.stack H s E e s'→X.xe e s'
section
variable {X:Cx} {CX:CXT} {k:Nat} {f C:Addr} {fd:FuncData} {ps:List Str} {sp:Sp} {dvs:List V} {ds:List Value} {E:XK} {x m:Str} {p pos apos:Pos} {e o:Expr} {es:List Expr} {ta:TE} {t:TA}
theorem Zum {pins:List (Addr×Obj)} {σ:St} {H:Hp} {s:Shared} {Q:VK} {us:List Value} {vs:List V} (F:FnOk X.prog X.w X.K X.mg X.base CX k f fd ps sp) (hr:Room k X.A) (hb:Binds X.K fd ps ds) (hd:Vals dvs ds) (hx:Zg8 CX X E)
    (I:Inv X pins σ H s) (r:Vals vs us) (h:sp (vs++dvs) H Q E):wpAny (model X.prog X.w) X.A (call (.ref f) us) (EP X pins σ Q) X.xe s:=by
  have r2:Vals (vs++dvs) (us++ds):=r.append hd
  have hl:(us++ds).length=ps.length:=by rw [←r2.length]; exact F.len _ _ _ _ h
  refine wpAny_call (codeAny_mono (F.run X.A X.stack s H ⟨us,[]⟩ (us++ds) (vs++dvs) Q E hr I.env0 (hb s us I.kIn hl) r2 h) fun r s' hq=>?_)
  cases r with
  | error e=>exact hx pins σ H s e s' I hq
  | ok fl=>
    cases fl with
    | ret u=>exact I.after hq
    | next=>exact False.elim hq
    | brk=>exact False.elim hq
    | cont=>exact False.elim hq
theorem Zsw (F:FnOk X.prog X.w X.K X.mg X.base CX k f fd ps sp) (hr:Room k X.A) (hg:Gl X x) (hm:X.mg x=some (.ref f)) (hk:PySem.W.keepIn X.K (.ref f)=true) (hb:Binds X.K fd ps ds) (hd:Vals dvs ds) (hx:Zg8 CX X E)
    (ha:PA X (e::es) t) (hdb:(x == ("__debug__":Str))=false:=by decide) (he:starEach (e::es) X.env=(false,eval e X.env)::starEach es X.env:=by rfl) (hpl:(backTo pos (starEach es X.env)).any (·.1)=false:=by rfl) :
    PE X (.Call (.Name x p) (e::es) [] pos) (Ztq sp dvs E t):=by
  intro pins s σ H Q I h
  refine wpAny_Call_Name_kw (ZhD I hg hm ?_ hdb)
  refine PySem.W.callWith_K (h₀:=X.base) I.ok.mod.kin hk (thn (ha pos pins s σ H _ I h) fun us s1 ⟨vs,H1,I1,r,q⟩=>⟨I1.kIn,?_⟩) he hpl
  exact Zum F hr hb hd hx I1 r q
structure Mk (K:PySem.W.Frag) (C f:Addr):Prop where
  makes:PySem.W.makesIn K C=true
  init:PySem.W.findIn K (.ref C) "__init__"=some (some (.ref f))
  fn:PySem.W.isFn K (.ref f)=true
  kp:PySem.W.keepIn K (.ref C)=true
theorem Zls {pins:List (Addr×Obj)} {σ:St} {H:Hp} {s:Shared} {Q:VK} {us:List Value} {vs:List V} (M:Mk X.K C f) (F:FnOk X.prog X.w X.K X.mg X.base CX k f fd ps sp) (hr:Room (k+1) X.A) (hb:Binds X.K fd ps ds) (hd:Vals dvs ds)
    (hx:Zg8 CX X E) (I:Inv X pins σ H s) (r:Vals vs us)
    (h:∀x dx,H x=none→H dx=none→dx≠x→sp (.ref x::(vs++dvs)) (upd (upd H dx (.own x)) x (.ins C dx [])) (fun v H2=>v=.non∧Q (.ref x) H2) E) :
    wpAny (model X.prog X.w) X.A (call (.ref C) us) (EP X pins σ Q) X.xe s:=by
  have hq:=h (s.heap.objs.size+1) s.heap.objs.size (I.hok.fresh (Nat.le_succ _)) (I.hok.fresh (Nat.le_refl _)) (Nat.ne_of_lt (Nat.lt_succ_self _))
  have I2:=Inv.made (C:=C) I
  have r2:Vals (V.ref (s.heap.objs.size+1)::(vs++dvs)) (Value.ref (s.heap.objs.size+1)::(us++ds)):=.cons rfl (r.append hd)
  have hl:(Value.ref (s.heap.objs.size+1)::us++ds).length=ps.length:=by
    have e:=r2.length
    rw [F.len _ _ _ _ hq] at e
    exact e.symm
  refine wpAny_call (Zq2 (f:=f) I.kIn M.makes M.init (beq_iff_eq.mp M.fn) (codeAny_mono (F.run _ X.stack _ _ ⟨Value.ref (s.heap.objs.size+1)::us,[]⟩ (Value.ref (s.heap.objs.size+1)::(us++ds)) _ _ E (hr.make C us [])
    (I2.env0.make C us []) (hb _ (Value.ref (s.heap.objs.size+1)::us) I2.kIn hl) r2 hq) fun r s' hq'=>?_))
  cases r with
  | error e=>exact hx pins σ _ _ e s' I2 hq'
  | ok fl=>
    cases fl with
    | ret u=>
      obtain ⟨v,H',I3,rv,ev,q3⟩:=I2.after hq'
      subst ev
      exact ⟨rv,⟨V.ref (s.heap.objs.size+1),H',I3,rfl,q3⟩⟩
    | next=>exact False.elim hq'
    | brk=>exact False.elim hq'
    | cont=>exact False.elim hq'
theorem Zst (M:Mk X.K C f) (F:FnOk X.prog X.w X.K X.mg X.base CX k f fd ps sp) (hr:Room (k+1) X.A) (hg:Gl X x) (hm:X.mg x=some (.ref C)) (hb:Binds X.K fd ps ds) (hd:Vals dvs ds) (hx:Zg8 CX X E)
    (ha:PA X (e::es) t) (hdb:(x == ("__debug__":Str))=false:=by decide) (he:starEach (e::es) X.env=(false,eval e X.env)::starEach es X.env:=by rfl) (hpl:(backTo pos (starEach es X.env)).any (·.1)=false:=by rfl) :
    PE X (.Call (.Name x p) (e::es) [] pos) (Ztn C sp dvs E t):=by
  intro pins s σ H Q I h
  refine wpAny_Call_Name_kw (ZhD I hg hm ?_ hdb)
  refine PySem.W.callWith_K (h₀:=X.base) I.ok.mod.kin M.kp (thn (ha pos pins s σ H _ I h) fun us s1 ⟨vs,H1,I1,r,q⟩=>⟨I1.kIn,?_⟩) he hpl
  exact Zls M F hr hb hd hx I1 r q
theorem Zqv (M:Mk X.K C f) (F:FnOk X.prog X.w X.K X.mg X.base CX k f fd ps sp) (hr:Room (k+1) X.A) (hg:Gl X x) (hm:X.mg x=some (.ref C)) (hb:Binds X.K fd ps ds) (hd:Vals dvs ds) (hx:Zg8 CX X E)
    (hdb:(x == ("__debug__":Str))=false:=by decide):PE X (.Call (.Name x p) [] [] pos) (Ztn C sp dvs E Zud):=by
  intro pins s σ H Q I h
  refine wpAny_Call_Name_kw (ZhD I hg hm ?_ hdb)
  exact PySem.W.callWith_K0 I.kIn M.kp (Zls (us:=[]) M F hr hb hd hx I .nil h)
end
section
variable {X:Cx} {CX:CXT} {k:Nat} {f C:Addr} {fd:FuncData} {ps ks:List Str} {sp:Sp} {E:XK} {x m:Str} {p pos apos kpos:Pos} {e o:Expr} {es:List Expr} {kws:List Keyword} {te ta:TE} {t tk:TA} {nm:Option Str}
structure ZAD (K:PySem.W.Frag) (fd:FuncData) (ps ks:List Str) (g:List Value→List Value→List Value) (gV:List V→List V→List V):Prop where
  to:∀(s:Shared) (us ws:List Value),K.In s.heap→(g us ws).length=ps.length→BindsTo s fd ⟨us,ks.zip ws⟩ (ps.zip (g us ws))
  rel:∀{vs:List V} {us:List Value} {zs:List V} {ws:List Value},Vals vs us→Vals zs ws→Vals (gV vs zs) (g us ws)
variable {g:List Value→List Value→List Value} {gV:List V→List V→List V}
end
structure Zs (N P:List Str) (sc:Scope):Prop where
  kind:sc.kind=.function
  co:sc.isCoroutine=false
  gen:sc.isGenerator=false
  nd:N.Nodup
  pre:N.take P.length=P
  par:∀x∈P,sc.names.lookup x=some .local∨sc.names.lookup x=some .cell
  nofree:∀y∈sc.names,y.2≠.free
theorem Zjf {kindOf:Str→Option NameKind} {x:Str}:∀{binds:List (Str×Value)} {m:Str→Option Value},(∀v,(x,v)∉binds)→bindL kindOf binds m x=m x
  | [],_,_=>rfl
  | (n,v)::r,m,h=>by
    unfold bindL
    rw [Zjf fun w hw=>h w (List.mem_cons_of_mem _ hw)]
    split
    · have:x≠n:=by rintro rfl; exact h v List.mem_cons_self
      simp [this]
    · rfl
theorem Zjh {kindOf:Str→Option NameKind} {x:Str}:∀{binds:List (Str×Value)} {m:Str→Option Value},(∀v,(x,v)∉binds)→bindC kindOf binds m x=m x
  | [],_,_=>rfl
  | (n,v)::r,m,h=>by
    unfold bindC
    rw [Zjh fun w hw=>h w (List.mem_cons_of_mem _ hw)]
    split
    · rfl
    · have:x≠n:=by rintro rfl; exact h v List.mem_cons_self
      simp [this]
theorem Zjg {kindOf:Str→Option NameKind} {x:Str} {v:Value}:∀{P:List Str} {vs:List Value} {i:Nat} {m:Str→Option Value},P.Nodup→P[i]?=some x→vs[i]?=some v→kindOf x=some .local→
    bindL kindOf (P.zip vs) m x=some v
  | [],_,_,_,_,h,_,_=>by simp at h
  | _::_,[],_,_,_,_,h,_=>by simp at h
  | p::P,w::vs,0,m,nd,h1,h2,hk=>by
    simp at h1 h2; subst h1; subst h2
    show bindL kindOf ((p,w)::P.zip vs) m p=_
    unfold bindL
    rw [Zjf fun v hv=>(List.nodup_cons.mp nd).1 (List.of_mem_zip hv).1,if_pos hk]
    simp
  | p::P,w::vs,i+1,m,nd,h1,h2,hk=>by
    show bindL kindOf ((p,w)::P.zip vs) m x=_
    unfold bindL
    exact Zjg (i:=i) (List.nodup_cons.mp nd).2 (by simpa using h1) (by simpa using h2) hk
theorem Zji {kindOf:Str→Option NameKind} {x:Str} {v:Value}:∀{P:List Str} {vs:List Value} {i:Nat} {m:Str→Option Value},P.Nodup→P[i]?=some x→vs[i]?=some v→kindOf x≠some .local→
    bindC kindOf (P.zip vs) m x=some v
  | [],_,_,_,_,h,_,_=>by simp at h
  | _::_,[],_,_,_,_,h,_=>by simp at h
  | p::P,w::vs,0,m,nd,h1,h2,hk=>by
    simp at h1 h2; subst h1; subst h2
    show bindC kindOf ((p,w)::P.zip vs) m p=_
    unfold bindC
    rw [Zjh fun v hv=>(List.nodup_cons.mp nd).1 (List.of_mem_zip hv).1,if_neg hk]
    simp
  | p::P,w::vs,i+1,m,nd,h1,h2,hk=>by
    show bindC kindOf ((p,w)::P.zip vs) m x=_
    unfold bindC
    exact Zji (i:=i) (List.nodup_cons.mp nd).2 (by simpa using h1) (by simpa using h2) hk
def ZeG (N:List Str) (vs:List V):St:=vs.map some++List.replicate (N.length-vs.length) none
def Zij (CX:CXT) (P:Program) (w:World) (K:PySem.W.Frag) (mg:Str→Option Value) (base:Heap) (N:List Str) (qual:Str) (scope:Scope) (f:Addr) (cd:Value) (A:Around) (outer:List Env) (s:Shared) (H:Hp) (E:XK):Cx where
  prog:=P
  w:=w
  K:=K
  mg:=mg
  base:=base
  A:=A.deeper (envOfC qual scope s.heap.objs.size f cd)
  N:=N
  s₀:=s
  H₀:=H
  env:=envOfC qual scope s.heap.objs.size f cd
  outer:=outer
  stack:=envOfC qual scope s.heap.objs.size f cd::outer
  ex:=[]
  calm:=true
  fn:=fun _=>true
  pn:=[]
  xe:=fun e s'=>wpAny (model P w) (A.deeper (envOfC qual scope s.heap.objs.size f cd)) (leaving (envOfC qual scope s.heap.objs.size f cd) e) (fun _ s''=>CX outer H s E e s'') (fun e' s''=>CX outer H s E e' s'') s'
theorem Zl4 {sc:Scope} {n:Nat} {x:Str} (h:sc.names.lookup x=some .cell):∃c,(cellsFrom n sc.names []).lookup x=some c:=by
  have q:=PySem.W.cellsFrom_some sc.names n [] (.inl h)
  exact Option.isSome_iff_exists.mp q
theorem Zoi {CX:CXT} {P:Program} {w:World} {K:PySem.W.Frag} {mg:Str→Option Value} {base:Heap} {N ps:List Str} {qual:Str} {scope:Scope} {f:Addr} {cd:Value} {A:Around} {outer:List Env} {s s1:Shared} {H:Hp} {E:XK} {us:List Value} {vs:List V}
    (S:Zs N ps scope) (hd:A.handled=none) (e0:Env0 P w K mg base A outer s H) (hl:vs.length=ps.length) (r:Vals vs us)
    (x:InCallC s s.heap.objs.size (bindL (envOfC qual scope s.heap.objs.size f cd).kindOf (ps.zip us) fun _=>none) (cellsFrom (s.heap.objs.size+1) scope.names []) (bindC (envOfC qual scope s.heap.objs.size f cd).kindOf (ps.zip us) fun _=>none) s1) :
    Inv (Zij CX P w K mg base N qual scope f cd A outer s H E) [] (ZeG N vs) H s1:=by
  have hpl:ps.length≤N.length:=by have:=congrArg List.length S.pre; rw [List.length_take] at this; omega
  obtain ⟨h1,tk,rfl,hk⟩:=x.done
  have noA:∀b:Addr,b∉(Zij CX P w K mg base N qual scope f cd A outer s H E).ex:=fun b z=>absurd (show b∈([]:List Addr) from z) (by simp)
  refine ⟨⟨e0.mod,S.kind,rfl,rfl,Nat.le_refl _,fun y z c h1 h2=>?_,fun y hy=>?_,fun y c _ h=>?_,fun _=>hd,Around.frames_deeper e0.frames,.inr ⟨rfl,rfl⟩,fun b z=>absurd z (noA b),e0.bs,e0.bsz,fun b _ _=>noA b,fun b z=>absurd z (noA b),e0.funs,e0.frf⟩,
    rfl,e0.bare,Un.kept hk,⟨_,x.toInCall.ns,fun i y v h1 h2 h3=>?_⟩,fun y c h=>⟨_,x.cell y c h⟩,e0.hok.fresh (Nat.le_refl _),fun y c h=>?_,fun p hp=>absurd (show p∈([]:List (Addr×Obj)) from hp) (by simp),e0.hok.kept hk,?_⟩
  · exact name_of_addr x.apart (PySem.mem_of_lookup h1) (PySem.mem_of_lookup h2)
  · have hy:scope.names.lookup y=some .cell∨scope.names.lookup y=some .free:=hy
    rcases hy with hy | hy
    · exact Zl4 hy
    · exact absurd rfl (S.nofree _ (PySem.mem_of_lookup hy))
  · exact Nat.le_of_lt (x.above y c (PySem.mem_of_lookup h))
  · have hi:i<vs.length:=by
      unfold ZeG at h2
      by_cases hi:i<vs.length
      · exact hi
      · rw [List.getElem?_append_right (by simpa using hi)] at h2
        rw [List.getElem?_replicate] at h2
        split at h2<;>cases h2
    have ha:vs[i]?=some v:=by
      unfold ZeG at h2
      rw [List.getElem?_append_left (by simpa using hi),List.getElem?_map] at h2
      cases e:vs[i]? with
      | none=>rw [e] at h2; cases h2
      | some a=>rw [e] at h2; cases h2; rfl
    obtain ⟨u,hu,rv⟩:=r.get ha
    have hp:ps[i]?=some y:=by
      rw [←S.pre,List.getElem?_take_of_lt (by omega)]; exact h1
    have ndP:ps.Nodup:=by rw [←S.pre]; exact S.nd.sublist (List.take_sublist _ _)
    refine ⟨u,rv,?_⟩
    rcases S.par y (List.mem_of_getElem? hp) with k | k
    · exact .inl ⟨k,Zjg ndP hp hu k⟩
    · obtain ⟨c,e⟩:=Zl4 (n:=s.heap.objs.size+1) k
      refine .inr ⟨.inl k,c,e,?_⟩
      have q:=x.cell y c e
      rw [Zji ndP hp hu (by show scope.names.lookup y≠_; rw [k]; decide)] at q
      exact q
  · exact e0.hok.fresh (Nat.le_of_lt (x.above y c (PySem.mem_of_lookup h)))
  · unfold ZeG
    show _=N.length
    rw [List.length_append,List.length_map,List.length_replicate]
    omega
theorem ZwW {CX:CXT} {P:Program} {w:World} {K:PySem.W.Frag} {mg:Str→Option Value} {base:Heap} {k:Nat} {f:Addr} {name qual:Str} {params:Arguments} {body:List Stmt} {scope:Scope} {dV kV doc pm cdv ct oc:Value} {an od:Option Addr}
    {osl:Array (Option Value)} {N ps:List Str} {sp:Sp} (lk:K.lookup f=some ⟨oc,od,.func (PySem.W.fnOf name qual params body scope dV kV doc pm an cdv ct),osl⟩) (hcd:PySem.W.codeIn K cdv qual=true) (S:Zs N ps scope)
    (len:∀vs H Q E,sp vs H Q E→vs.length=ps.length)
    (hbody:∀(A:Around) (outer:List Env) (s:Shared) (H:Hp) (vs:List V) (Q:VK) (E:XK),Room k (A.deeper (envOfC qual scope s.heap.objs.size f cdv))→sp vs H Q E→
      ∃t,PSs (Zij CX P w K mg base N qual scope f cdv A outer s H E) body t∧t { nx:=fun _ H'=>Q .non H',rt:=Q } (ZeG N vs) H) :
    FnOk P w K mg base CX (k+1) f (PySem.W.fnOf name qual params body scope dV kV doc pm an cdv ct) ps sp:=by
  refine ⟨len,fun A outer s H args us vs Q E hr e0 hb r hsp=>?_⟩
  have hl:=len _ _ _ _ hsp
  have KX:K.In s.heap:=e0.mod.kin.keeps fun b o e=>(e0.bs b o e).1
  have lim:s.heap.NoLimit:=e0.mod.nolimit.keeps fun b o e=>(e0.bs b o e).1
  have hkind:∀y∈ps.zip us,scope.names.lookup y.1=some .local∨(scope.names.lookup y.1=some .cell∧((cellsFrom (s.heap.objs.size+1) scope.names []).lookup y.1).isSome=true):=fun ⟨n,v⟩ hy=>by
    rcases S.par n (List.of_mem_zip hy).1 with q | q
    · exact .inl q
    · exact .inr ⟨q,PySem.W.cellsFrom_some _ _ _ (.inl q)⟩
  refine codeAny_call_function hr.depth (KX _ _ lk) rfl S.co S.gen rfl (PySem.W.codeRec_of KX hcd) (hb _ _ _ _ ?_)
  refine wpAny_newFunctionEnv_cells S.kind hkind fun env he s1 x=>?_
  subst he
  refine ⟨lim.keeps x.toInCall.keep,codeAny_func ?_⟩
  obtain ⟨t,ht,hq⟩:=hbody A outer s H vs Q E (hr.deeper _) hsp
  have I:Inv (Zij CX P w K mg base N qual scope f cdv A outer s H E) [] (ZeG N vs) H s1:=Zoi S hr.hd e0 hl r x
  refine wpAny_mono (ht [] s1 (ZeG N vs) H _ I hq) (fun fl s' hs=>?_) fun e s' hs=>hs
  have fin:∀{σ':St} {H':Hp} {v:V} {u:Value},Inv (Zij CX P w K mg base N qual scope f cdv A outer s H E) [] σ' H' s'→RelV v u→Q v H'→CE outer P w H s Q u s':=
    fun {σ' H' v u} J rv q=>⟨v,H',J.os,J.bare,J.base,J.hok,rv,q⟩
  cases fl with
  | ret u=>
    obtain ⟨v,σ',H',J,rv,q⟩:=hs
    exact fin J rv q
  | next=>
    obtain ⟨σ',H',J,q⟩:=hs
    exact fin (v:=V.non) (u:=Value.none) J rfl q
  | brk=>
    obtain ⟨_,_,_,q⟩:=hs
    exact False.elim q
  | cont=>
    obtain ⟨_,_,_,q⟩:=hs
    exact False.elim q
end L2
namespace L2
open PySem PySem.Spec PyProof.Rows
section
variable {X:Cx} {x:Str} {p pos:Pos} {e:Expr} {es:List Expr} {t:TA} {id T:String} {r:List V→Hp→VK→Prop}
def tCB (r:List V→Hp→VK→Prop) (t:TA):TE:=fun σ H Q=>t σ H fun vs H1=>r vs H1 Q
theorem Zlw (hc:CallR X (.builtin id) r) (hg:Gl X x) (hm:X.mg x=none) (hv:bootBuiltins x=some (.builtin id)) (ha:PA X (e::es) t) (hn:x≠"__name__":=by decide) (hdb:(x == ("__debug__":Str))=false:=by decide)
    (he:starEach (e::es) X.env=(false,eval e X.env)::starEach es X.env:=by rfl) (hpl:(backTo pos (starEach es X.env)).any (·.1)=false:=by rfl):PE X (.Call (.Name x p) (e::es) [] pos) (tCB r t):=by
  intro pins s σ H Q I h
  refine wpAny_Call_Name_kw (Zh8 I hg hm hv ?_ hn hdb)
  exact PyProof.Rows.callWith_builtin1 (thn (ha pos pins s σ H _ I h) fun us s1 ⟨vs,H1,I1,r1,q1⟩=>hc pins s1 σ H1 vs us Q I1 r1 q1) he hpl
theorem Zn5 (hc:CallR X (.type T) r) (hg:Gl X x) (hm:X.mg x=none) (hv:bootBuiltins x=some (.type T)) (ha:PA X (e::es) t) (hn:x≠"__name__":=by decide) (hdb:(x == ("__debug__":Str))=false:=by decide)
    (he:starEach (e::es) X.env=(false,eval e X.env)::starEach es X.env:=by rfl) (hpl:(backTo pos (starEach es X.env)).any (·.1)=false:=by rfl):PE X (.Call (.Name x p) (e::es) [] pos) (tCB r t):=by
  intro pins s σ H Q I h
  refine wpAny_Call_Name_kw (Zh8 I hg hm hv ?_ hn hdb)
  exact PyProof.Rows.callWith_type1 (thn (ha pos pins s σ H _ I h) fun us s1 ⟨vs,H1,I1,r1,q1⟩=>hc pins s1 σ H1 vs us Q I1 r1 q1) he hpl
end
end L2
namespace HT
open PySem PyProof.Rows
section
open PySem.SeqAt
open PySem.AutoSeq1 (wpAny_loadPart')
open PySem.MeetsSeq PySem.MeetsSeq2 PySem.MeetsSeq3
end
section
variable {prog:Program} {w:World} {A:Around} {E:Value→Shared→Prop} {s:Shared}
theorem cat_tup {t b:Addr} {vs ws:List Value} {Q:Value→Shared→Prop} (ht:IsTup s.heap t vs.toArray) (hb:IsTup s.heap b ws.toArray) (hv:vs≠[])
    (h1:ws=[]→Q (.ref t) s) (h2:ws≠[]→Q (.ref s.heap.objs.size) { s with heap:=s.heap.push { cls:=.type "tuple",data:=.seq (vs++ws).toArray } })
    (hsz:vs.length+ws.length≤sizeLine):wpAny (model prog w) A (binaryOp .Add (.ref t) (.ref b)) Q E s:=by
  obtain ⟨⟨cls,dd,data,sl⟩,ho,hc,n,hd⟩:=id ht
  obtain ⟨⟨cls2,dd2,data2,sl2⟩,ho2,hc2,n2,hd2⟩:=id hb
  simp only at hc hd hc2 hd2
  subst hc hd hc2 hd2
  have e:vs.toArray++ws.toArray=(vs++ws).toArray:=by simp
  by_cases hw:ws=[]
  · exact concat_meets ⟨_,ho,rfl⟩ ⟨_,ho2,rfl⟩ noFill_tuple_add seq_tuple_add PySem.F.slot_tuple_add PySem.F.entry_tuple_add (PySem.F.args_tuple_add_2 _ _)
      (tuple_addW1 t b vs.toArray ws.toArray n n2 dd dd2 sl sl2 (by simpa using hv) (by simp [hw])) ⟨ho,ho2,h1 hw⟩
  · refine concat_meets ⟨_,ho,rfl⟩ ⟨_,ho2,rfl⟩ noFill_tuple_add seq_tuple_add PySem.F.slot_tuple_add PySem.F.entry_tuple_add (PySem.F.args_tuple_add_2 _ _)
      (tuple_addW2 t b vs.toArray ws.toArray n n2 dd dd2 sl sl2 (by simpa using hv) (by simpa using hw) (by rw [List.size_toArray,List.size_toArray]; exact hsz)) ⟨ho,ho2,?_⟩
    rw [e]
    exact h2 hw
def sIx (n d:Nat):Option Int→Nat
  | none=>d
  | some v=>if v<0 then (v+(n:Int)).toNat else min v.toNat n
theorem sIx_none (n d:Nat):sIx n d none=d:=rfl
theorem sIx_nat (n d k:Nat):sIx n d (some (k:Int))=min k n:=by
  show (if (k:Int)<0 then ((k:Int)+(n:Int)).toNat else min (k:Int).toNat n)=min k n
  rw [if_neg (by omega),Int.toNat_natCast]
theorem Zul (n d:Nat) (hd:d≤n) (o:Option Int):sIx n d o≤n:=by
  cases o with
  | none=>exact hd
  | some v=>
    show (if v<0 then (v+(n:Int)).toNat else min v.toNat n)≤n
    by_cases hv:v<0
    · rw [if_pos hv]; omega
    · rw [if_neg hv]; exact Nat.min_le_right _ _
theorem ZnA (v:Int) (n d:Nat):(if v<0 then max (v+(n:Int)) 0 else min v (n:Int))=((sIx n d (some v):Nat):Int):=by
  show (if v<0 then max (v+(n:Int)) 0 else min v (n:Int))=(((if v<0 then (v+(n:Int)).toNat else min v.toNat n):Nat):Int)
  by_cases hv:v<0
  · simp only [if_pos hv]; omega
  · simp only [if_neg hv]; omega
theorem ZmQ (lo hi:Option Int) (n:Nat):Builtin.Slice.sliceAdjust lo hi 1 (n:Int)=(((sIx n 0 lo:Nat):Int),((sIx n n hi:Nat):Int)):=by
  have h1:¬((1:Int)<0):=by omega
  unfold Builtin.Slice.sliceAdjust
  simp only [h1,if_false]
  refine Prod.ext ?_ ?_
  · cases lo with
    | none=>rfl
    | some v=>exact ZnA v n 0
  · cases hi with
    | none=>rfl
    | some v=>exact ZnA v n n
theorem Zmu (i j:Nat):Builtin.Slice.slicePlaces (i:Int) (j:Int) 1=j-i:=by
  unfold Builtin.Slice.slicePlaces
  have h1:(1:Int) > 0:=by omega
  simp only [h1,if_true,Int.ediv_one]
  split<;>omega
theorem ZhU {v:Value} {o:Option Int} {Q:Option Int→Shared→Prop} (p:IsPart v o) (h:Q o s):wpAny (model prog w) A (Builtin.Slice.slicePartIndex v) Q E s:=by
  cases p with
  | none=>exact slicePart_none h
  | int i t=>exact slicePart_int h
theorem ZgE {sl:Addr} {vl vu:Value} {lo hi:Option Int} {n:Nat} {Q:Int×Int×Nat→Shared→Prop} (hs:s.heap.IsSliceOf sl vl vu .none) (pl:IsPart vl lo) (pu:IsPart vu hi)
    (h:Q (((sIx n 0 lo:Nat):Int),1,sIx n n hi-sIx n 0 lo) s):wpAny (model prog w) A (Builtin.Slice.sliceApplied (.ref sl) (pure (n:Int))) Q E s:=by
  obtain ⟨os,hos,hcs,hds⟩:=id hs
  unfold Builtin.Slice.sliceApplied Builtin.Slice.sliceFields
  refine wpAny_bind (wpAny_bind (wpAny_field hos hds (x:=vl) rfl (wpAny_bind (wpAny_field hos hds (x:=vu) rfl (wpAny_bind (wpAny_field hos hds (x:=.none) rfl (wpAny_pure ?_)))))))
  refine wpAny_bind (slicePart_none ?_)
  show wpAny _ _ (if ((1:Int) == 0)=true then _ else _) _ _ s
  rw [if_neg (by decide)]
  refine wpAny_bind (ZhU pl (wpAny_bind (ZhU pu (wpAny_bind (wpAny_pure ?_)))))
  show wpAny _ _ (match Builtin.Slice.sliceAdjust lo hi 1 (n:Int) with | (lo,hi)=>pure (lo,(1:Int),Builtin.Slice.slicePlaces lo hi 1)) _ _ s
  rw [ZmQ lo hi n]
  show wpAny _ _ (pure (((sIx n 0 lo:Nat):Int),(1:Int),Builtin.Slice.slicePlaces ((sIx n 0 lo:Nat):Int) ((sIx n n hi:Nat):Int) 1)) _ _ s
  rw [Zmu]
  exact wpAny_pure h
theorem Zqt (xs:Array Value) (i k:Nat):((List.range k).filterMap fun (m:Nat)=>xs[((i:Int)+(m:Int)*1).toNat]?).toArray=((xs.toList.drop i).take k).toArray:=by
  have e:(fun (m:Nat)=>xs[((i:Int)+(m:Int)*1).toNat]?)=fun m=>xs[i+m]?:=by
    funext m
    have:((i:Int)+(m:Int)*1).toNat=i+m:=by omega
    rw [this]
  rw [e]
  have:=pick_run xs i k
  rw [List.filterMap_map] at this
  have e2:((fun x=>xs[x]?)∘fun x=>i+x)=fun m=>xs[i+m]?:=rfl
  rw [e2] at this
  rw [this]
theorem getItem_tuple_cut {t sl:Addr} {items:Array Value} {vl vu:Value} {lo hi:Option Int} {Q:Value→Shared→Prop} (ht:IsTup s.heap t items) (hs:s.heap.IsSliceOf sl vl vu .none) (pl:IsPart vl lo) (pu:IsPart vu hi)
    (hw:¬(sIx items.size 0 lo=0∧sIx items.size items.size hi=items.size))
    (h:Q (.ref s.heap.objs.size) { s with heap:=s.heap.push { cls:=.type "tuple",data:=.seq ((items.toList.drop (sIx items.size 0 lo)).take (sIx items.size items.size hi-sIx items.size 0 lo)).toArray } })
    (hsz:items.size≤sizeLine):wpAny (model prog w) A (getItem (.ref t) (.ref sl)) Q E s:=by
  have htake:sizeOk (.seq ((items.toList.drop (sIx items.size 0 lo)).take (sIx items.size items.size hi-sIx items.size 0 lo)).toArray):=by
    show ((items.toList.drop (sIx items.size 0 lo)).take (sIx items.size items.size hi-sIx items.size 0 lo)).toArray.size≤sizeLine
    rw [List.size_toArray,List.length_take,List.length_drop,Array.length_toList]
    omega
  have hj:sIx items.size items.size hi≤items.size:=Zul _ _ (Nat.le_refl _) hi
  obtain ⟨os,hos,hcs,hds⟩:=id hs
  have hTs:s.TypeIs (.ref sl) "slice":=⟨os,hos,hcs⟩
  unfold getItem
  try with_reducible refine wpAny_holding ?_
  first | refine wpAny_bind (wpAny_pure ?_) | skip
  refine wpAny_bind (wpAny_sequenceKey ht.typeIs (by decide) ?_)
  refine wpAny_bind (wpAny_callSpecial?_slot (name:=Str.ofString "__getitem__") ht.typeIs PyProof.Rows.slot_tuple_getitem
    (wpAny_call_entry PyProof.Rows.slot_tuple_getitem ht.typeIs entry_tuple_getitem ?_ (args_tuple_getitem _ _)))
  show wpAny _ _ (Builtin.Tuple.tupleItemsOf (.ref t) >>= _) _ _ s
  refine wpAny_bind (tupleItemsOf_ ht ?_)
  refine wpAny_bind (wpAny_typeOf hTs ?_)
  rw [if_pos (by decide)]
  refine wpAny_bind (ZgE hs pl pu ?_)
  have hno:¬((((sIx items.size 0 lo:Nat):Int) == 0 && (1:Int) == 1 && (sIx items.size items.size hi-sIx items.size 0 lo) == items.size)=true):=by
    intro q
    rw [Bool.and_eq_true,Bool.and_eq_true] at q
    have q1:((sIx items.size 0 lo:Nat):Int)=0:=eq_of_beq q.1.1
    have q2:sIx items.size items.size hi-sIx items.size 0 lo=items.size:=eq_of_beq q.2
    exact hw ⟨by omega,by omega⟩
  show wpAny _ _ (if (((sIx items.size 0 lo:Nat):Int) == 0 && (1:Int) == 1 && (sIx items.size items.size hi-sIx items.size 0 lo) == items.size)=true then _ else _) _ _ s
  rw [if_neg hno,Zqt]
  first
    | exact wpAny_bind (m:=Builtin.Tuple.tupleExact _) (wpAny_newObj_type (wpAny_pure ⟨_,rfl,wpAny_pure h⟩) htake)
    | exact wpAny_bind (m:=Builtin.Tuple.tupleExact _) (wpAny_newObj_type (wpAny_bind (wpAny_pure (wpAny_pure ⟨_,rfl,wpAny_pure h⟩))) htake)
    | exact wpAny_bind (wpAny_bind (m:=Builtin.Tuple.tupleExact _) (wpAny_newObj_type (wpAny_pure (wpAny_pure ⟨_,rfl,wpAny_pure h⟩)) htake))
    | exact wpAny_bind (wpAny_bind (m:=Builtin.Tuple.tupleExact _) (wpAny_newObj_type (wpAny_pure ⟨_,rfl,wpAny_pure h⟩) htake))
end
end HT
namespace L2
open PySem PySem.Spec PyProof.Rows
abbrev TO:=St→Hp→(Option Int→Hp→Prop)→Prop
def PO (X:Cx) (e:Option Expr) (t:TO):Prop:=
  ∀(pins:List (Addr×Obj)) (s:Shared) (σ:St) (H:Hp) (Q:Option Int→Hp→Prop),Inv X pins σ H s→t σ H Q→
    wpAny (model X.prog X.w) X.A (evalPart e X.env) (fun u s'=>∃o H',Inv X pins σ H' s'∧IsPart u o∧Q o H') X.xe s
def Zsa:TO:=fun _ H Q=>Q none H
def Zv3 (t:TE):TO:=fun σ H Q=>t σ H fun x H1=>∃i,x=.int i∧Q (some i) H1
section
variable {X:Cx} {e:Expr} {te:TE} {lo hi:Option Expr} {tl th:TO} {pos p2:Pos}
theorem Zsq:PO X none Zsa:=by
  intro pins s σ H Q I h
  rw [evalPart_none]
  exact wpAny_pure ⟨none,H,I,.none,h⟩
theorem Zsp (h:PE X e te):PO X (some e) (Zv3 te):=by
  intro pins s σ H Q I hw
  rw [evalPart_some]
  refine thn (h pins s σ H _ I hw) fun u s1 ⟨x,H1,I1,r1,q1⟩=>?_
  obtain ⟨i,rfl,q⟩:=q1
  obtain ⟨t,rfl⟩:=r1
  exact ⟨some i,H1,I1,.int i t,q⟩
def SlR (X:Cx) (r:V→Option Int→Option Int→Hp→VK→Prop):Prop:=
  ∀(pins:List (Addr×Obj)) (s:Shared) (σ:St) (H:Hp) (x:V) (v vl vu:Value) (lo hi:Option Int) (sl:Addr) (Q:VK),Inv X pins σ H s→RelV x v→s.heap.IsSliceOf sl vl vu .none→IsPart vl lo→IsPart vu hi→r x lo hi H Q→
    ∃T id,typeLookup (.type T) "__getitem__"=pure (some (.builtin id))∧s.TypeIs v T∧wpAny (model X.prog X.w) X.A (getItem v (.ref sl)) (EP X pins σ Q) X.xe s
theorem SlR.or {r r':V→Option Int→Option Int→Hp→VK→Prop} (h:SlR X r) (h':SlR X r'):SlR X (fun x lo hi H Q=>r x lo hi H Q∨r' x lo hi H Q):=by
  intro pins s σ H x v vl vu lo hi sl Q I rx hs pl pu q
  rcases q with q | q
  · exact h pins s σ H x v vl vu lo hi sl Q I rx hs pl pu q
  · exact h' pins s σ H x v vl vu lo hi sl Q I rx hs pl pu q
def tSl (r:V→Option Int→Option Int→Hp→VK→Prop) (te:TE) (tl th:TO):TE:=fun σ H Q=>te σ H fun x H1=>tl σ H1 fun l H2=>th σ H2 fun u H3=>r x l u H3 Q
theorem Zqu {r:V→Option Int→Option Int→Hp→VK→Prop} (hr:SlR X r) (he:PE X e te) (hl:PO X lo tl) (hu:PO X hi th):PE X (.Subscript e (.Slice lo hi none p2) pos) (tSl r te tl th):=by
  intro pins s σ H Q I h
  refine Subscript_ (thn (he pins s σ H _ I h) fun v s1 ⟨x,H1,I1,r1,q1⟩=>?_)
  refine wpAny_Slice (thn (hl pins s1 σ H1 _ I1 q1) fun vl s2 ⟨l,H2,I2,pl,q2⟩=>thn (hu pins s2 σ H2 _ I2 q2) fun vu s3 ⟨u,H3,I3,pu,q3⟩=>?_)
  rw [evalPart_none]
  refine wpAny_pure ?_
  have I4:Inv X pins σ H3 { s3 with heap:=s3.heap.push { cls:=.type "slice",data:=.fields #[vl,vu,.none] } }:=I3.kept (t':=s3.toks) fun b ob q=>Heap.get?_push_of_some _ q
  obtain ⟨T,id,hT,ht,hg⟩:=hr pins { s3 with heap:=s3.heap.push { cls:=.type "slice",data:=.fields #[vl,vu,.none] } } σ H3 x v vl vu l u s3.heap.objs.size Q I4 r1 (Heap.IsSliceOf.new ..) pl pu q3
  show wpAny (model X.prog X.w) X.A (subscriptTail e (.Slice lo hi none p2) v (.ref s3.heap.objs.size)) (EP X pins σ Q) X.xe { s3 with heap:=s3.heap.push { cls:=.type "slice",data:=.fields #[vl,vu,.none] } }
  exact tail_any (ops:=[.ref s3.heap.objs.size,v]) ht hT hg (by with_unfolding_all rfl)
def Zl2 (xs:List V) (lo hi:Option Int):List V:=(xs.drop (HT.sIx xs.length 0 lo)).take (HT.sIx xs.length xs.length hi-HT.sIx xs.length 0 lo)
theorem Zhi (xs:List V) (lo hi:Option Int):(Zl2 xs lo hi).length≤xs.length:=by
  unfold Zl2
  rw [List.length_take,List.length_drop]
  omega
def Zz2 (K:PySem.W.Frag):V→Option Int→Option Int→Hp→VK→Prop:=fun x lo hi H Q=>∃a xs,x=.ref a∧SqT K H a xs∧
  ¬(HT.sIx xs.length 0 lo=0∧HT.sIx xs.length xs.length hi=xs.length)∧∀p,H p=none→Q (.ref p) (upd H p (.tup (Zl2 xs lo hi)))
theorem Zui:SlR X (Zz2 X.K):=by
  intro pins s σ H x v vl vu lo hi sl Q I rx hs pl pu h
  obtain ⟨a,xs,rfl,hx,hw,q⟩:=h
  cases rx
  obtain ⟨its,r,ht,hz⟩:=I.tuple hx
  have hlen:its.toArray.size=xs.length:=by rw [List.size_toArray]; exact r.length.symm
  refine ⟨"tuple",_,PyProof.Rows.slot_tuple_getitem.lookup,ht.typeIs,?_⟩
  refine HT.getItem_tuple_cut ht hs pl pu (by rw [hlen]; exact hw) ?_ (by rw [hlen]; exact hz)
  rw [hlen]
  refine ⟨.ref s.heap.objs.size,_,I.laid (t':=s.toks) (o:=.tup (Zl2 xs lo hi)) (fun b ob q=>Heap.get?_push_of_some _ q) (Nat.le_refl _) ?_,rfl,q _ (I.hok.fresh (Nat.le_refl _))⟩
  exact ⟨Nat.le_trans (Zhi xs lo hi) hz,_,(r.drop (HT.sIx xs.length 0 lo)).take (HT.sIx xs.length xs.length hi-HT.sIx xs.length 0 lo),IsTup.new _ _⟩
def Zwj (K:PySem.W.Frag):R2:=fun x y H Q=>∃a b xs ys,x=.ref a∧y=.ref b∧SqT K H a xs∧SqT K H b ys∧xs≠[]∧xs.length+ys.length≤sizeLine∧
  (ys=[]→Q (.ref a) H)∧(ys≠[]→∀p,H p=none→Q (.ref p) (upd H p (.tup (xs++ys))))
theorem Vals.nil_iff {xs:List V} {us:List Value} (r:Vals xs us):us=[]↔xs=[]:=by
  cases r with
  | nil=>simp
  | cons _ _=>simp
theorem op_catT:OpR X (binaryOp .Add) (Zwj X.K):=by
  intro pins s σ H x y v u Q I rx ry h
  obtain ⟨a,b,xs,ys,rfl,rfl,ha,hb,hx,hz,q1,q2⟩:=h
  cases rx
  cases ry
  obtain ⟨its,r1,p1,_⟩:=I.tuple ha
  obtain ⟨its2,r2,p2,_⟩:=I.tuple hb
  refine HT.cat_tup p1 p2 (fun z=>hx (r1.nil_iff.mp z)) (fun z=>⟨.ref a,H,I,rfl,q1 (r2.nil_iff.mp z)⟩) (fun z=>?_) (by rw [←r1.length,←r2.length]; exact hz)
  refine ⟨.ref s.heap.objs.size,_,I.laid (t':=s.toks) (o:=.tup (xs++ys)) (fun b ob q=>Heap.get?_push_of_some _ q) (Nat.le_refl _) ?_,rfl,q2 (fun w=>z (r2.nil_iff.mpr w)) _ (I.hok.fresh (Nat.le_refl _))⟩
  exact ⟨by rw [List.length_append]; exact hz,_,r1.append r2,IsTup.new _ _⟩
end
end L2
namespace L2
open PySem PySem.Spec PyProof.Rows
def ixN (n:Nat) (i:Int):Option Nat:=if 0≤i then (if i<n then some i.toNat else none) else if -(n:Int)≤i then some (i+n).toNat else none
def atI {α:Type} (xs:List α) (i:Int):Option α:=(ixN xs.length i).bind fun j=>xs[j]?
theorem Znv {n:Nat} {i:Int} {j:Nat} (h:ixN n i=some j):seqIndex? i n=some j∧j<n∧-(n:Int)≤i∧i<n:=by
  unfold ixN at h
  by_cases h0:0≤i
  · rw [if_pos h0] at h
    by_cases h1:i<n
    · rw [if_pos h1] at h
      have e:i.toNat=j:=Option.some.inj h
      exact ⟨by rw [seqIndex_of h0 h1,e],by omega,by omega,h1⟩
    · rw [if_neg h1] at h; cases h
  · rw [if_neg h0] at h
    by_cases h1 : -(n:Int)≤i
    · rw [if_pos h1] at h
      have e:(i+n).toNat=j:=Option.some.inj h
      exact ⟨by rw [seqIndex_neg (by omega) h1,e],by omega,h1,by omega⟩
    · rw [if_neg h1] at h; cases h
theorem ZjR {α:Type} {xs:List α} {i:Int} {v:α} (h:atI xs i=some v):∃j,seqIndex? i xs.length=some j∧xs[j]?=some v∧j<xs.length∧-(xs.length:Int)≤i∧i<xs.length:=by
  unfold atI at h
  cases e:ixN xs.length i with
  | none=>rw [e] at h; cases h
  | some j=>
    rw [e] at h
    obtain ⟨h1,h2,h3,h4⟩:=Znv e
    exact ⟨j,h1,h,h2,h3,h4⟩
theorem ZeD {α:Type} {xs:List α} {j:Nat} {v:α} (h:xs[j]?=some v):atI xs (j:Int)=some v:=by
  have hj:j<xs.length:=(List.getElem?_eq_some_iff.mp h).1
  have e:ixN xs.length (j:Int)=some j:=by
    unfold ixN
    rw [if_pos (by omega),if_pos (by omega)]; simp
  unfold atI; rw [e]; exact h
def ZjT (b:Expr):Prop:=∀o i,subscripted b false o i=operate [o,i] (getItem o i)
def IxR (X:Cx) (r:R2):Prop:=
  ∀(value slice:Expr) (pins:List (Addr×Obj)) (s:Shared) (σ:St) (H:Hp) (x y:V) (v u:Value) (Q:VK),Inv X pins σ H s→RelV x v→RelV y u→r x y H Q→
    subscripted slice false v u=operate [v,u] (getItem v u)→wpAny (model X.prog X.w) X.A (subscriptTail value slice v u) (EP X pins σ Q) X.xe s
def MtR (X:Cx) (id:String) (r:V→List V→Hp→VK→Prop):Prop:=
  ∀(pins:List (Addr×Obj)) (s:Shared) (σ:St) (H:Hp) (x:V) (xs:List V) (v:Value) (us:List Value) (Q:VK),Inv X pins σ H s→RelV x v→Vals xs us→r x xs H Q→
    wpAny (model X.prog X.w) X.A (call (.builtin id) (v::us)) (EP X pins σ Q) X.xe s
section
variable {X:Cx} {a b:Expr} {ta tb:TE} {pos:Pos}
theorem IxR.or {r r':R2} (h:IxR X r) (h':IxR X r'):IxR X (fun x y H Q=>r x y H Q∨r' x y H Q):=by
  intro value slice pins s σ H x y v u Q I rx ry q hs
  rcases q with q | q
  · exact h value slice pins s σ H x y v u Q I rx ry q hs
  · exact h' value slice pins s σ H x y v u Q I rx ry q hs
theorem Ztw {r:R2} (hr:IxR X r) (ha:PE X a ta) (hb:PE X b tb) (hs:ZjT b):PE X (.Subscript a b pos) (tOp r ta tb):=by
  intro pins s σ H Q I h
  exact Subscript_ (Zvb ha hb I h fun v u s2 x y H2 I2 rx ry q=>hr a b pins s2 σ H2 x y v u Q I2 rx ry q (hs _ _))
def Zwi (K:PySem.W.Frag):R2:=fun x y H Q=>∃p xs i v,x=.ref p∧y=.int i∧SqL K H p xs∧atI xs i=some v∧Q v H
def Zwg (K:PySem.W.Frag):R2:=fun x y H Q=>∃p xs i v,x=.ref p∧y=.int i∧SqT K H p xs∧atI xs i=some v∧Q v H
def Zwh:R2:=fun x y H Q=>∃z i c,x=.str z∧y=.int i∧z.length≤sizeLine∧atI z.cps.toList i=some c∧Q (.str ⟨#[c]⟩) H
theorem ix_list:IxR X (Zwi X.K):=by
  intro value slice pins s σ H x y v u Q I rx ry h hs
  obtain ⟨p,xs,i,z,rfl,rfl,hq,he,q⟩:=h
  cases rx
  obtain ⟨t,rfl⟩:=ry
  obtain ⟨its,r,pl,hz⟩:=I.list hq
  obtain ⟨j,h1,h2,h3,h4,h5⟩:=ZjR he
  obtain ⟨w,ew,rw'⟩:=r.get h2
  have hl:=r.length
  have hn:=ZfO
  have fin:EP X pins σ Q w s:=⟨z,H,I,rw',q⟩
  by_cases h0:0≤i
  · have hj:i.toNat=j:=by
      rw [seqIndex_of h0 h5] at h1
      exact Option.some.inj h1
    exact item_listR pl.isList h0 (by omega) (by rw [hj]; simpa using ew) fin hs
  · have hj:(i+(its.toArray.size:Int)).toNat=j:=by
      rw [seqIndex_neg (by omega) h4] at h1
      rw [List.size_toArray,←hl]
      exact Option.some.inj h1
    exact subscriptTail_builtinR (x:=w) pl.isList.typeIs slot_list_getitem.lookup
      (wpAny_getItem_list_neg (Q:=fun r s'=>r=w∧EP X pins σ Q r s') pl.isList (by omega) (by rw [List.size_toArray]<;>omega) (by omega) (by rw [hj]; simpa using ew) ⟨rfl,fin⟩) hs
theorem ix_tup:IxR X (Zwg X.K):=by
  intro value slice pins s σ H x y v u Q I rx ry h hs
  obtain ⟨p,xs,i,z,rfl,rfl,hq,he,q⟩:=h
  cases rx
  obtain ⟨t,rfl⟩:=ry
  obtain ⟨its,r,pl,hz⟩:=I.tuple hq
  obtain ⟨j,h1,h2,h3,h4,h5⟩:=ZjR he
  obtain ⟨w,ew,rw'⟩:=r.get h2
  have hl:=r.length
  have hn:=ZfO
  have fin:EP X pins σ Q w s:=⟨z,H,I,rw',q⟩
  exact subscriptTail_builtinR (x:=w) pl.typeIs slot_tuple_getitem.lookup
    (getItem_tuple (j:=j) (Q:=fun r s'=>r=w∧EP X pins σ Q r s') pl (by omega) (by omega) (by rw [List.size_toArray,←hl]; exact h1) (by simpa using ew) ⟨rfl,fin⟩) hs
theorem Zu5:IxR X Zwh:=by
  intro value slice pins s σ H x y v u Q I rx ry h hs
  obtain ⟨z,i,c,rfl,rfl,hz,he,q⟩:=h
  obtain ⟨t,rfl⟩:=rx
  obtain ⟨t',rfl⟩:=ry
  obtain ⟨j,h1,h2,h3,h4,h5⟩:=ZjR he
  have hl:z.cps.toList.length=z.length:=by simp [Str.length]
  rw [hl] at h1 h4 h5
  have hn:=ZfO
  exact tail_any (typeIs_str s z t) slot_str_getitem.lookup (getItem_str (c:=c) (by
    have e1:decide (i < -(2 ^ 63:Int))=false:=decide_eq_false (by omega)
    have e2:decide (i≥2 ^ 63)=false:=decide_eq_false (by omega)
    rw [e1,e2,Bool.or_false]) (by rw [h1]; simpa using h2) ⟨.str ⟨#[c]⟩,H,I.tok _,⟨_,rfl⟩,q⟩) hs
def rIx (K:PySem.W.Frag):R2:=fun x y H Q=>Zwi K x y H Q∨Zwg K x y H Q∨Zwh x y H Q
theorem Zra:IxR X (rIx X.K):=ix_list.or (ix_tup.or Zu5)
theorem ZmB (its:List Value) (n j:Nat) (u:Value):Obj.mapSeq (·.setIfInBounds j u) { cls:=.type "list",data:=.seq its.toArray n }={ cls:=.type "list",data:=.seq (its.set j u).toArray n }:=by
  simp [Obj.mapSeq]
theorem Inv.lst {pins:List (Addr×Obj)} {σ:St} {H:Hp} {s:Shared} {p:Addr} {xs:List V} (I:Inv X pins σ H s) (h:H p=some (.lst xs)) :
    ∃(its:List Value) (n:Nat),Vals xs its∧s.heap.get? p=some { cls:=.type "list",data:=.seq its.toArray n }∧xs.length≤sizeLine:=by
  obtain ⟨z,its,n,r,e⟩:=I.hok p _ h
  exact ⟨its,n,r,e,z⟩
theorem Inv.lstUpd {pins:List (Addr×Obj)} {σ:St} {H:Hp} {s:Shared} {p:Addr} {xs ys:List V} {its its':List Value} {n n':Nat} {f:Obj→Obj} (I:Inv X pins σ H s) (h:H p=some (.lst xs))
    (ho:s.heap.get? p=some { cls:=.type "list",data:=.seq its.toArray n }) (hf:f { cls:=.type "list",data:=.seq its.toArray n }={ cls:=.type "list",data:=.seq its'.toArray n' }) (r:Vals ys its') (hz:ys.length≤sizeLine) (t:Nat) :
    Inv X pins σ (upd H p (.lst ys)) { s with heap:=s.heap.update p f,toks:=t }:=by
  have e:(s.heap.update p f).get? p=some { cls:=.type "list",data:=.seq its'.toArray n' }:=by
    rw [Heap.get?_update_self f ho (by rw [hf]<;>rfl),hf]
  refine I.write (x:=p) (e:=p) (by rw [h]; trivial) (.inl rfl) (fun b u hb q=>(Heap.get?_update_other _ _ (Ne.symm hb)).trans q) ⟨_,e⟩ ?_
  exact ⟨hz,its',n',r,e⟩
def Ztu:V→V→V→Hp→(Hp→Prop)→Prop:=fun o i v H Q=>∃p xs k j,o=.ref p∧i=.int k∧H p=some (.lst xs)∧ixN xs.length k=some j∧Q (upd H p (.lst (xs.set j v)))
theorem Zqf:Zw7 X Ztu:=by
  intro pins s σ H o i v ov iv u Q I ro ri rv h
  obtain ⟨p,xs,k,j,rfl,rfl,hp,hj,q⟩:=h
  cases ro
  obtain ⟨t,rfl⟩:=ri
  obtain ⟨its,n,r,ho,hz⟩:=I.lst hp
  obtain ⟨h1,h2,h3,h4⟩:=Znv hj
  have hl:=r.length
  have hn:=ZfO
  have I':Inv X pins σ (upd H p (.lst (xs.set j v))) { s with heap:=s.heap.update p (Obj.mapSeq (·.setIfInBounds j u)) }:=
    I.lstUpd hp ho (ZmB its n j u) (r.set rv j) (by rw [List.length_set]; exact hz) s.toks
  by_cases h0:0≤k
  · have hk:k.toNat=j:=by
      rw [seqIndex_of h0 h4] at h1
      exact Option.some.inj h1
    exact PySem.W.ki_setAt ho h0 (by omega) (by rw [List.size_toArray,←hl]; exact h4) (by rw [hk]; exact ⟨_,I',q⟩)
  · have hk:(k+(its.toArray.size:Int)).toNat=j:=by
      rw [seqIndex_neg (by omega) h3] at h1
      rw [List.size_toArray,←hl]
      exact Option.some.inj h1
    exact PySem.W.ki_setBack ho (by omega) (by rw [List.size_toArray,←hl]; exact h3) (by omega) (by rw [hk]; exact ⟨_,I',q⟩)
theorem Zjt (lo hi:Option Int) (n:Nat):(sliceBounds lo hi none n).1=((HT.sIx n 0 lo:Nat):Int)∧(sliceBounds lo hi none n).2.1=((HT.sIx n n hi:Nat):Int)∧(sliceBounds lo hi none n).2.2=1:=by
  refine ⟨?_,?_,rfl⟩
  · cases lo with
    | none=>simp [sliceBounds,HT.sIx]
    | some i=>
      simp only [sliceBounds,HT.sIx,Option.getD_none,show (1:Int) > 0 by decide,if_true]
      by_cases h:i<0
      · simp only [h,if_true]<;>omega
      · simp only [h,if_false]<;>omega
  · cases hi with
    | none=>simp [sliceBounds,HT.sIx]
    | some i=>
      simp only [sliceBounds,HT.sIx,Option.getD_none,show (1:Int) > 0 by decide,if_true]
      by_cases h:i<0
      · simp only [h,if_true]<;>omega
      · simp only [h,if_false]<;>omega
theorem ZiF (its:List Value) (lo hi:Option Int):slicePick its.toArray lo hi none=((its.drop (HT.sIx its.length 0 lo)).take (HT.sIx its.length its.length hi-HT.sIx its.length 0 lo)).toArray:=by
  obtain ⟨h1,h2,h3⟩:=Zjt lo hi its.toArray.size
  unfold slicePick
  rw [h1,h2,h3]
  simp only [sliceRange_one,pick_run,List.size_toArray]<;>rfl
def Zwe (K:PySem.W.Frag):V→Option Int→Option Int→Hp→VK→Prop:=fun x lo hi H Q=>∃a xs,x=.ref a∧SqL K H a xs∧∀p,H p=none→Q (.ref p) (upd H p (.lst (Zl2 xs lo hi)))
theorem sl_list:SlR X (Zwe X.K):=by
  intro pins s σ H x v vl vu lo hi sl Q I rx hs pl pu h
  obtain ⟨a,xs,rfl,hx,q⟩:=h
  cases rx
  obtain ⟨its,r,ht,hz⟩:=I.list hx
  have hlen:=r.length
  refine ⟨"list",_,slot_list_getitem.lookup,ht.isList.typeIs,?_⟩
  refine wpAny_getItem_list_slice ht.isList hs pl pu .none (by simp) ?_ (by rw [List.size_toArray]<;>omega)
  rw [ZiF,←hlen]
  refine ⟨.ref s.heap.objs.size,_,I.laid (t':=s.toks) (o:=.lst (Zl2 xs lo hi)) (fun b ob q=>Heap.get?_push_of_some _ q) (Nat.le_refl _) ?_,rfl,q _ (I.hok.fresh (Nat.le_refl _))⟩
  exact ⟨Nat.le_trans (Zhi xs lo hi) hz,_,0,(r.drop (HT.sIx xs.length 0 lo)).take (HT.sIx xs.length xs.length hi-HT.sIx xs.length 0 lo),Heap.get?_push_size _ rfl⟩
def ZdA:V→Bool
  | .non=>true
  | .bl _=>true
  | .int _=>true
  | .str _=>true
  | _=>false
def eqV:V→V→Bool
  | .non,.non=>true
  | .bl a,.bl b=>a == b
  | .bl a,.int b=>(if a then 1 else 0) == b
  | .int a,.bl b=>a == (if b then 1 else 0)
  | .int a,.int b=>a == b
  | .str a,.str b=>a == b
  | _,_=>false
theorem Zu8 {A:Around} {s:Shared} {y x:V} {u v:Value} (ry:RelV y u) (rx:RelV x v) (fy:ZdA y=true) (fx:ZdA x=true):SeqAt.EqAt A s u v (eqV y x):=by
  cases y with
  | non=>
    cases ry
    cases x with
    | non=>cases rx; exact SeqAt.EqAt.same _
    | bl b=>cases rx; exact SeqAt.EqAt.none_bool b
    | int b=>obtain ⟨t,rfl⟩:=rx; exact SeqAt.EqAt.none_int b t
    | str b=>obtain ⟨t,rfl⟩:=rx; exact SeqAt.EqAt.none_str b t
    | _=>exact absurd (show false=true from fx) Bool.false_ne_true
  | bl a=>
    cases ry
    cases x with
    | non=>cases rx; exact SeqAt.EqAt.bool_none a
    | bl b=>cases rx; exact SeqAt.EqAt.bool_bool a b
    | int b=>obtain ⟨t,rfl⟩:=rx; exact SeqAt.EqAt.bool_int a b t
    | str b=>obtain ⟨t,rfl⟩:=rx; exact SeqAt.EqAt.bool_str a b t
    | _=>exact absurd (show false=true from fx) Bool.false_ne_true
  | int a=>
    obtain ⟨t',rfl⟩:=ry
    cases x with
    | non=>cases rx; exact SeqAt.EqAt.int_none a t'
    | bl b=>cases rx; exact SeqAt.EqAt.int_bool a t' b
    | int b=>obtain ⟨t,rfl⟩:=rx; exact SeqAt.EqAt.int_int a t' b t
    | str b=>obtain ⟨t,rfl⟩:=rx; exact SeqAt.EqAt.int_str a t' b t
    | _=>exact absurd (show false=true from fx) Bool.false_ne_true
  | str a=>
    obtain ⟨t',rfl⟩:=ry
    cases x with
    | non=>cases rx; exact SeqAt.EqAt.str_none a t'
    | bl b=>cases rx; exact SeqAt.EqAt.str_bool a t' b
    | int b=>obtain ⟨t,rfl⟩:=rx; exact SeqAt.EqAt.str_int a t' b t
    | str b=>obtain ⟨t,rfl⟩:=rx; exact SeqAt.EqAt.str_str a t' b t
    | _=>exact absurd (show false=true from fx) Bool.false_ne_true
  | _=>exact absurd (show false=true from fy) Bool.false_ne_true
def eqU (x:V) (u:Value):Bool:=match u with
  | .none=>eqV .non x
  | .bool b=>eqV (.bl b) x
  | .int i _=>eqV (.int i) x
  | .str z _=>eqV (.str z) x
  | _=>false
theorem Zrn {x y:V} {u:Value} (r:RelV y u) (f:ZdA y=true):eqU x u=eqV y x:=by
  cases y with
  | non=>cases r; rfl
  | bl b=>cases r; rfl
  | int i=>obtain ⟨t,rfl⟩:=r; rfl
  | str z=>obtain ⟨t,rfl⟩:=r; rfl
  | _=>exact absurd (show false=true from f) Bool.false_ne_true
theorem Zgz {x:V}:∀{xs:List V} {us:List Value},Vals xs us→xs.all ZdA=true→us.any (eqU x)=xs.any fun y=>eqV y x
  | _,_,.nil,_=>rfl
  | y::xs,u::us,.cons r t,f=>by
    rw [List.all_cons,Bool.and_eq_true] at f
    rw [List.any_cons,List.any_cons,Zrn r f.1,Zgz t f.2]
theorem Ze1 {A:Around} {s:Shared} {x:V} {v:Value} (rx:RelV x v) (fx:ZdA x=true):∀{xs:List V} {us:List Value},Vals xs us→xs.all ZdA=true→∀u∈us,SeqAt.EqAt A s u v (eqU x u)
  | _,_,.nil,_=>fun u hu=>by cases hu
  | y::xs,u::us,.cons r t,f=>fun u' hu=>by
    rw [List.all_cons,Bool.and_eq_true] at f
    rcases List.mem_cons.mp hu with rfl | hu
    · rw [Zrn r f.1]; exact Zu8 r rx f.1 fx
    · exact Ze1 rx fx t f.2 u' hu
def inV (x:V) (xs:List V):Bool:=xs.any fun y=>eqV y x
def rIn (K:PySem.W.Frag) (neg:Bool):R2:=fun x y H Q=>∃p xs,y=.ref p∧(SqL K H p xs∨SqT K H p xs)∧ZdA x=true∧xs.all ZdA=true∧Q (.bl (if neg then !inV x xs else inV x xs)) H
theorem Zn6:OpR X (compareOp .In) (rIn X.K false):=by
  intro pins s σ H x y v u Q I rx ry h
  obtain ⟨p,xs,rfl,hq,fx,fs,q⟩:=h
  cases ry
  rcases hq with hq | hq
  · obtain ⟨its,r,pl,hz⟩:=I.list hq
    refine SeqAt.in_listAt (eqU x) pl.isList (fun w hw=>Ze1 rx fx r fs w (by simpa using hw)) ⟨.bl _,H,I,rfl,?_⟩
    rw [show its.toArray.any (eqU x)=its.any (eqU x) by simp,Zgz r fs]
    exact q
  · obtain ⟨its,r,pl,hz⟩:=I.tuple hq
    refine SeqAt.in_tupleAt (eqU x) pl (fun w hw=>Ze1 rx fx r fs w (by simpa using hw)) ⟨.bl _,H,I,rfl,?_⟩
    rw [show its.toArray.any (eqU x)=its.any (eqU x) by simp,Zgz r fs]
    exact q
theorem ZjA:OpR X (compareOp .NotIn) (rIn X.K true):=by
  intro pins s σ H x y v u Q I rx ry h
  obtain ⟨p,xs,rfl,hq,fx,fs,q⟩:=h
  cases ry
  rcases hq with hq | hq
  · obtain ⟨its,r,pl,hz⟩:=I.list hq
    refine SeqAt.notIn_listAt (eqU x) pl.isList (fun w hw=>Ze1 rx fx r fs w (by simpa using hw)) ⟨.bl _,H,I,rfl,?_⟩
    rw [show its.toArray.any (eqU x)=its.any (eqU x) by simp,Zgz r fs]
    exact q
  · obtain ⟨its,r,pl,hz⟩:=I.tuple hq
    refine SeqAt.notIn_tupleAt (eqU x) pl (fun w hw=>Ze1 rx fx r fs w (by simpa using hw)) ⟨.bl _,H,I,rfl,?_⟩
    rw [show its.toArray.any (eqU x)=its.any (eqU x) by simp,Zgz r fs]
    exact q
theorem Zgr:CallR X (.builtin "len") (fun xs H Q=>∃p ys,xs=[.ref p]∧(SqL X.K H p ys∨SqT X.K H p ys)∧Q (.int ys.length) H):=by
  intro pins s σ H xs us Q I r h
  obtain ⟨p,ys,rfl,hq,q⟩:=h
  obtain ⟨u,rfl,rx⟩:=ZfX r
  cases rx
  have hn:=ZfO
  rcases hq with hq | hq
  · obtain ⟨its,r',pl,hz⟩:=I.list hq
    have hlen:=r'.length
    exact Calls.call_len_list pl.isList (by simp only [List.size_toArray]<;>omega) ⟨.int ys.length,H,I.tok _,⟨s.toks+1,by rw [List.size_toArray,hlen]⟩,q⟩
  · obtain ⟨its,r',pl,hz⟩:=I.tuple hq
    have hlen:=r'.length
    exact len_tuple pl (by simp only [List.size_toArray]<;>omega) ⟨.int ys.length,H,I.tok _,⟨s.toks+1,by rw [List.size_toArray,hlen]⟩,q⟩
theorem call_len_str:CallR X (.builtin "len") (fun xs H Q=>∃z,xs=[.str z]∧z.length≤sizeLine∧Q (.int z.length) H):=by
  intro pins s σ H xs us Q I r h
  obtain ⟨z,rfl,hz,q⟩:=h
  obtain ⟨u,rfl,t,rfl⟩:=ZfX r
  have hn:=ZfO
  exact len_str (by omega) ⟨.int z.length,H,I.tok _,⟨_,rfl⟩,q⟩
theorem CallR.or {f:Value} {r r':List V→Hp→VK→Prop} (h:CallR X f r) (h':CallR X f r'):CallR X f (fun xs H Q=>r xs H Q∨r' xs H Q):=by
  intro pins s σ H xs us Q I rs q
  rcases q with q | q
  · exact h pins s σ H xs us Q I rs q
  · exact h' pins s σ H xs us Q I rs q
theorem ZjL:CallR X (.type "list") (fun xs H Q=>∃p ys,xs=[.ref p]∧(SqL X.K H p ys∨SqT X.K H p ys)∧∀l,H l=none→Q (.ref l) (upd H l (.lst ys))):=by
  intro pins s σ H xs us Q I r h
  obtain ⟨p,ys,rfl,hq,q⟩:=h
  obtain ⟨u,rfl,rx⟩:=ZfX r
  cases rx
  have fin:∀(its:List Value),Vals ys its→ys.length≤sizeLine→∀(h':Heap) (c':Nat),(∀b o',s.heap.get? b=some o'→h'.get? b=some o')→
      h'.get? s.heap.objs.size=some { cls:=.type "list",dict:=none,data:=.seq its.toArray c',slots:=#[] }→EP X pins σ Q (.ref s.heap.objs.size) { s with heap:=h' }:=fun its r' hz h' c' kp e=>
    ⟨.ref s.heap.objs.size,_,I.laid (t':=s.toks) kp (Nat.le_refl _) (show ObjOk X.prog X.w _ h' _ (.lst ys) from ⟨hz,its,c',r',e⟩),rfl,q _ (I.hok.fresh (Nat.le_refl _))⟩
  rcases hq with hq | hq
  · obtain ⟨its,r',pl,hz⟩:=I.list hq
    have hlen:=r'.length
    obtain ⟨o,ho,hc,n,hd⟩:=pl.isList
    exact call_list_seq p (.inl rfl) ho hc hd (fun h' c' kp e=>fin its r' hz h' c' kp e) (by simp only [List.size_toArray]<;>omega)
  · obtain ⟨its,r',pl,hz⟩:=I.tuple hq
    have hlen:=r'.length
    obtain ⟨o,ho,hc,n,hd⟩:=pl
    exact call_list_seq p (.inr rfl) ho hc hd (fun h' c' kp e=>fin its r' hz h' c' kp e) (by simp only [List.size_toArray]<;>omega)
theorem ZiI:CallR X (.type "tuple") (fun xs H Q=>∃p ys,xs=[.ref p]∧((SqL X.K H p ys∧∀l,H l=none→Q (.ref l) (upd H l (.tup ys)))∨(SqT X.K H p ys∧Q (.ref p) H))):=by
  intro pins s σ H xs us Q I r h
  obtain ⟨p,ys,rfl,h⟩:=h
  obtain ⟨u,rfl,rx⟩:=ZfX r
  cases rx
  rcases h with ⟨hq,q⟩ | ⟨hq,q⟩
  · obtain ⟨its,r',pl,hz⟩:=I.list hq
    have hlen:=r'.length
    refine call_tuple_list pl.isList (fun h' kp=>?_) (by simp only [List.size_toArray]<;>omega)
    have I1:Inv X pins σ H { s with heap:=h' }:=I.kept (t':=s.toks) kp
    have I2:Inv X pins σ (upd H h'.objs.size (.tup ys)) { s with heap:=h'.push { cls:=.type "tuple",data:=.seq its.toArray } }:=
      I1.laid (t':=s.toks) (fun b o e=>Heap.get?_push_of_some _ e) (Nat.le_refl _) (show ObjOk X.prog X.w _ _ _ (.tup ys) from ⟨hz,its,r',IsTup.new _ _⟩)
    exact ⟨.ref h'.objs.size,_,I2,rfl,q _ (I1.hok.fresh (Nat.le_refl _))⟩
  · obtain ⟨its,r',pl,hz⟩:=I.tuple hq
    exact call_tuple_same pl ⟨.ref p,H,I,rfl,q⟩
def tyV (K:PySem.W.Frag) (T:String) (x:V) (H:Hp):Prop:=match x with
  | .str _=>T = "str"
  | .int _=>T = "int"
  | .ref p=>(T = "list"∧∃xs,SqL K H p xs)∨(T = "tuple"∧∃o,K.lookup p=some o∧o.cls=.type "tuple"∧o.dict=none)∨
      (T = "dict"∧((∃kvs,H p=some (.dK kvs))∨∃kvs,H p=some (.dT kvs)))∨(T = "set"∧∃S n,H p=some (.set S n))
  | _=>False
theorem ZtW {pins:List (Addr×Obj)} {σ:St} {H:Hp} {s:Shared} {T:String} {x:V} {v:Value} (I:Inv X pins σ H s) (r:RelV x v) (ty:tyV X.K T x H) :
    s.TypeIs v T∧∀a,v=.ref a→∃ob,s.heap.get? a=some ob∧ob.dict=none:=by
  cases x with
  | str z=>
    obtain ⟨t,rfl⟩:=r
    cases (show T = "str" from ty)
    exact ⟨typeIs_str s z t,fun _ e=>nomatch e⟩
  | int i=>
    obtain ⟨t,rfl⟩:=r
    cases (show T = "int" from ty)
    exact ⟨typeIs_int s i t,fun _ e=>nomatch e⟩
  | ref p=>
    cases r
    rcases ty with ⟨rfl,xs,hq⟩ | ⟨rfl,o,hk,hc,hd⟩ | ⟨rfl,hk⟩ | ⟨rfl,S,n,hk⟩
    · obtain ⟨its,_,pl,_⟩:=I.list hq
      refine ⟨pl.isList.typeIs,fun a e=>?_⟩
      cases e
      obtain ⟨o,n,e,c,hd,_⟩:=pl
      exact ⟨o,e,hd⟩
    · refine ⟨⟨o,I.kIn p o hk,hc⟩,fun a e=>?_⟩
      cases e
      exact ⟨o,I.kIn _ o hk,hd⟩
    · have z:∃o,s.heap.get? p=some o∧o.ExactDict:=by
        rcases hk with ⟨kvs,hk⟩ | ⟨kvs,hk⟩
        · obtain ⟨_,_,_,_,o,_,_,e,ex,_⟩:=I.hok p _ hk
          exact ⟨o,e,ex⟩
        · obtain ⟨_,_,_,_,o,_,_,e,ex,_⟩:=I.hok p _ hk
          exact ⟨o,e,ex⟩
      obtain ⟨o,e,ex⟩:=z
      refine ⟨⟨o,e,ex.1⟩,fun a e2=>?_⟩
      cases e2
      exact ⟨o,e,ex.2.1⟩
    · obtain ⟨o,_,_,_,e,ex,_⟩:=I.hok p _ hk
      refine ⟨⟨o,e,ex.1⟩,fun a e2=>?_⟩
      cases e2
      exact ⟨o,e,ex.2.1⟩
  | _=>exact False.elim ty
def tBM (K:PySem.W.Frag) (T:String) (r:V→List V→Hp→VK→Prop) (to:TE) (t:TA):TE:=fun σ H Q=>to σ H fun x H1=>tyV K T x H1∧t σ H1 fun xs H2=>r x xs H2 Q
variable {o e:Expr} {es:List Expr} {to:TE} {t:TA} {name:Str} {apos cpos:Pos} {T id:String} {r:V→List V→Hp→VK→Prop}
theorem ZqD (pa:PlainAttrs T) (slot:Slot T name id) (hty:typeOf (.builtin id)=pure (.type "method_descriptor")) (hm:MtR X id r) (ho:PE X o to) (ha:PA X (e::es) t)
    (hbase:attributeBase o name X.env (eval o X.env)=eval o X.env:=by rfl)
    (hfew:((backTo cpos (starEach (e::es) X.env)).all (fun x=>!x.1) && (backToKw cpos (keywordEach [] X.env)).all (fun x=>x.1.isSome)
      && decide ((e::es).length+([]:List Keyword).length+(if ([]:List Keyword).isEmpty then 0 else 1)<30))=true:=by rfl)
    (hline:(apos.endLine == cpos.line)=true:=by rfl) (hs:starEach (e::es) X.env=(false,eval e X.env)::starEach es X.env:=by rfl) (hplain:(backTo cpos (starEach es X.env)).any (·.1)=false:=by rfl) :
    PE X (.Call (.Attribute o name apos) (e::es) [] cpos) (tBM X.K T r to t):=by
  intro pins s σ H Q I h
  refine wpAny_Call_method_late hbase hfew hline rfl (thn (ho pins s σ H _ I h) fun v s1 ⟨x,H1,I1,r1,ty,q1⟩=>?_)
  obtain ⟨h1,h2⟩:=ZtW I1 r1 ty
  refine ⟨T,id,pa,slot,hty,h1,h2,?_⟩
  have hA:=ha cpos pins s1 σ H1 _ I1 q1
  rw [hs] at hA ⊢
  refine Calls.callWith_builtin (by show (false || (backTo cpos (starEach es X.env)).any (·.1))=false; rw [hplain]<;>rfl) (Calls.evalArgs_plain ?_)
  exact thn hA fun us s2 ⟨vs,H2,I2,r2,q2⟩=>hm pins s2 σ H2 x vs v us Q I2 r1 r2 q2
end
end L2
namespace L2
open PySem PySem.Spec PyProof.Rows
def MtM (X:Cx) (id:String) (r:V→List V→Hp→VK→Prop):Prop:=
  ∀(pins:List (Addr×Obj)) (s:Shared) (σ:St) (H:Hp) (x:V) (xs:List V) (v:Value) (us:List Value) (Q:VK),Inv X pins σ H s→RelV x v→Vals xs us→r x xs H Q→
    wpAny (model X.prog X.w) X.A (call (.builtin id) (v::us)) (EP X pins σ Q) X.xe s
theorem Vals.one:∀{x:V} {us:List Value},Vals [x] us→∃u,us=[u]∧RelV x u
  | _,_,.cons r .nil=>⟨_,rfl,r⟩
theorem Vals.rep {xs:List V} {us:List Value} (h:Vals xs us):∀k:Nat,Vals (List.replicate k xs).flatten (List.replicate k us).flatten
  | 0=>.nil
  | k+1=>by
    rw [List.replicate_succ,List.replicate_succ,List.flatten_cons,List.flatten_cons]
    exact Vals.append h (Vals.rep h k)
theorem Zft (its:List Value):∀(k:Nat) (acc:List Value),
    List.foldl (fun x1 x2=>x1++x2) acc.toArray (List.replicate k its.toArray)=(acc++(List.replicate k its).flatten).toArray
  | 0,acc=>by simp
  | k+1,acc=>by
    have e:acc.toArray++its.toArray=(acc++its).toArray:=by simp
    have e2:(acc++its)++(List.replicate k its).flatten=acc++(List.replicate (k+1) its).flatten:=by
      rw [List.replicate_succ,List.flatten_cons,List.append_assoc]
    rw [←e2,←Zft its k (acc++its),←e,List.replicate_succ,List.foldl_cons]
section
variable {X:Cx} {pins:List (Addr×Obj)} {σ:St} {H:Hp} {s:Shared} {l b:Addr} {xs ys zs:List V}
theorem Inv.lset {its its':List Value} {n:Nat} {f:Array Value→Array Value} {t':Nat} (I:Inv X pins σ H s) (hH:H l=some (.lst xs))
    (e:s.heap.get? l=some { cls:=.type "list",data:=.seq its.toArray n }) (hf:f its.toArray=its'.toArray) (hv:Vals ys its') (hz:ys.length≤sizeLine) :
    Inv X pins σ (upd H l (.lst ys)) { s with heap:=s.heap.update l (Obj.mapSeq f),toks:=t' }:=by
  have q:=PySem.IsL.update e f
  rw [hf] at q
  refine I.write (x:=l) (e:=l) (by rw [hH]; exact trivial) (.inl rfl) (fun b' u hb hu=>(Heap.get?_update_other s.heap (Obj.mapSeq f) (Ne.symm hb)).trans hu) ⟨_,q⟩ ?_
  exact ⟨hz,its',_,hv,q⟩
theorem Inv.lnew {its:List Value} {t':Nat} (I:Inv X pins σ H s) (hv:Vals ys its) (hz:ys.length≤sizeLine) :
    Inv X pins σ (upd H s.heap.objs.size (.lst ys)) { s with heap:=s.heap.push { cls:=.type "list",data:=.seq its.toArray },toks:=t' }:=
  I.laid (fun _ _ q=>Heap.get?_push_of_some _ q) (Nat.le_refl _) ⟨hz,its,0,hv,Heap.get?_push_size _ rfl⟩
theorem Inv.fresh (I:Inv X pins σ H s):H s.heap.objs.size=none:=I.hok.fresh (Nat.le_refl _)
theorem Inv.lstM (I:Inv X pins σ H s) (hH:H l=some (.lst xs)):xs.length≤sizeLine∧∃(its:List Value) (n:Nat),Vals xs its∧xs.length=its.length∧s.heap.get? l=some { cls:=.type "list",data:=.seq its.toArray n }:=by
  obtain ⟨z,its,n,r,e⟩:=I.hok l _ hH
  exact ⟨z,its,n,r,r.length,e⟩
theorem Zgb {n:Nat} (h:n≤sizeLine):Builtin.List.listTooLong n=false:=by
  unfold Builtin.List.listTooLong
  exact decide_eq_false (by omega)
end
section
variable {X:Cx}
def Zna:V→List V→Hp→VK→Prop:=fun x vs H Q=>∃l xs y,x=.ref l∧vs=[y]∧H l=some (.lst xs)∧xs.length<sizeLine∧Q .non (upd H l (.lst (xs++[y])))
theorem ZgM:MtM X "list.append" Zna:=by
  intro pins s σ H x vs v us Q I rx rv h
  obtain ⟨l,xs,y,rfl,rfl,hH,hz,q⟩:=h
  cases rx
  obtain ⟨u,rfl,ru⟩:=rv.one
  obtain ⟨z,its,n,r,hl,e⟩:=I.lstM hH
  refine call_meets F.slot_list_append ⟨_,e,rfl⟩ F.entry_list_append (F.args_list_append_2 _ _) (PySem.list_append l its.toArray n u (by rw [List.size_toArray]; omega)) ⟨e,?_⟩
  refine ⟨.non,_,I.lset (its':=its++[u]) hH e (by simp) (r.append (.cons ru .nil)) ?_,rfl,q⟩
  rw [List.length_append,List.length_singleton]
  omega
def Zsi:V→List V→Hp→VK→Prop:=fun x vs H Q=>∃l b xs zs,x=.ref l∧vs=[.ref b]∧H l=some (.lst xs)∧H b=some (.lst zs)∧xs.length+zs.length≤sizeLine∧Q .non (upd H l (.lst (xs++zs)))
theorem Zvz:MtM X "list.extend" Zsi:=by
  intro pins s σ H x vs v us Q I rx rv h
  obtain ⟨l,b,xs,zs,rfl,rfl,hH,hB,hz,q⟩:=h
  cases rx
  obtain ⟨u,rfl,ru⟩:=rv.one
  cases ru
  obtain ⟨z,its,n,r,hl,e⟩:=I.lstM hH
  obtain ⟨z2,its2,n2,r2,hl2,e2⟩:=I.lstM hB
  have hsz:its.toArray.size+its2.toArray.size≤sizeLine:=by rw [List.size_toArray,List.size_toArray]; omega
  have hlong:¬(!its.toArray.isEmpty && Builtin.List.listTooLong (its.toArray.size+its2.toArray.size))=true:=by
    rw [Zgb hsz,Bool.and_false]
    exact Bool.false_ne_true
  refine call_meets F.slot_list_extend ⟨_,e,rfl⟩ F.entry_list_extend (F.args_list_extend_2 _ _)
    (AutoSeq1.list_extend_list_list_0 l its.toArray n b its2.toArray n2 hlong (by rw [List.size_toArray]; omega) (by omega)) ⟨e,e2,?_⟩
  refine ⟨.non,_,I.lset (its':=its++its2) hH e (by simp) (r.append r2) ?_,rfl,q⟩
  rw [List.length_append]
  omega
def Zz4:R2:=fun x y H Q=>∃l b xs zs,x=.ref l∧y=.ref b∧H l=some (.lst xs)∧H b=some (.lst zs)∧xs.length+zs.length≤sizeLine∧∀p,H p=none→Q (.ref p) (upd H p (.lst (xs++zs)))
theorem ZqG:OpR X (binaryOp .Add) Zz4:=by
  intro pins s σ H x y v u Q I rx ry h
  obtain ⟨l,b,xs,zs,rfl,rfl,hH,hB,hz,q⟩:=h
  cases rx
  cases ry
  obtain ⟨z,its,n,r,hl,e⟩:=I.lstM hH
  obtain ⟨z2,its2,n2,r2,hl2,e2⟩:=I.lstM hB
  refine PySem.P.add_list e e2 ?_ (by rw [List.size_toArray,List.size_toArray]; omega)
  have ea:its.toArray++its2.toArray=(its++its2).toArray:=by simp
  rw [ea]
  exact ⟨.ref _,_,I.lnew (t':=s.toks) (r.append r2) (by rw [List.length_append]; omega),rfl,q _ I.fresh⟩
def Zz3:R2:=fun x y H Q=>∃l k xs,x=.ref l∧y=.int k∧H l=some (.lst xs)∧-(2 ^ 63)≤k∧k<2 ^ 63∧xs.length*k.toNat≤sizeLine∧
  ∀p,H p=none→Q (.ref p) (upd H p (.lst (List.replicate k.toNat xs).flatten))
theorem ZjD {α:Type} (xs:List α) (k:Nat):(List.replicate k xs).flatten.length=k*xs.length:=by
  induction k with
  | zero=>simp
  | succ k ih=>rw [List.replicate_succ,List.flatten_cons,List.length_append,ih,Nat.succ_mul,Nat.add_comm]
theorem ZuO:OpR X (binaryOp .Mult) Zz3:=by
  intro pins s σ H x y v u Q I rx ry h
  obtain ⟨l,k,xs,rfl,rfl,hH,h1,h2,hz,q⟩:=h
  cases rx
  obtain ⟨t,rfl⟩:=ry
  obtain ⟨z,its,n,r,hl,e⟩:=I.lstM hH
  have hlen:its.toArray.size*k.toNat≤sizeLine:=by rw [List.size_toArray,←hl]; exact hz
  have hcap:¬its.toArray.size*k.toNat > (2 ^ 63-1)/8:=by
    have:(sizeLine:Nat)≤(2 ^ 63-1)/8:=by decide
    omega
  have hfit:¬(!Builtin.List.listFitsIndex k)=true:=by
    rw [fitsIndex_both h1 h2]
    exact Bool.false_ne_true
  have hlong:¬Builtin.List.listTooLong (its.toArray.size*k.toNat)=true:=by
    rw [Zgb hlen]
    exact Bool.false_ne_true
  have hnew:List.foldl (fun x1 x2=>x1++x2) #[] (List.replicate (if its.toArray.isEmpty=true then 0 else k.toNat) its.toArray)=(List.replicate k.toNat its).flatten.toArray:=by
    have f0:∀m:Nat,List.foldl (fun x1 x2=>x1++x2) #[] (List.replicate m its.toArray)=(List.replicate m its).flatten.toArray:=fun m=>by
      have:=Zft its m []
      rw [List.nil_append] at this
      exact this
    rw [f0]
    cases its with
    | nil=>simp
    | cons a r'=>rw [if_neg (by simp)]
  refine wpAny_binaryOp_repeat_ref (T:="list") (U:="int") (by decide) ⟨_,e,rfl⟩ (fun s'=>typeIs_int s' k t) noFill_list_mul F.fills_int_mul F.slot_int_rmul repeat_list F.slot_int_index.lookup
    (call_meets F.slot_int_rmul (typeIs_int s k t) F.entry_int_rmul (F.args_int_rmul_2 _ _) (int___rmul___int_list k t l its.toArray n)
      ⟨e,rfl,⟨_,e,rfl⟩,call_meets F.slot_list_mul ⟨_,e,rfl⟩ F.entry_list_mul (F.args_list_mul_2 _ _) (AutoListH.list___mul___list_int_3 l its.toArray n k t hfit hcap hlong) ⟨e,?_⟩⟩)
  rw [hnew]
  exact ⟨.ref _,_,I.lnew (t':=s.toks) (r.rep k.toNat) (by rw [ZjD,Nat.mul_comm]; exact hz),rfl,q _ I.fresh⟩
end
section
variable {prog:Program} {w:World} {A:Around} {E:Value→Shared→Prop} {s:Shared}
theorem ZmP {a c n:Nat} (hac:a≤c) (hc:c≤n):sliceBounds (some (a:Int)) (some (c:Int)) none n=((a:Int),(c:Int),1):=by
  simp only [sliceBounds,Option.getD_none]
  have h1:¬((a:Int)<0):=by omega
  have h2:¬((c:Int)<0):=by omega
  simp only [h1,h2,if_false,show (1:Int) > 0 by decide,if_true]
  congr 1
  · omega
  · congr 1; omega
set_option maxRecDepth 100000 in
theorem ZrU {l b sl:Addr} {items new:Array Value} {n n2:Nat} {vl vu:Value} {a c:Nat} {Q:Unit→Shared→Prop}
    (e:s.heap.get? l=some { cls:=.type "list",data:=.seq items n }) (e2:s.heap.get? b=some { cls:=.type "list",data:=.seq new n2 }) (hne:l≠b)
    (hs:s.heap.IsSliceOf sl vl vu .none) (pl:IsPart vl (some (a:Int))) (pu:IsPart vu (some (c:Int))) (hac:a≤c) (hc:c≤items.size)
    (hsz:items.size+new.size≤sizeLine) (h:Q () { s with heap:=s.heap.update l (Obj.mapSeq fun xs=>xs.extract 0 a++new++xs.extract c xs.size) }) :
    wpAny (model prog w) A (setItem (.ref l) (.ref sl) (.ref b)) Q E s:=by
  have hl:s.heap.IsList l items:=PySem.IsL.isList e
  have hb:s.heap.IsList b new:=PySem.IsL.isList e2
  obtain ⟨os,hos,hcs,hds⟩:=id hs
  have hTs:s.TypeIs (.ref sl) "slice":=⟨os,hos,hcs⟩
  have hstep:¬((rawPart none == rawInt 0)=true):=Bool.false_ne_true
  have hsame:Builtin.List.listSameRef (.ref l) (.ref b)=false:=by
    unfold Builtin.List.listSameRef
    exact beq_eq_false_iff_ne.mpr hne
  have hmax:(max (a:Int) (c:Int)).toNat=c:=by omega
  have hz':((fun xs:Array Value=>xs.extract 0 a++new++xs.extract c xs.size) items).size≤sizeLine+1:=by
    simp only [Array.size_append,Array.size_extract]
    omega
  unfold setItem
  try with_reducible refine wpAny_holding ?_
  first | refine wpAny_bind (wpAny_pure ?_) | skip
  refine wpAny_bind (wpAny_sequenceKey hl.typeIs (by decide) ?_)
  refine wpAny_bind (wpAny_callSpecial?_slot (name:=Str.ofString "__setitem__") hl.typeIs slot_list_setitem
    (wpAny_call_entry slot_list_setitem hl.typeIs entry_list_setitem ?_ (args_list_setitem _ _ _)))
  show wpAny _ _ (Builtin.List.listSubscript? (.ref sl) >>= _) _ _ s
  refine wpAny_bind ?_
  unfold Builtin.List.listSubscript?
  refine wpAny_bind (wpAny_specialOf hTs slice_no_index ?_)
  simp only [Option.isNone_none,if_true]
  refine wpAny_pure ?_
  show wpAny _ _ (typeOf (.ref sl) >>= _) _ _ s
  refine wpAny_bind (wpAny_typeOf hTs ?_)
  first
    | rw [if_neg (by decide)]
    | refine PySem.W.KFB.if_not (by decide) ?_
  rw [listSliceParts_eq]
  refine wpAny_bind (wpAny_bind (wpAny_field hos hds (x:=.none) rfl (wpAny_bind (wpAny_listPart .none ?_))))
  rw [if_neg hstep]
  refine wpAny_bind (wpAny_field hos hds (x:=vl) rfl (wpAny_bind (wpAny_listPart pl ?_)))
  refine wpAny_bind (wpAny_field hos hds (x:=vu) rfl (wpAny_bind (wpAny_listPart pu (wpAny_pure ?_))))
  first
    | simp only [hsame,Bool.false_eq_true,if_false]
    | refine PySem.W.KFB.if_not hsame ?_
    | (dsimp only
       rw [if_neg (by rw [hsame]; exact Bool.false_ne_true)])
  refine wpAny_bind (m:=Builtin.List.listAllItems (.ref b) "must assign iterable to extended slice") ?_
  unfold Builtin.List.listAllItems
  refine wpAny_bind (wpAny_typeOf hb.typeIs ?_)
  first
    | refine PySem.W.KFB.if_so (by decide) ?_
    | rw [if_pos (by decide)]
    | simp only [beq_self_eq_true,Bool.true_or,if_true]
  unfold Builtin.List.listItems
  refine wpAny_bind (wpAny_seqItems e2 rfl (wpAny_pure ?_))
  refine wpAny_bind (wpAny_bind (wpAny_seqItems e rfl (wpAny_pure ?_)))
  refine wpAny_bind (wpAny_of_eq ((sliceIndices_raw (some (a:Int)) (some (c:Int)) none items.size (by simp)).trans (congrArg (pure:Int×Int×Int→Sem (Int×Int×Int)) (ZmP hac hc))) ?_)
  show wpAny _ _ (if ((1:Int) == 1)=true then _ else _) _ _ s
  rw [if_pos (by decide)]
  refine wpAny_bind (wpAny_rule ?_)
  first
    | simp only [Zgb hsz,Bool.false_eq_true,if_false]
    | refine PySem.W.KFB.if_not (Zgb hsz) ?_
  first | refine wpAny_bind (wpAny_pure ?_) | skip
  show wpAny _ _ (updateSeq l (fun xs=>xs.extract 0 ((a:Int)).toNat++new++xs.extract (max (a:Int) (c:Int)).toNat xs.size) >>= _) _ _ s
  rw [hmax,Int.toNat_natCast]
  refine wpAny_bind (wpAny_updateSeq (hz:=Nat.le_trans (Nat.le_add_right _ _) hsz) (_hz':=hz') e rfl ?_)
  refine wpAny_bind (wpAny_letGo ?_)
  first
    | exact wpAny_bind (wpAny_pure (wpAny_pure ⟨.none,rfl,wpAny_pure h⟩))
    | exact wpAny_pure ⟨.none,rfl,wpAny_pure h⟩
end
section
variable {X:Cx}
end
end L2
namespace Att
open PySem PySem.W PySem.Calls PyProof.Rows
theorem Zhw {P:Params} {h:Heap}:∀(ns:List Int) (vs:List Value),WellAll P h vs (ns.map WData.int)→IntsAre vs ns:=by
  intro ns
  induction ns with
  | nil=>
    intro vs w
    rw [List.map_nil] at w
    cases w
    exact .nil
  | cons n ns ih=>
    intro vs w
    rw [List.map_cons] at w
    cases w with
    | cons a b=>
      cases a
      exact .cons _ _ (ih _ b)
theorem Zn1 {l:OpenLaw} {n:Nat} (hn:l.most=some n) {P:Params} {h:Heap} {args:List WData} {vals:List Value}
    (hpre:l.row.toRowW.claim.pre args=true) (hwl:WellAll P h vals args) :
    ∃a vs ns,vals=[Value.ref a]∧args=[WData.list (ns.map WData.int)]∧h.get? a=some { cls:=.type "list",data:=.seq vs.toArray }∧IntsAre vs ns∧ns.length≤n:=by
  have hsh:WShape.hasAll [] args [.list .int]=true:=(pre_splitW hpre).1
  have hc:l.pre.holds [] { args:=args }=true:=(pre_splitW hpre).2
  obtain ⟨d,r,rfl,h1,h2⟩:=hasAllW_cons hsh
  obtain rfl:=hasAllW_nil h2
  obtain ⟨xs,rfl,h3⟩:=hasW_list h1
  obtain ⟨ns,rfl⟩:=items_int h3
  have hlen:ns.length≤n:=by
    unfold OpenLaw.pre at hc
    have h4:(WTm.not (.lt (.lit (.int (n:Int))) (.len (.arg 0)))).holds [] { args:=[.list (ns.map .int)] }=true:=by
      have h4:=(holds_andW hc).1
      rw [hn] at h4
      exact h4
    have h5:=condW_of h4 (w_not (w_lt w_lit (w_len_list (w_arg rfl))))
    rw [List.length_map] at h5
    refine Nat.le_of_not_lt fun q=>?_
    have q':(n:Int)<((ns.length:Nat):Int):=by omega
    first
      | (rw [decide_eq_true q'] at h5; exact absurd h5 (by decide))
      | (simp at h5; omega)
  cases hwl with
  | cons w1 w2=>
    cases w2
    cases w1 with
    | list ho hall=>exact ⟨_,_,ns,rfl,rfl,ho,Zhw ns _ hall,hlen⟩
theorem Zn2 (l:OpenLaw) (args:List WData):l.row.toRowW.claim.post args (.bool true) args=true:=
  postW_of (r:=l.row.toRowW) (X:=(true == true))
    (show WShape.has [] (.bool true) .bool=true by first | rfl | decide | simp [WShape.has,WShape.arms,WShape.armsAll])
    (show (WTm.eq .res (.lit (.bool true))).value [] { args:=args,res:=some (.bool true),after:=args }=some (.bool (true == true)) from w_eq_bool (w_res rfl) w_lit) rfl
theorem attach_call {l:OpenLaw} {n:Nat} {q:Program} {loose:List Str} {XP:(Str→Option Value)→Heap→Prop} {YP:World→Heap→Prop} {d:DefRec}
    (hn:l.most=some n) (hdf:d.params.defaults=[])
    (call:∀(w:World) (s₀ s₁:Shared) (mg mb:Str→Option Value) (fa:Addr) (o:Obj) (pm cd doc:Value) (a:Addr) (vs:List Value) (ns:List Int),
      Ground q loose [] XP w s₀ mg mb s₁.heap→YP w s₁.heap→
      s₁.heap.get? fa=some o→o.data=.func (docDef d.name d.params d.body d.scope pm cd doc)→s₁.heap.CodeRec cd d.name→mg d.name=some (.ref fa)→
      s₁.heap.get? a=some { cls:=.type "list",data:=.seq vs.toArray }→IntsAre vs ns→ns.length≤n→s₁.gens=#[]→
      codeAny (model l.prog w) callerA (.call (.ref fa) ⟨[.ref a],[]⟩) (fun r s'=>r=.ok (.ret (.bool true))∧OldK s₁.heap s'.heap∧s'.os=s₁.os∧AllBare s'.gens) s₁) :
    WalkO q loose XP YP l.row.toRowW d [] (fun f vs=>PySem.call f vs):=by
  intro w s₀ s₁ mg mb G Y fa o pm cd doc dV kV ho hd hcd hD hmg hg args vals as hpre hlay hrd hwl hlo
  obtain rfl:dV=.none:=Dflts.none hD hdf
  obtain rfl:kV=.none:=Dflts.noKw hD
  obtain ⟨a,vs,ns,rfl,rfl,hobj,hints,hlen⟩:=Zn1 hn hpre hwl
  refine enter_call (codeAny_mono (call w s₀ s₁ mg mb fa o pm cd doc a vs ns G Y ho (fd_plain hd) hcd hmg hobj hints hlen hg) fun r s' hq=>?_)
  obtain ⟨rfl,h2,h3,h4⟩:=hq
  exact ⟨.inl ⟨.bool true,.bool true,[],rfl,fun _=>rfl,.bool true,Zn2 l _,fun _=>⟨List.Pairwise.nil,fun _ hm=>(nomatch hm)⟩⟩,h2,h3,h4⟩
section
variable {prog:Program} {w:World} {A:Around} {E:Value→Shared→Prop} {s:Shared} {K:Frag}
end
end Att
namespace L2
open PySem PySem.Spec PyProof.Rows
theorem ZiL:∀{vs:List Value} {ns:List Int},IntsAre vs ns→Vals (ns.map V.int) vs
  | _,_,.nil=>.nil
  | _,_,.cons n t h=>.cons ⟨t,rfl⟩ (ZiL h)
def Zs9 (H:Hp):Prop:=∀b,H b=none∨∃o xs,H b=some (.frz o (.lst xs))
theorem Zq8 {P:Program} {w:World} {K:PySem.W.Frag} {mg mb:Str→Option Value} {CX:CXT} {k:Nat} {fa a:Addr} {fd:FuncData} {x:Str} {sp:Sp} {s₁:Shared} {vs:List Value} {ns:List Int}
    (KX:K.In s₁.heap) (hns:s₁.heap.Ns mainGlobals mg) (hb:s₁.heap.Ns builtinsNs mb) (hbb:∀x:Str,x≠"__name__"→mb x=bootBuiltins x) (hlim:s₁.heap.NoLimit) (hg:s₁.gens=#[])
    (ha:s₁.heap.get? a=some { cls:=.type "list",data:=.seq vs.toArray }) (hi:IntsAre vs ns) (hl:ns.length≤sizeLine) (hr:Room k callerA)
    (F:∀base:Heap,K.In base→base.Ns mainGlobals mg→FnOk P w K mg base CX k fa fd [x] sp) (hbind:∀(s:Shared) (u:Value),BindsTo s fd ⟨[u],[]⟩ [(x,u)])
    (hsp:∀H:Hp,Zs9 H→SqL K H a (ns.map V.int)→sp [.ref a] H (fun v _=>v=.bl true) fun _ _ _=>False)
    (hCX:∀H e s',CX [] H s₁ (fun _ _ _=>False) e s'→False) :
    codeAny (model P w) callerA (.call (.ref fa) ⟨[.ref a],[]⟩) (fun r s'=>r=.ok (.ret (.bool true))∧OldK s₁.heap s'.heap∧s'.os=s₁.os∧AllBare s'.gens) s₁:=by
  have rv:=ZiL hi
  have lenV:=hi.length
  have core:∀H:Hp,Zs9 H→SqL K H a (ns.map V.int)→HOk P w H s₁.heap→(∀b,H b≠none→b=a)→(H a≠none→K.lookup a=none)→
      codeAny (model P w) callerA (.call (.ref fa) ⟨[.ref a],[]⟩) (fun r s'=>r=.ok (.ret (.bool true))∧OldK s₁.heap s'.heap∧s'.os=s₁.os∧AllBare s'.gens) s₁:=by
    intro H hO hS hok hA hK
    have base_of:∀{b:Addr} {o:Obj},s₁.heap.get? b=some o→H b=none→(ZjH s₁.heap H).get? b=some o:=fun e n=>Zrg e n
    have noA:∀{b:Addr} {o:Obj} {es:Array DictEntry} {ep:Nat},s₁.heap.get? b=some o→o.data=.dict es ep→H b=none:=fun {b o es ep} e d=>by
      cases q:H b with
      | none=>rfl
      | some u=>
        have e':b=a:=hA b (by rw [q]; simp)
        subst e'
        rw [ha] at e; cases e
        have d':Data.seq vs.toArray _=Data.dict es ep:=d
        cases d'
    have nsK:∀{b:Addr} {m:Str→Option Value},s₁.heap.Ns b m→(ZjH s₁.heap H).Ns b m:=fun {b m} ⟨o,es,ep,e,d,r⟩=>⟨o,es,ep,base_of e (noA e d),d,r⟩
    have hKb:K.In (ZjH s₁.heap H):=fun b o e=>base_of (KX b o e) (by
      cases q:H b with
      | none=>rfl
      | some u=>
        have e':b=a:=hA b (by rw [q]; simp)
        subst e'
        rw [hK (by rw [q]; simp)] at e; cases e)
    have hM:Mod K mg (ZjH s₁.heap H):=⟨hKb,nsK hns,⟨mb,nsK hb,hbb⟩,let ⟨mc,h1,h2⟩:=hlim; ⟨mc,nsK h1,h2⟩⟩
    have e0:Env0 P w K mg (ZjH s₁.heap H) callerA [] s₁ H:=⟨rfl,hM,fun b o e=>ZsB e,Nat.le_of_eq (Zok _ _),trivial,fun b hb=>absurd (show b∈([]:List Addr) from hb) (by simp),hok,.of_eq hg⟩
    refine codeAny_mono ((F _ hKb (nsK hns)).run callerA [] s₁ H ⟨[.ref a],[]⟩ [.ref a] [.ref a] _ _ hr e0 (hbind s₁ (.ref a)) (.cons rfl .nil) (hsp H hO hS)) fun r s' h=>?_
    cases r with
    | error e=>exact (hCX H e s' h).elim
    | ok fl=>
      cases fl with
      | next=>exact False.elim h
      | brk=>exact False.elim h
      | cont=>exact False.elim h
      | ret u=>
        obtain ⟨v,H',os,bare,un,hok',r',q⟩:=h
        have q':v=.bl true:=q
        subst q'
        obtain rfl:u=Value.bool true:=r'
        refine ⟨rfl,OldK.of_keep fun b o e=>?_,os,bare⟩
        cases q:H b with
        | none=>exact un.keep b o e q (by intro z; exact absurd (show b∈([]:List Addr) from z) (by simp)) (by simp)
        | some u=>
          rcases hO b with z | ⟨ob,xs,z⟩
          · rw [q] at z; cases z
          · have z2:=un.frzs b ob _ z
            obtain ⟨e1,_⟩:=hok b _ z
            obtain ⟨e2,_⟩:=hok' b _ z2
            rw [e] at e1; cases e1
            exact e2
  cases hk:K.lookup a with
  | some o=>
    have e:=KX a o hk
    rw [ha] at e
    cases e
    refine core (fun _=>none) (fun _=>.inl rfl) (.inr ⟨_,vs.toArray,_,hk,rfl,rfl,rfl,by rw [List.size_toArray,lenV]; exact hl,by simpa using rv⟩) (fun b u z=>by have z':(none:Option HO)=some u:=z; cases z') (fun b z=>absurd rfl z) fun z=>absurd rfl z
  | none=>
    refine core (fun b=>if b=a then some (.frz { cls:=.type "list",data:=.seq vs.toArray } (.lst (ns.map V.int))) else none) (fun b=>?_) (.inl (.inr ⟨{ cls:=.type "list",data:=.seq vs.toArray },if_pos rfl⟩)) (fun b u z=>?_) (fun b z=>?_) fun _=>hk
    · by_cases hb:b=a
      · exact .inr ⟨_,_,if_pos hb⟩
      · exact .inl (if_neg hb)
    · by_cases hb:b=a
      · have z':=(if_pos hb).symm.trans z
        cases z'
        subst hb
        exact ⟨ha,by rw [List.length_map]; exact hl,vs,_,rv,ha⟩
      · have z':=(if_neg hb).symm.trans z
        cases z'
    · by_cases hb:b=a
      · exact hb
      · exact absurd (if_neg hb) z
end L2
namespace L2
open PySem PySem.Spec PyProof.Rows
theorem ZrY {l:PySem.W.OpenLaw} {n k:Nat} {q:Program} {loose:List Str} {XP:(Str→Option Value)→Heap→Prop} {YP:World→Heap→Prop} {d:DefRec} {K:Params→PySem.W.Frag} {CX:World→CXT} {sp:World→Sp} {x:Str}
    (hn:l.most=some n) (hn2:n≤sizeLine) (hdf:d.params.defaults=[]) (hr:Room k callerA)
    (hY:∀(w:World) (h:Heap),YP w h→(K w.params).In h)
    (F:∀(w:World) (mg:Str→Option Value) (fa:Addr) (h:Heap),(K w.params).In h→h.Ns mainGlobals mg→mg d.name=some (.ref fa)→
      ∃fd:FuncData,(∀(s:Shared) (u:Value),BindsTo s fd ⟨[u],[]⟩ [(x,u)])∧
        ∀base:Heap,(K w.params).In base→base.Ns mainGlobals mg→FnOk l.prog w (K w.params) mg base (CX w) k fa fd [x] (sp w))
    (hsp:∀(w:World) (H:Hp) (a:Addr) (ns:List Int),ns.length≤n→Zs9 H→SqL (K w.params) H a (ns.map V.int)→sp w [.ref a] H (fun v _=>v=.bl true) fun _ _ _=>False)
    (hCX:∀(w:World) (H:Hp) (s:Shared) (e:Value) (s':Shared),CX w [] H s (fun _ _ _=>False) e s'→False) :
    PySem.W.WalkO q loose XP YP l.row.toRowW d [] (fun f vs=>PySem.call f vs):=by
  refine Att.attach_call hn hdf fun w s₀ s₁ mg mb fa o pm cd doc a vs ns G Y ho hd hcd hmg hobj hints hlen hg=>?_
  have KX:=hY w _ Y
  obtain ⟨fd,hb,hF⟩:=F w mg fa _ KX G.T.g hmg
  exact Zq8 KX G.T.g G.T.b G.T.builtins G.T.nolimit hg hobj hints (Nat.le_trans hlen hn2) hr hF hb (fun H hO hS=>hsp w H a ns hlen hO hS) fun H e s'=>hCX w H s₁ e s'
end L2
namespace L2
open PySem PySem.Spec PyProof.Rows
def Znx (s:Stmt) (j:Nat):Stmt:=match s with
  | .ClassDef _ _ _ body _ _ _ _ _ _ _=>body.getD j (.Pass ⟨0,0,0,0⟩)
  | _=>.Pass ⟨0,0,0,0⟩
def Zt (s:Stmt):Arguments:=match s with
  | .FunctionDef _ a _ _ _ _ _ _ _ _=>a
  | _=>{ posonlyargs:=[],args:=[],vararg:=none,kwonlyargs:=[],kw_defaults:=[],kwarg:=none,defaults:=[] }
def Zp (s:Stmt):List Stmt:=match s with
  | .FunctionDef _ _ b _ _ _ _ _ _ _=>b
  | _=>[]
def Zi (s:Stmt):Scope:=match s with
  | .FunctionDef _ _ _ _ _ _ sc _ _ _=>sc
  | _=>{ kind:=.function,names:=[],isGenerator:=false,isCoroutine:=false }
abbrev CX0:CXT:=fun _ _ _ _ _ _=>False
abbrev E0:XK:=fun _ _ _=>False
theorem ZqE {X:Cx}:Zg8 CX0 X E0:=fun _ _ _ _ _ _ _ h=>h.elim
structure Fun (K:PySem.W.Frag) (x qual:Str) (st:Stmt) (f:Addr) (fd:FuncData):Prop where
  ex:∃(oc:Value) (od:Option Addr) (kV doc pm:Value) (an:Option Addr) (cdv ct:Value) (osl:Array (Option Value)),
    fd=PySem.W.fnOf x qual (Zt st) (Zp st) (Zi st) .none kV doc pm an cdv ct∧K.lookup f=some ⟨oc,od,.func fd,osl⟩∧PySem.W.codeIn K cdv qual=true
  kp:PySem.W.keepIn K (.ref f)=true
section
variable {P:Program} {w:World} {K:PySem.W.Frag} {mg:Str→Option Value} {base:Heap}
theorem Fun.ok {x qual:Str} {st:Stmt} {f:Addr} {fd:FuncData} {N ps:List Str} {k:Nat} {sp:Sp} (F:Fun K x qual st f fd) (S:Zs N ps (Zi st)) (len:∀vs H Q E,sp vs H Q E→vs.length=ps.length)
    (hbody:∀(cdv:Value) (A:Around) (outer:List Env) (s:Shared) (H:Hp) (vs:List V) (Q:VK) (E:XK),Room k (A.deeper (envOfC qual (Zi st) s.heap.objs.size f cdv))→sp vs H Q E→
      ∃t,PSs (Zij CX0 P w K mg base N qual (Zi st) f cdv A outer s H E).nox (Zp st) t∧t { nx:=fun _ H'=>Q .non H',rt:=Q } (ZeG N vs) H):FnOk P w K mg base CX0 (k+1) f fd ps sp:=by
  obtain ⟨oc,od,kV,doc,pm,an,cdv,ct,osl,rfl,lk,hcd⟩:=F.ex
  refine ZwW lk hcd S len fun A outer s H vs Q E hr hsp=>?_
  obtain ⟨t,h,q⟩:=hbody cdv A outer s H vs Q E hr hsp
  exact ⟨t,h.nox,q⟩
theorem Fun.binds {x qual:Str} {st:Stmt} {f:Addr} {fd:FuncData} {ps:List Str} (F:Fun K x qual st f fd)
    (h:∀(kV doc pm:Value) (an:Option Addr) (cdv ct:Value) (us:List Value),us.length=ps.length→bindArgs (PySem.W.fnOf x qual (Zt st) (Zp st) (Zi st) .none kV doc pm an cdv ct) ⟨us,[]⟩=pure (ps.zip us)):Binds K fd ps []:=by
  obtain ⟨oc,od,kV,doc,pm,an,cdv,ct,osl,rfl,lk,hcd⟩:=F.ex
  exact .all (h kV doc pm an cdv ct)
theorem ZB {x qual:Str} {st:Stmt} {f:Addr} {oc:Value} {od an:Option Addr} {osl:Array (Option Value)} {kV doc pm cdv ct:Value} (l:K.lookup f=some ⟨oc,od,.func (PySem.W.fnOf x qual (Zt st) (Zp st) (Zi st) .none kV doc pm an cdv ct),osl⟩)
    (c:PySem.W.codeIn K cdv qual=true) (k:PySem.W.keepIn K (.ref f)=true):Fun K x qual st f (PySem.W.fnOf x qual (Zt st) (Zp st) (Zi st) .none kV doc pm an cdv ct):=⟨⟨oc,od,kV,doc,pm,an,cdv,ct,osl,rfl,l,c⟩,k⟩
end
section
variable {X:Cx}
end
end L2
namespace L2
open PySem PySem.Spec PyProof.Rows
section
variable {P:Program} {w:World} {K:PySem.W.Frag} {mg:Str→Option Value} {base:Heap}
def Zn (K:PySem.W.Frag) (mg:Str→Option Value) (x:Str) (st:Stmt) (ps:List Str):Prop:=
  ∃(f:Addr) (fd:FuncData),Fun K x x st f fd∧Binds K fd ps []∧mg x=some (.ref f)
def Def (P:Program) (w:World) (K:PySem.W.Frag) (mg:Str→Option Value) (base:Heap) (k:Nat) (x:Str) (ps:List Str) (sp:Sp):Prop:=
  ∃(f:Addr) (fd:FuncData),FnOk P w K mg base CX0 k f fd ps sp∧Binds K fd ps []∧PySem.W.keepIn K (.ref f)=true∧mg x=some (.ref f)
end
section
variable {X:Cx} {k:Nat} {x:Str} {ps:List Str} {sp:Sp} {p pos:Pos} {e:Expr} {es:List Expr} {t:TA}
theorem ZqC {j:Nat} (D:Def X.prog X.w X.K X.mg X.base k x ps sp) (hr:Room j X.A) (hj:k≤j) (ha:PA X (e::es) t) (hg:Gl X x:=by rfl) (hdb:(x == ("__debug__":Str))=false:=by decide)
    (he:starEach (e::es) X.env=(false,eval e X.env)::starEach es X.env:=by rfl) (hpl:(backTo pos (starEach es X.env)).any (·.1)=false:=by rfl):PE X (.Call (.Name x p) (e::es) [] pos) (Ztq sp [] E0 t):=by
  obtain ⟨f,fd,F,b,kp,m⟩:=D
  exact Zsw F (hr.mono hj) hg m kp b .nil ZqE ha hdb he hpl
theorem Zsu {i:Int} (h:∃t,X.mg x=some (.int i t)) (hg:Gl X x:=by rfl) (hd:(x == ("__debug__":Str))=false:=by decide):PE X (.Name x pos) (tC (.int i)):=by
  obtain ⟨t,h⟩:=h
  exact Zng hg h ⟨t,rfl⟩ hd
def Zw8 (_ j:Int):Prop:=0<j∧j.natAbs.log2<9000
theorem ZqF:OpR X (binaryOp .FloorDiv) (rI Zw8 fun i j=>.int (i/j)):=opI fun i j _ _ _ _ _ hc q=>by
  have h1:(0:Int)<j:=hc.1
  exact floordiv_int (by omega) (by rw [Int.fdiv_eq_ediv_of_nonneg i (by omega)]; exact q) (.inl (PyProof.noPylong_of_log2 hc.2))
theorem Zl5:CallR X (.builtin "isinstance") (fun xs H Q=>∃(x:V) (n:String) (t:Value) (b:Bool),xs=[x,.ty n]∧ZgA X.K H x t∧PySem.W.kitOne X.K t (.type n)=some b∧Q (.bl b) H):=by
  intro pins s σ H xs us Q I r h
  obtain ⟨x,n,t,b,rfl,ty,e,q⟩:=h
  cases r with
  | cons rx rr=>
    cases rr with
    | cons ry rr=>
      cases rr
      cases ry
      exact Zoh I rx ty e fun tk=>⟨.bl b,H,I.tok tk,rfl,q⟩
theorem Zwo {x:Str} {n:String} {pos:Pos} (hm:X.mg x=none) (hv:bootBuiltins x=some (.type n)) (hg:Gl X x:=by rfl) (hn:x≠"__name__":=by decide) (hd:(x == ("__debug__":Str))=false:=by decide):PE X (.Name x pos) (tC (.ty n)):=
  Zsx hg hm hv rfl hn hd
end
end L2
set_option maxHeartbeats 4000000
namespace L2
open PySem PySem.Spec PyProof.Rows
theorem Zgp {scope:Scope} {env:Env} (h:∀x∈scope.names,x.2=.free→∃c,env.cells.lookup x.1=some c) :
    ∃cl:List (Str×Addr),closureFor scope env=pure cl∧(∀n c,(n,c)∈cl→env.cells.lookup n=some c)∧∀x∈scope.names,x.2=.free→∃c,(x.1,c)∈cl:=by
  have key:∀(names:List (Str×NameKind)) (acc:List (Str×Addr)),(∀x∈names,x.2=.free→∃c,env.cells.lookup x.1=some c)→(∀n c,(n,c)∈acc→env.cells.lookup n=some c)→
      ∃cl:List (Str×Addr),(forIn names acc fun (x:Str×NameKind) (cs:List (Str×Addr))=>if (x.2 == NameKind.free)=true then (do let c ←cellOf env x.1; pure (ForInStep.yield ((x.1,c)::cs)):Sem _) else pure (ForInStep.yield cs))=(pure cl:Sem _)∧
        (∀n c,(n,c)∈cl→env.cells.lookup n=some c)∧(∀p∈acc,p∈cl)∧∀x∈names,x.2=.free→∃c,(x.1,c)∈cl:=by
    intro names
    induction names with
    | nil=>intro acc _ ha; exact ⟨acc,rfl,ha,fun _ p=>p,fun x hx=>nomatch hx⟩
    | cons y r ih=>
      intro acc hx ha
      obtain ⟨n,k⟩:=y
      by_cases hk:k=.free
      · subst hk
        obtain ⟨c,hc⟩:=hx (n,.free) List.mem_cons_self rfl
        obtain ⟨cl,e,h1,h2,h3⟩:=ih ((n,c)::acc) (fun x z=>hx x (List.mem_cons_of_mem _ z)) (fun m d z=>by
          rcases List.mem_cons.mp z with z | z
          · cases z; exact hc
          · exact ha m d z)
        refine ⟨cl,?_,h1,fun p z=>h2 p (List.mem_cons_of_mem _ z),fun x z zf=>?_⟩
        · have ec:cellOf env n=pure c:=by unfold cellOf; rw [hc]
          rw [List.forIn_cons]
          simp only [beq_self_eq_true,if_true,ec,pure_bind]
          exact e
        · rcases List.mem_cons.mp z with z | z
          · cases z; exact ⟨c,h2 _ List.mem_cons_self⟩
          · exact h3 x z zf
      · obtain ⟨cl,e,h1,h2,h3⟩:=ih acc (fun x z=>hx x (List.mem_cons_of_mem _ z)) ha
        refine ⟨cl,?_,h1,h2,fun x z zf=>?_⟩
        · have hb:(k == NameKind.free)=false:=by simpa using hk
          rw [List.forIn_cons]
          simp only [hb,Bool.false_eq_true,if_false,pure_bind]
          exact e
        · rcases List.mem_cons.mp z with z | z
          · cases z; exact absurd zf hk
          · exact h3 x z zf
  obtain ⟨cl,e,h1,_,h3⟩:=key scope.names [] h (fun n c z=>nomatch z)
  refine ⟨cl,?_,h1,h3⟩
  simp only [closureFor]
  rw [e]
  rfl
def Cx.comp (X:Cx) (scope:Scope) (N':List Str) (cl:List (Str×Addr)) (C:Addr) (s₀:Shared) (H₀:Hp) (fp:List Addr):Cx where
  prog:=X.prog
  w:=X.w
  K:=X.K
  mg:=X.mg
  base:=X.base
  A:=X.A
  N:=N'
  s₀:=s₀
  H₀:=H₀
  env:=compEnvC scope cl C X.env
  outer:=X.stack
  stack:=X.stack
  ex:=fp
  fn:=fun _=>false
  calm:=X.calm
  pn:=[]
  xe:=fun _ _=>False
def inner (src:List Nat) (σ:St) (x:Option V):St:=x::src.map fun j=>(σ[j]?).join
theorem Zh7 {α:Type} {l:List (Str×α)} {n:Str} {c:α} (h:(n,c)∈l):∃d,l.lookup n=some d:=by
  induction l with
  | nil=>cases h
  | cons y r ih=>
    obtain ⟨m,d⟩:=y
    by_cases e:n == m
    · exact ⟨d,by rw [List.lookup_cons,e]⟩
    · rcases List.mem_cons.mp h with z | z
      · cases z; exact absurd (beq_self_eq_true n) e
      · obtain ⟨d',q⟩:=ih z
        exact ⟨d',by rw [List.lookup_cons,Bool.eq_false_iff.mpr e]; exact q⟩
theorem Zej {env:Env} {n:Str}:∀{names:List (Str×NameKind)} {k:NameKind},(∀y∈names,y.2≠.cell)→
    (names.map fun (n,k)=>if (k == NameKind.free && env.scope.kind == .function && env.kindOf n == some .cell) then (n,NameKind.cell) else (n,k)).lookup n=some k→(k=.cell∨k=.free)→(n,NameKind.free)∈names
  | [],_,_,h,_=>by simp at h
  | (m,j)::r,k,hc,h,hk=>by
    have nc:j≠.cell:=hc (m,j) List.mem_cons_self
    rw [List.map_cons] at h
    by_cases e:n == m
    · have en:n=m:=by simpa using e
      subst en
      by_cases cnd:(j == NameKind.free && env.scope.kind == .function && env.kindOf n == some .cell)=true
      · have:j=.free:=by
          simp only [Bool.and_eq_true,beq_iff_eq] at cnd
          exact cnd.1.1
        rw [this]
        exact List.mem_cons_self
      · simp only [cnd] at h
        rw [if_neg (by simp),List.lookup_cons,beq_self_eq_true] at h
        cases h
        rcases hk with rfl | rfl
        · exact absurd rfl nc
        · exact List.mem_cons_self
    · refine List.mem_cons_of_mem _ (Zej (env:=env) (k:=k) (fun y hy=>hc y (List.mem_cons_of_mem _ hy)) ?_ hk)
      rw [List.lookup_cons] at h
      have e2:(n == (if (j == NameKind.free && env.scope.kind == .function && env.kindOf m == some .cell)=true then (m,NameKind.cell) else (m,j)).1)=false:=by
        split<;>exact Bool.eq_false_iff.mpr e
      rw [e2] at h
      exact h
theorem Zf2 {env:Env}:∀{names:List (Str×NameKind)} {x:Str},names.lookup x=some .free→
    (names.map fun (n,k)=>if (k == NameKind.free && env.scope.kind == .function && env.kindOf n == some .cell) then (n,NameKind.cell) else (n,k)).lookup x=some .cell∨
    (names.map fun (n,k)=>if (k == NameKind.free && env.scope.kind == .function && env.kindOf n == some .cell) then (n,NameKind.cell) else (n,k)).lookup x=some .free
  | [],_,h=>by simp at h
  | (n,k)::r,x,h=>by
    have ih:=@Zf2 env r x
    rw [List.map_cons]
    cases hx:x == n with
    | true=>
      simp only [List.lookup_cons,hx] at h
      cases h
      by_cases hc:(NameKind.free == NameKind.free && env.scope.kind == .function && env.kindOf n == some .cell)=true
      · left
        show List.lookup x ((if (NameKind.free == NameKind.free && env.scope.kind == .function && env.kindOf n == some .cell)=true then (n,NameKind.cell) else (n,NameKind.free))::_)=_
        rw [if_pos hc,List.lookup_cons,hx]
      · right
        show List.lookup x ((if (NameKind.free == NameKind.free && env.scope.kind == .function && env.kindOf n == some .cell)=true then (n,NameKind.cell) else (n,NameKind.free))::_)=_
        rw [if_neg hc,List.lookup_cons,hx]
    | false=>
      simp only [List.lookup_cons,hx] at h
      have e:∀t,List.lookup x ((if (k == NameKind.free && env.scope.kind == .function && env.kindOf n == some .cell)=true then (n,NameKind.cell) else (n,k))::t)=List.lookup x t:=fun t=>by
        split<;>rw [List.lookup_cons,hx]
      rcases ih h with q | q
      · exact .inl ((e _).trans q)
      · exact .inr ((e _).trans q)
section
variable {X:Cx} {x:Str} {px:Pos} {iter elt:Expr} {scope:Scope} {pos:Pos} {N':List Str} {src:List Nat} {wi:TI} {te:TE}
structure Za9 (scope sc:Scope) (x:Str) (N N':List Str) (src:List Nat):Prop where
  kind:scope.kind=.function
  cell:∀y∈scope.names,y.2≠.cell
  loc:∀y∈scope.names,y.2=.local→scope.names.lookup y.1=some .local
  own:scope.names.lookup x=some .local
  free:∀y∈scope.names,y.2=.free→sc.names.lookup y.1=some .cell
  nd:N'.Nodup
  names:N'=x::src.map fun j=>N.getD j x
  all:∀j∈src,j<N.length
  fr:∀j∈src,sc.names.lookup (N.getD j x)=some .cell∧scope.names.lookup (N.getD j x)=some .free
theorem ZmN {pins:List (Addr×Obj)} {σ:St} {H:Hp} {s s':Shared} {C:Addr} {cl:List (Str×Addr)} {fp:List Addr} (I:Inv X pins σ H s) (S:Za9 scope X.env.scope x X.N N' src)
    (hcl:∀n c,(n,c)∈cl→X.env.cells.lookup n=some c) (hcl2:∀y∈scope.names,y.2=.free→∃c,(y.1,c)∈cl) (hC:s.heap.objs.size≤C) (hfp:∀b∈fp,ZiJ X pins H b) (hfl:∀b∈fp,b<s.heap.objs.size)
    (hn:∃m,s'.heap.Ns C m) (hk:∀b o,s.heap.get? b=some o→s'.heap.get? b=some o) (ho:s'.os=s.os) (hg:s'.gens=s.gens) :
    Inv (X.comp scope N' cl C s H fp) [] (inner src σ none) H s':=by
  have cll:∀n c,cl.lookup n=some c→X.env.cells.lookup n=some c:=fun n c e=>hcl n c (PySem.mem_of_lookup e)
  refine ⟨⟨I.ok.mod,S.kind,I.ok.glob,I.ok.blt,hC,fun y z c h1 h2=>I.ok.inj y z c (cll _ _ h1) (cll _ _ h2),fun y hy=>?_,fun y c h=>absurd (show false=true from h) (by decide),I.ok.hd,I.ok.frames,.inl rfl,fun b hb=>⟨Nat.ne_of_lt (Nat.lt_of_lt_of_le (hfl b hb) hC),fun y c e=>(hfp b hb).2.2.2.2.1 y c (cll y c e)⟩,
    I.bs,Nat.le_trans I.ok.bsz I.sz,fun b o e hb=>?_,fun b hb=>?_,I.stack,I.stkFree⟩,ho,?_,Un.kept hk,?_,fun y c e=>?_,I.hok.fresh hC,fun y c e=>I.freeC y c (cll y c e),fun p hp=>absurd (show p∈([]:List (Addr×Obj)) from hp) (by simp),I.hok.kept hk,?_⟩
  · have hy':(relabel scope X.env).names.lookup y=some .cell∨(relabel scope X.env).names.lookup y=some .free:=hy
    have:(y,NameKind.free)∈scope.names:=by
      rcases hy' with h | h
      · exact Zej S.cell h (.inl rfl)
      · exact Zej S.cell h (.inr rfl)
    obtain ⟨c,hc⟩:=hcl2 _ this rfl
    exact Zh7 hc
  · rcases (hfp b hb).2.2.2.1 with z | z
    · exact I.ok.noex b o e z
    · exact absurd (Nat.lt_of_lt_of_le (Heap.lt_size e) (Nat.le_trans I.ok.bsz z)) (Nat.lt_irrefl _)
  · intro hs
    rcases List.mem_cons.mp (I.stkSub b hs) with z | z
    · exact (hfp b hb).2.1 z
    · exact (hfp b hb).2.2.1 z
  · rw [hg]; exact I.bare
  · obtain ⟨m,hm⟩:=hn
    refine ⟨m,hm,fun i y v h1 h2 h3=>?_⟩
    have h1':N'[i]?=some y:=h1
    rw [S.names] at h1'
    cases i with
    | zero=>cases (show (some none:Option (Option V))=some (some v) from h2)
    | succ k=>
      rw [List.getElem?_cons_succ,List.getElem?_map] at h1'
      have h2':(src.map fun j=>(σ[j]?).join)[k]?=some (some v):=h2
      rw [List.getElem?_map] at h2'
      cases e:src[k]? with
      | none=>rw [e] at h1'; cases h1'
      | some j=>
        rw [e] at h1' h2'
        have hj:=List.mem_of_getElem? e
        have ey:X.N.getD j x=y:=Option.some.inj h1'
        have ev:(σ[j]?).join=some v:=Option.some.inj h2'
        have eN:X.N[j]?=some y:=by
          have:=S.all j hj
          rw [List.getElem?_eq_getElem this]
          rw [List.getD_eq_getElem?_getD,List.getElem?_eq_getElem this] at ey
          exact congrArg some ey
        have eσ:σ[j]?=some (some v):=by
          cases q:σ[j]? with
          | none=>rw [q] at ev; cases ev
          | some z=>rw [q] at ev; exact congrArg some ev
        obtain ⟨k1,k2⟩:=S.fr j hj
        rw [ey] at k1 k2
        obtain ⟨mo,hmo,hl⟩:=I.loc
        obtain ⟨u,r,l⟩:=hl j y v eN eσ (.inr (.inl k1))
        refine ⟨u,r,?_⟩
        rcases l with ⟨z,_⟩ | ⟨_,c,hc,hcell⟩
        · have z':X.env.scope.names.lookup y=some .local:=z
          rw [k1] at z'; cases z'
        · obtain ⟨c',hc'⟩:=hcl2 _ (PySem.mem_of_lookup k2) rfl
          obtain ⟨d,hd⟩:=Zh7 hc'
          have ed:d=c:=by
            have:=cll _ _ hd
            rw [hc] at this
            exact (Option.some.inj this).symm
          subst ed
          obtain ⟨o,e1,e2⟩:=hcell
          refine .inr ⟨?_,d,hd,o,hk _ _ e1,e2⟩
          rcases h3 with z | z | z
          · have z':(relabel scope X.env).names.lookup y=some .local:=z
            rcases Zf2 (env:=X.env) k2 with w | w
            · have w':(relabel scope X.env).names.lookup y=some .cell:=w
              rw [w'] at z'; cases z'
            · have w':(relabel scope X.env).names.lookup y=some .free:=w
              rw [w'] at z'; cases z'
          · exact .inl z
          · exact .inr z
  · obtain ⟨v,o,e1,e2⟩:=I.cell y c (cll y c e)
    exact ⟨v,o,hk _ _ e1,e2⟩
  · show (inner src σ none).length=N'.length
    rw [S.names]
    unfold inner
    rw [List.length_cons,List.length_cons,List.length_map,List.length_map]
theorem Zl3 {prog:Program} {w:World} {A:Around} {R:Result→Shared→Prop} {s:Shared} {elt target iter:Expr} {scope:Scope} {pos:Pos} {it acc:Value} {env:Env} (I:Nat→Shared→Prop)
    (turn:∀n s,I n s→wpAny (model prog w) A (pyNext it) (fun r s₁=>match r with
      | none=>R (.ok .next) s₁
      | some v=>wpAny (model prog w) A (letOwnedTupleGo target it v) (fun _ s₂=>wpAny (model prog w) A (assign target env v) (fun _ s₃=>wpAny (model prog w) A (eval elt env) (fun x s₄=>
          wpAny (model prog w) A (call (.builtin "list.append") [acc,x]) (fun _ s₅=>∃m,m<n∧I m s₅) (notedBy (model prog w) A env fun e s'=>R (.error e) s') s₄) (notedBy (model prog w) A env fun e s'=>R (.error e) s') s₃)
          (notedBy (model prog w) A env fun e s'=>R (.error e) s') s₂) (notedBy (model prog w) A env fun e s'=>R (.error e) s') s₁) (notedBy (model prog w) A env fun e s'=>R (.error e) s') s)
    (n:Nat) (h:I n s):codeAny (model prog w) A (.compLoop (.ListComp elt [⟨target,iter,[],0⟩] scope pos) 0 it acc env) R s:=by
  refine codeAny_loop rfl I (fun n s hI=>?_) n h
  show wpAny _ A ((compTurn (.ListComp elt [⟨target,iter,[],0⟩] scope pos) 0 it acc env).onRaise (fun x=>do noteFrame x env; theTreesLotGoes x)) _ _ s
  refine wpAny_noted ?_
  rw [compTurn_list1]
  refine wpAny_bind (wpAny_standAt (wpAny_bind (thn (turn n s hI) fun r s₁ h₁=>?_)))
  cases r with
  | none=>exact wpAny_pure h₁
  | some v=>
    refine wpAny_bind (thn h₁ fun _ s₂ h₂=>wpAny_bind (thn h₂ fun _ s₃ h₃=>?_))
    exact wpAny_bind (wpAny_bind (thn h₃ fun x s₄ h₄=>wpAny_bind (thn h₄ fun _ s₅ h₅=>wpAny_pure (wpAny_pure ⟨rfl,h₅⟩))))
def lcR (J:It) (src:List Nat) (σ:St) (te:TE) (H1:Hp) (Q:VK):Prop:=∃(n:Nat) (Pv:Nat→List V→Hp→Prop),n≤sizeLine∧Pv 0 [] H1∧
  (∀i ys H,i<n→Pv i ys H→J.go i H∧∀y H',J.yld i H y H'→te (inner src σ (some y)) H' fun z H2=>Pv (i+1) (ys++[z]) H2)∧
  ∀ys H,Pv n ys H→J.stop n H∧∀p,H p=none→Q (.ref p) (upd H p (.lst ys))
def tLc (wi:TI) (src:List Nat) (te:TE):TE:=fun σ H Q=>wi σ H fun J H1=>lcR J src σ te H1 Q
theorem HOk.lay {P:Program} {w:World} {H:Hp} {h:Heap} {a:Addr} {o:HO} (x:HOk P w H h) (hn:H a=none) (new:ObjOk P w (upd H a o) h a o):HOk P w (upd H a o) h:=fun b u e=>by
  by_cases hb:b=a
  · subst hb; rw [zE] at e; cases e; exact new
  · rw [ZS hb] at e
    exact (x b u e).stay (fun c v _ q=>q) (fun c q=>by rw [ZS (zo q hn)]; exact q) fun c xs q=>by rw [ZS (zo q hn)]; exact q
theorem Un.lay {fs ex:List Addr} {H H1:Hp} {h h1:Heap} {a:Addr} {o:HO} (u:Un fs ex H H1 h h1) (hn:H1 a=none) (hh:h.get? a=none):Un fs ex H (upd H1 a o) h h1 where
  keep:=u.keep
  slot:=u.slot
  free:=fun b ob q n hx=>by rw [ZS (fun z=>by rw [z,hh] at q; cases q)]; exact u.free b ob q n hx
  there:=u.there
  tups:=fun b xs q=>by rw [ZS (zo (u.tups b xs q) hn)]; exact u.tups b xs q
  frzs:=fun b ob xs q=>by rw [ZS (zo (u.frzs b ob xs q) hn)]; exact u.frzs b ob xs q
  tbls:=fun b ps q=>by
    obtain ⟨m,e⟩:=u.tbls b ps q
    exact ⟨m,by rw [ZS (zo e hn)]; exact e⟩
theorem Zq7 {pins:List (Addr×Obj)} {σ:St} {H:Hp} {s:Shared} {cl:List (Str×Addr)} {it:Addr} {fp:List Addr} {tn:Nat→Heap→Prop} {J:It} {n:Nat} {Pv:Nat→List V→Hp→Prop} {RR:Value→Addr→Result→Shared→Prop} {E:Value→Shared→Prop}
    (I:Inv X pins σ H s) (hcm:X.calm=true) (S:Za9 scope X.env.scope x X.N N' src) (hcl:∀n c,(n,c)∈cl→X.env.cells.lookup n=some c) (hcl2:∀y∈scope.names,y.2=.free→∃c,(y.1,c)∈cl)
    (T:Zow X.prog X.w X.K (.Name x px) J fp it tn) (t0:tn 0 s.heap) (hfp:∀b∈fp,ZiJ X pins H b)
    (helt:∀(cl:List (Str×Addr)) (C:Addr) (s₀:Shared) (H₀:Hp) (fp:List Addr),PE (X.comp scope N' cl C s₀ H₀ fp) elt te)
    (hn:n≤sizeLine) (p0:Pv 0 [] H) (turn:∀i ys H,i<n→Pv i ys H→J.go i H∧∀y H',J.yld i H y H'→te (inner src σ (some y)) H' fun z H2=>Pv (i+1) (ys++[z]) H2) (stop:∀ys H,Pv n ys H→J.stop n H)
    (hR:∀(D C:Addr) (o:Obj) (ys:List V) (H':Hp) (s':Shared),Pv n ys H'→H' D=none→Inv X (pins++[(C,o)]) σ (upd H' D (.lst ys)) s'→(∃m,s'.heap.Ns C m)→ZiJ X pins (upd H' D (.lst ys)) C→RR (.ref D) C (.ok .next) s') :
    wpAny (model X.prog X.w) X.A (newList []) (fun acc s₃=>wpAny (model X.prog X.w) X.A (newFunctionEnv scope X.env.globals cl [] X.env.qual none .none (some X.env)) (fun cenv s₄=>
      codeAny (model X.prog X.w) X.A (.compStart (.ListComp elt [⟨.Name x px,iter,[],0⟩] scope pos) 0 (.ref it) acc { cenv with scope:=relabel scope X.env }) (RR acc cenv.locals) s₄) E s₃) E s:=by
  refine wpAny_newObj_type (wpAny_newFunctionEnv S.cell (by intro y hy; simp at hy) (fun h₁ hns₁ hsb₁=>?_) S.kind)
  dsimp only at hns₁ hsb₁ ⊢
  generalize hH2:s.heap.push { cls:=.type "list",dict:=none,data:=.seq ([]:List Value).toArray }=H2 at hns₁ hsb₁ ⊢
  have hC:H2.objs.size=s.heap.objs.size+1:=by rw [←hH2,Heap.size_push]
  have hDC:s.heap.objs.size≠H2.objs.size:=by rw [hC]; exact Nat.ne_of_lt (Nat.lt_succ_self _)
  have hCle:s.heap.objs.size≤H2.objs.size:=by rw [hC]; exact Nat.le_succ _
  have below:∀b,b<s.heap.objs.size→b≠H2.objs.size∧b≠s.heap.objs.size:=fun b hb=>⟨by rw [hC]; exact Nat.ne_of_lt (Nat.lt_succ_of_lt hb),Nat.ne_of_lt hb⟩
  have old:∀b o,s.heap.get? b=some o→h₁.get? b=some o:=fun b o e=>hsb₁.extBut b o (below b (Heap.lt_size e)).1 (Heap.get?_push_of_some _ (hH2 ▸ Heap.get?_push_of_some _ e))
  have hacc:h₁.PlainList s.heap.objs.size #[]:=⟨_,hsb₁.extBut _ _ hDC (Heap.get?_push_of_some _ (hH2 ▸ Heap.get?_push_size _ rfl))⟩
  have hfl:∀b∈fp,b<s.heap.objs.size:=fun b hb=>by
    obtain ⟨o,e,_⟩:=T.obj 0 _ t0 b hb
    exact Heap.lt_size e
  have fresh:∀a,s.heap.objs.size≤a→s.heap.get? a=none:=fun a ha=>by
    cases e:s.heap.get? a with
    | none=>rfl
    | some o'=>exact absurd (Heap.lt_size e) (Nat.not_lt.mpr ha)
  generalize eD:s.heap.objs.size=D at hDC hacc hCle below fresh hfl hC ⊢
  generalize eC:H2.objs.size=C at hDC hCle below hC hns₁ hsb₁ ⊢
  have I1:Inv (X.comp scope N' cl C s H fp) [] (inner src σ none) H { s with heap:=h₁,toks:=s.toks+([]:List (Str×Value)).length }:=
    ZmN I S hcl hcl2 (by rw [eD]; exact hCle) hfp (by rw [eD]; exact hfl) ⟨_,hns₁⟩ old rfl rfl
  have stat:∀{H':Hp} {pl:List (Addr×Obj)},(∀p∈pl,p.1=D)→(∀b∈fp,H' b=none)→∀b∈fp,ZiJ (X.comp scope N' cl C s H fp) pl H' b:=fun {H' pl} hp hn b hb=>
    ⟨hn b hb,(below b (hfl b hb)).1,fun z=>by
      rcases List.mem_cons.mp (I.stkSub b z) with q | q
      · exact (hfp b hb).2.1 q
      · exact (hfp b hb).2.2.1 q,.inl hb,fun y c e=>(hfp b hb).2.2.2.2.1 y c (hcl y c (PySem.mem_of_lookup e)),fun p hq=>by
      rw [hp p (by rcases List.mem_append.mp hq with z | z; exact absurd (show p∈([]:List (Addr×Obj)) from z) (by simp); exact z)]
      exact Ne.symm (below b (hfl b hb)).2⟩
  have nD:D∉frs X.stack:=fun z=>by
    rcases List.mem_cons.mp (I.stkSub D z) with q | q
    · have:=I.lt; rw [←q,eD] at this; exact Nat.lt_irrefl _ this
    · exact I.nofs (a:=D) (by rw [eD]; exact Nat.le_refl _) q
  have nC:C∉X.fs:=I.nofs (by rw [eD]; exact hCle)
  have cellD:∀y c,cl.lookup y=some c→c<D:=fun y c e=>by
    obtain ⟨v,q⟩:=I.cell y c (hcl y c (PySem.mem_of_lookup e))
    have:=q.lt
    rw [eD] at this
    exact this
  have loop:∀s₃:Shared,s₃={ s with heap:=h₁,toks:=s.toks+([]:List (Str×Value)).length }→
      codeAny (model X.prog X.w) X.A (.compLoop (.ListComp elt [⟨.Name x px,iter,[],0⟩] scope pos) 0 (.ref it) (.ref D) (compEnvC scope cl C X.env)) (RR (.ref D) C) s₃:=by
    rintro s₃ rfl
    refine Zl3 (fun k s'=>∃(i:Nat) (ys:List V) (its:List Value) (H':Hp) (xo:Option V),Inv (X.comp scope N' cl C s H fp) [] (inner src σ xo) H' s'∧tn i s'.heap∧(∀b∈fp,H' b=none)∧s'.heap.PlainList D its.toArray∧Vals ys its∧H' D=none∧
      Pv i ys H'∧ys.length=i∧i≤n∧k=n+1-i) ?_ (n+1) ⟨0,[],[],H,none,I1,T.keep _ _ _ t0 (fun b _ o e=>old b o e),fun b hb=>(hfp b hb).1,hacc,.nil,I.hok.fresh (by rw [eD]; exact Nat.le_refl _),p0,rfl,Nat.zero_le _,rfl⟩
    rintro k s' ⟨i,ys,its,H',xo,I3,t3,f3,l3,v3,d3,p3,e3,le3,rfl⟩
    by_cases hlt:i<n
    · obtain ⟨go,step⟩:=turn i ys H' hlt p3
      obtain ⟨nn,oD⟩:=id l3
      have I3p:Inv (X.comp scope N' cl C s H fp) [(D,{ cls:=.type "list",data:=.seq its.toArray nn })] (inner src σ xo) H' s':=
        I3.pins_of fun p hp=>by
          have ep:p=(D,{ cls:=.type "list",data:=.seq its.toArray nn }):=by simpa using hp
          subst ep
          exact ⟨oD,d3,hDC,nD,fun v z=>by cases z⟩
      refine thn (T.item (X.comp scope N' cl C s H fp) rfl rfl rfl hcm i _ s' _ H' _ I3p (stat (by simp) f3) t3 go) fun r s4 ⟨u,hr,h4⟩=>?_
      subst hr
      refine thn h4 fun _ s5 ⟨y,H5,I5,r5,y5,st5,fr5⟩=>?_
      have I5':=I5.pinned (stat (by simp) fr5) (T.obj _ _ st5)
      have hg:PG (X.comp scope N' cl C s H fp) (.Name x px) (ZlW 0):=
        Zf5 S.nd (by show N'[0]?=some x; rw [S.names]; rfl) (.inl (lookup_relabel_local S.own)) (.inr (lookup_relabel_local S.own))
      refine wpAny_mono (hg _ s5 _ H5 y u (fun σ2 H2=>σ2=inner src σ (some y)∧H2=H5) I5' r5 ⟨rfl,rfl⟩) (fun _ s6 ⟨σ6,H6,I6,e6,e6'⟩=>?_) fun _ _ z=>False.elim z
      subst e6 e6'
      refine wpAny_mono (helt cl C s H fp _ s6 _ _ _ I6 (step y _ y5)) (fun v s7 ⟨z,H7,I7,r7,q7⟩=>?_) fun _ _ z=>False.elim z
      have o7:=I7.pin (D,{ cls:=.type "list",data:=.seq its.toArray nn }) (by simp)
      have hys:its.toArray.size≤sizeLine:=by
        have:=v3.length
        rw [List.size_toArray]
        omega
      refine wpAny_list_append_plain (hsz:=hys) (items:=its.toArray) (s:=s7) ⟨nn,o7.1⟩ fun h8 hl8 hs8=>?_
      refine ⟨n+1-(i+1),by omega,i+1,ys++[z],its++[v],H7,some y,?_,?_,?_,?_,v3.append (.cons r7 .nil),o7.2.1,q7,by rw [List.length_append,e3]<;>rfl,hlt,rfl⟩
      · have I7':Inv (X.comp scope N' cl C s H fp) [] (inner src σ (some y)) H7 s7:=I7.pins_of fun p hp=>absurd hp (by simp)
        exact I7'.turned (t':=s7.toks) (it:=D) (fun b o hb e=>(hs8.2 b hb).trans e) o7.2.1 hDC (.inr (by show s.heap.objs.size≤D; rw [eD]; exact Nat.le_refl _)) (fun y c e=>Nat.ne_of_lt (cellD y c e)) fun p hp=>absurd (show p∈([]:List (Addr×Obj)) from hp) (by simp)
      · refine T.keep _ _ _ st5 fun b hb o e=>(hs8.2 b (below b (hfl b hb)).2).trans ?_
        exact (I7.pin (b,o) (List.mem_append_right _ (List.mem_append_right _ (Zep hb e)))).1
      · intro b hb
        obtain ⟨o,e,_⟩:=T.obj _ _ st5 b hb
        exact (I7.pin (b,o) (List.mem_append_right _ (List.mem_append_right _ (Zep hb e)))).2.1
      · have:(its++[v]).toArray=its.toArray.push v:=by simp
        rw [this]; exact hl8
    · have ein:i=n:=by omega
      subst ein
      obtain ⟨nn,oD⟩:=id l3
      have I3p:Inv (X.comp scope N' cl C s H fp) [(D,{ cls:=.type "list",data:=.seq its.toArray nn })] (inner src σ xo) H' s':=
        I3.pins_of fun p hp=>by
          have ep:p=(D,{ cls:=.type "list",data:=.seq its.toArray nn }):=by simpa using hp
          subst ep
          exact ⟨oD,d3,hDC,nD,fun v z=>by cases z⟩
      refine thn (T.done (X.comp scope N' cl C s H fp) rfl rfl rfl hcm i _ s' _ H' _ I3p (stat (by simp) f3) t3 (stop ys H' p3)) fun r s4 ⟨hr,I4⟩=>?_
      subst hr
      have o4:=I4.pin (D,{ cls:=.type "list",data:=.seq its.toArray nn }) (by simp)
      have newI:Inv X pins σ (upd H' D (.lst ys)) s4:=I.call' (ch:=fp) I4.os (I4.base.lay d3 (fresh D (Nat.le_refl _))) (I4.hok.lay d3 ⟨by omega,its,nn,v3,o4.1⟩) I4.bare (fun b hb=>
        ⟨(hfp b hb).2.2.2.1,(hfp b hb).2.1,(hfp b hb).2.2.2.2.1,(hfp b hb).2.2.2.2.2⟩)
      obtain ⟨m,hm,_⟩:=I4.loc
      obtain ⟨o,es,ep,ho,hd,_⟩:=id hm
      refine hR D C o ys H' s4 p3 d3 (newI.pins_of fun p hp=>?_) ⟨m,hm⟩ (I.fpOk (by rw [eD]; exact hCle) (by rw [ZS (Ne.symm hDC)]; exact I4.free))
      rcases List.mem_append.mp hp with z | z
      · exact newI.pin p (List.mem_append_right _ z)
      · have ep:p=(C,o):=by simpa using z
        subst ep
        refine ⟨ho,by rw [ZS (Ne.symm hDC)]; exact I4.free,fun z=>?_,nC,fun v z=>?_⟩
        · have:=I.lt
          rw [eD,←z] at this
          exact absurd (Nat.lt_of_lt_of_le this hCle) (Nat.lt_irrefl _)
        · have z':o.data=.cell v:=z
          rw [hd] at z'; cases z'
  exact codeAny_compStart_list (loop _ rfl) (T.self _ 0 _ _ _ (T.keep _ _ _ t0 (fun b _ o e=>old b o e)) (loop _ rfl))
theorem Zwr {sc:Scope} {N:List Str} (S:Za9 scope sc x N N' src) (hsc:X.env.scope=sc) (hN:X.N=N) (hi:PI X (.Name x px) iter wi)
    (helt:∀(cl:List (Str×Addr)) (C:Addr) (s₀:Shared) (H₀:Hp) (fp:List Addr),PE (X.comp scope N' cl C s₀ H₀ fp) elt te) (hcm:X.calm=true:=by rfl) (hs:∀v,foldedSetIterable iter X.env v=pure v:=by intro _; rfl) :
    PE X (.ListComp elt [⟨.Name x px,iter,[],0⟩] scope pos) (tLc wi src te):=by
  subst hsc hN
  intro pins s σ H Q I h
  obtain ⟨cl,hclos,hcl,hcl2⟩:=Zgp (scope:=scope) (env:=X.env) fun y hy hf=>I.ok.has y.1 (.inl (S.free y hy hf))
  rw [eval_ListComp]
  refine wpAny_comprehension_free (use:=none) rfl hs hclos S.kind S.loc ?_
  refine thn (hi pins s σ H _ I h) fun v s1 h1=>thn h1 fun itv s2 h2=>?_
  obtain ⟨it,fp,tn,J,H2,e,I2,T,st2,f2,n,Pv,hn,p0,turn,done⟩:=h2
  subst e
  refine Zq7 I2 hcm S hcl hcl2 T st2 f2 helt hn p0 turn (fun ys H p=>(done ys H p).1) fun D C o ys H' s' p d J' hm ho=>?_
  obtain ⟨m,hm⟩:=hm
  refine ⟨m,hm,fun h' hs'=>?_⟩
  have J2:Inv X pins σ (upd H' D (.lst ys)) s':=J'.pins_of fun q hq=>J'.pin q (List.mem_append_right _ (List.mem_append_left _ hq))
  obtain ⟨f0,f1,f2,f3,f4,f5⟩:=ho
  exact ⟨.ref D,_,J2.turned (t':=s'.toks) (it:=C) (fun b o hb e=>(hs'.2 b hb).trans e) f0 f1 f3 f4 f5,rfl,(done ys H' p).2 D d⟩
theorem Zwl {sc:Scope} {N:List Str} {i:Nat} {y:Str} {py spos:Pos} (hnd:X.N.Nodup) (hi':X.N[i]?=some y) (S:Za9 scope sc x N N' src) (hsc:X.env.scope=sc) (hN:X.N=N) (hi:PI X (.Name x px) iter wi)
    (helt:∀(cl:List (Str×Addr)) (C:Addr) (s₀:Shared) (H₀:Hp) (fp:List Addr),PE (X.comp scope N' cl C s₀ H₀ fp) elt te) (hsw:swapsWith (.ListComp elt [⟨.Name x px,iter,[],0⟩] scope pos) (some (.Name y py)) spos.line X.env=pure true:=by rfl)
    (hy:X.env.scope.names.lookup y=some .local:=by rfl) (hcm:X.calm=true:=by rfl) (hs:∀v,foldedSetIterable iter X.env v=pure v:=by intro _; rfl) :
    PS X (.Assign [.Name y py] (.ListComp elt [⟨.Name x px,iter,[],0⟩] scope pos) spos) (Zsb (tLc wi src te) (ZlW i)):=by
  subst hsc hN
  intro pins s σ H Dn I h
  obtain ⟨cl,hclos,hcl,hcl2⟩:=Zgp (scope:=scope) (env:=X.env) fun y hy hf=>I.ok.has y.1 (.inl (S.free y hy hf))
  rw [exec_Assign_Name_used _ _ _ _ hsw]
  refine wpAny_bind (wpAny_standAt (wpAny_bind ?_))
  show wpAny _ X.A (do let _ ←comprehension (.ListComp elt [⟨.Name x px,iter,[],0⟩] scope pos) scope X.env _ (newList []) false (eval iter X.env) (some (assign (.Name y py) X.env))) _ _ s
  refine wpAny_bind (wpAny_mono (wpAny_comprehension_free (use:=some (assign (.Name y py) X.env)) (Q:=fun _ s'=>SP X pins Dn .next s') rfl hs hclos S.kind S.loc ?_) (fun _ s' hq=>wpAny_pure (wpAny_pure hq)) fun _ _ e=>e)
  refine thn (hi pins s σ H _ I h) fun v s1 h1=>thn h1 fun itv s2 h2=>?_
  obtain ⟨it,fp,tn,J,H2,e,I2,T,st2,f2,n,Pv,hn,p0,turn,done⟩:=h2
  subst e
  refine Zq7 I2 hcm S hcl hcl2 T st2 f2 helt hn p0 turn (fun ys H p=>(done ys H p).1) fun D C o ys H' s' p d J' hm ho=>?_
  show wpAny _ X.A (assign (.Name y py) X.env (.ref D)) _ _ _
  obtain ⟨m,hm⟩:=hm
  have hg:PG X (.Name y py) (ZlW i):=Zf5 hnd hi' (.inl hy) (.inr hy)
  refine thn (hg _ s' σ _ (.ref D) (.ref D) (fun σ2 H3=>σ2=σ.set i (some (.ref D))∧H3=upd H' D (.lst ys)) J' rfl ⟨rfl,rfl⟩) fun _ s6 ⟨σ6,H6,I6,e6,e7⟩=>?_
  subst e6 e7
  have pc:=I6.pin (C,o) (by simp)
  have pc':=J'.pin (C,o) (by simp)
  refine ⟨m,hm.at fun q e=>?_,fun h' hs'=>?_⟩
  · rw [pc'.1] at e; cases e; exact pc.1
  have J2:Inv X pins (σ.set i (some (.ref D))) (upd H' D (.lst ys)) s6:=I6.pins_of fun q hq=>I6.pin q (List.mem_append_right _ (List.mem_append_left _ hq))
  obtain ⟨f0,f1,f2,f3,f4,f5⟩:=ho
  exact ⟨_,_,J2.turned (t':=s6.toks) (it:=C) (fun b o hb e=>(hs'.2 b hb).trans e) f0 f1 f3 f4 f5,(done ys H' p).2 D d⟩
end
end L2
namespace L2
open PySem PySem.Spec PyProof.Rows PySem.SeqAt
section
variable {X:Cx}
theorem Zot {bs:List Bool}:(List.range bs.length).all (fun i=>bs.getD i false)=bs.all id:=by
  induction bs with
  | nil=>rfl
  | cons b r ih=>
    rw [List.length_cons,List.range_succ_eq_map,List.all_cons,List.all_map,List.all_cons]
    have:((fun i=>(b::r).getD i false)∘Nat.succ)=fun i=>r.getD i false:=by funext i; rfl
    rw [this,ih]
    rfl
theorem ZrD (hc:X.calm=true):CallR X (.builtin "all") (fun xs H Q=>∃(p:Addr) (bs:List Bool),xs=[.ref p]∧SqL X.K H p (bs.map V.bl)∧Q (.bl (bs.all id)) H):=by
  intro pins s σ H xs us Q I r h
  obtain ⟨p,bs,rfl,hq,q⟩:=h
  obtain ⟨u,rfl,rx⟩:=ZfX r
  cases rx
  obtain ⟨its,r',pl,hz⟩:=I.list hq
  have hl:=r'.length
  rw [List.length_map] at hl
  refine call_all_walk (wpAny_pyIter_list pl.isList ?_)
  have hne:p≠s.heap.objs.size:=by
    obtain ⟨o,n,e,_⟩:=pl
    exact Nat.ne_of_lt (Heap.lt_size e)
  refine ⟨s.heap.objs.size,_,_,_,_,_,fun i=>bs.getD i false,rfl,Walks.list (A:=X.A.in1) (I.ok.hd hc) _ p hne its.toArray,⟨⟨_,Heap.get?_push_size _ rfl,rfl,rfl⟩,?_⟩,?_,fun h' tk hk=>?_⟩
  · obtain ⟨o,n,e,hc',hd,hs⟩:=pl
    exact ⟨o,Heap.get?_push_of_some _ e,hc',n,hs⟩
  · intro i v s2 Q2 E2 hp q2
    have hp':its[i]?=some v:=by simpa using hp
    have hi:i<bs.length:=by rw [hl]; exact (List.getElem?_eq_some_iff.mp hp').1
    obtain ⟨u,hu,ru⟩:=r'.get (i:=i) (x:=.bl (bs.getD i false)) (by rw [List.getElem?_map,List.getElem?_eq_getElem hi,List.getD_eq_getElem?_getD,List.getElem?_eq_getElem hi]; rfl)
    rw [hp'] at hu; cases hu
    cases ru
    exact wpAny_truthy_bool q2
  · refine ⟨.bl (bs.all id),H,(I.kept (t':=s.toks) fun b o e=>Heap.get?_push_of_some _ e).turned (it:=s.heap.objs.size) (fun b o hb e=>hk b o (by simpa using hb) e) (I.hok.fresh (Nat.le_refl _)) (Nat.ne_of_gt I.lt) (.inr I.sz) (fun x c e z=>?_) (fun q hq z=>?_),?_,q⟩
    · obtain ⟨v,w'⟩:=I.cell x c e
      exact absurd w'.lt (by rw [z]; exact Nat.lt_irrefl _)
    · exact absurd (Heap.lt_size (I.pin q hq).1) (by rw [z]; exact Nat.lt_irrefl _)
    · show Value.bool _=Value.bool _
      rw [List.size_toArray,←hl,Zot]
theorem ZiV {ns:List Int}:∀k,k≤ns.length→preSum (fun i=>ns.getD i 0) k=(ns.take k).sum
  | 0,_=>by simp [preSum]
  | k+1,h=>by
    have hk:k<ns.length:=by omega
    rw [preSum,ZiV k (by omega),List.take_add_one,List.getElem?_eq_getElem hk,List.getD_eq_getElem?_getD,List.getElem?_eq_getElem hk]
    show _=(ns.take k++[ns[k]]).sum
    rw [List.sum_append,List.sum_cons,List.sum_nil,Int.add_zero]
    rfl
theorem ZrB (hc:X.calm=true):CallR X (.builtin "sum") (fun xs H Q=>∃(p:Addr) (ns:List Int),xs=[.ref p]∧SqL X.K H p (ns.map V.int)∧Q (.int ns.sum) H):=by
  intro pins s σ H xs us Q I r h
  obtain ⟨p,ns,rfl,hq,q⟩:=h
  obtain ⟨u,rfl,rx⟩:=ZfX r
  cases rx
  obtain ⟨its,r',pl,hz⟩:=I.list hq
  have hl:=r'.length
  rw [List.length_map] at hl
  refine call_sum_walkG (wpAny_pyIter_list pl.isList ?_)
  have hne:p≠s.heap.objs.size:=by
    obtain ⟨o,n,e,_⟩:=pl
    exact Nat.ne_of_lt (Heap.lt_size e)
  refine ⟨s.heap.objs.size,_,_,_,_,_,fun i=>ns.getD i 0,rfl,Walks.list (A:=X.A.in1) (I.ok.hd hc) _ p hne its.toArray,⟨⟨_,Heap.get?_push_size _ rfl,rfl,rfl⟩,?_⟩,?_,?_,fun h' tk t' hk=>?_⟩
  · obtain ⟨o,n,e,hc',hd,hs⟩:=pl
    exact ⟨o,Heap.get?_push_of_some _ e,hc',n,hs⟩
  · intro b hb
    have hb':b=s.heap.objs.size∨b=p:=by simpa using hb
    rcases hb' with rfl | rfl
    · show _<(s.heap.push _).objs.size
      rw [Heap.size_push]; exact Nat.lt_succ_self _
    · obtain ⟨o,n,e,_⟩:=pl
      show _<(s.heap.push _).objs.size
      rw [Heap.size_push]; exact Nat.lt_succ_of_lt (Heap.lt_size e)
  · intro i v hp
    have hp':its[i]?=some v:=by simpa using hp
    have hi:i<ns.length:=by rw [hl]; exact (List.getElem?_eq_some_iff.mp hp').1
    obtain ⟨u,hu,ru⟩:=r'.get (i:=i) (x:=.int (ns.getD i 0)) (by rw [List.getElem?_map,List.getElem?_eq_getElem hi,List.getD_eq_getElem?_getD,List.getElem?_eq_getElem hi]; rfl)
    rw [hp'] at hu; cases hu
    exact ru
  · refine ⟨.int ns.sum,H,(I.kept (t':=s.toks) fun b o e=>Heap.get?_push_of_some _ e).turned (it:=s.heap.objs.size) (fun b o hb e=>hk b o (by simpa using hb) e) (I.hok.fresh (Nat.le_refl _)) (Nat.ne_of_gt I.lt) (.inr I.sz) (fun x c e z=>?_) (fun q hq z=>?_),⟨t',?_⟩,q⟩
    · obtain ⟨v,w'⟩:=I.cell x c e
      exact absurd w'.lt (by rw [z]; exact Nat.lt_irrefl _)
    · exact absurd (Heap.lt_size (I.pin q hq).1) (by rw [z]; exact Nat.lt_irrefl _)
    · rw [List.size_toArray,←hl,ZiV _ (Nat.le_refl _),List.take_length]
mutual
inductive RdV (K:PySem.W.Frag) (H:Hp):V→PyData→Prop
  | non:RdV K H .non .none
  | bl (b:Bool):RdV K H (.bl b) (.bool b)
  | int (i:Int):RdV K H (.int i) (.int i)
  | str (x:Str):RdV K H (.str x) (.str x)
  | lst {a:Addr} {xs:List V} {ds:List PyData}:SqL K H a xs→RdVs K H xs ds→RdV K H (.ref a) (.list ds)
  | tup {a:Addr} {xs:List V} {ds:List PyData}:SqT K H a xs→RdVs K H xs ds→RdV K H (.ref a) (.tuple ds)
inductive RdVs (K:PySem.W.Frag) (H:Hp):List V→List PyData→Prop
  | nil:RdVs K H [] []
  | cons {x:V} {xs:List V} {d:PyData} {ds:List PyData}:RdV K H x d→RdVs K H xs ds→RdVs K H (x::xs) (d::ds)
end
mutual
theorem RdV.reads {pins:List (Addr×Obj)} {σ:St} {H:Hp} {s:Shared} (I:Inv X pins σ H s):∀{x:V} {d:PyData} {u:Value},RdV X.K H x d→RelV x u→∃as,Reads s.heap u d as
  | _,_,_,.non,r=>by cases r; exact ⟨_,.none⟩
  | _,_,_,.bl b,r=>by cases r; exact ⟨_,.bool b⟩
  | _,_,_,.int i,r=>by obtain ⟨t,rfl⟩:=r; exact ⟨_,.int i t⟩
  | _,_,_,.str x,r=>by obtain ⟨t,rfl⟩:=r; exact ⟨_,.str x t⟩
  | _,_,_,.lst h hs,r=>by
    cases r
    obtain ⟨its,rv,⟨o,n,e,hc,hd,hq⟩,_⟩:=I.list h
    obtain ⟨as,q⟩:=RdVs.reads I hs rv
    exact ⟨_,.list e hc hq (by simpa using q)⟩
  | _,_,_,.tup h hs,r=>by
    cases r
    obtain ⟨its,rv,⟨o,e,hc,n,hq⟩,_⟩:=I.tuple h
    obtain ⟨as,q⟩:=RdVs.reads I hs rv
    exact ⟨_,.tuple e hc hq (by simpa using q)⟩
theorem RdVs.reads {pins:List (Addr×Obj)} {σ:St} {H:Hp} {s:Shared} (I:Inv X pins σ H s):∀{xs:List V} {ds:List PyData} {us:List Value},RdVs X.K H xs ds→Vals xs us→∃as,ReadsAll s.heap us ds as
  | _,_,_,.nil,r=>by cases r; exact ⟨_,.nil⟩
  | _,_,_,.cons h hs,r=>by
    cases r with
    | cons r rr=>
      obtain ⟨as,q⟩:=RdV.reads I h r
      obtain ⟨bs,q2⟩:=RdVs.reads I hs rr
      exact ⟨_,.cons q q2⟩
end
theorem ZuS (hu:X.A.units+64<cLine):OpR X (compareOp .Eq) (fun x y H Q=>∃d e:PyData,RdV X.K H x d∧RdV X.K H y e∧shaped d=true∧shaped e=true∧noMix d e=true∧Q (.bl (same d e)) H):=by
  intro pins s σ H x y v u Q I rx ry h
  obtain ⟨d,e,hd,he,sd,se,hm,q⟩:=h
  obtain ⟨as,ra⟩:=hd.reads I rx
  obtain ⟨bs,rb⟩:=he.reads I ry
  exact eq_dataH_same ra rb sd se hu hm ⟨.bl _,H,I,rfl,q⟩
theorem ZuP (hu:X.A.units+64<cLine):OpR X (compareOp .NotEq) (fun x y H Q=>∃d e:PyData,RdV X.K H x d∧RdV X.K H y e∧shaped d=true∧shaped e=true∧noMix d e=true∧Q (.bl (!same d e)) H):=by
  intro pins s σ H x y v u Q I rx ry h
  obtain ⟨d,e,hd,he,sd,se,hm,q⟩:=h
  obtain ⟨as,ra⟩:=hd.reads I rx
  obtain ⟨bs,rb⟩:=he.reads I ry
  exact ne_dataH_same ra rb sd se hu hm ⟨.bl _,H,I,rfl,q⟩
theorem Zsz:OpR X (compareOp .IsNot) (fun x y H Q=>∃b c:Bool,x=.bl b∧y=.bl c∧Q (.bl (!(b == c))) H):=by
  intro pins s σ H x y v u Q I rx ry h
  obtain ⟨b,c,rfl,rfl,q⟩:=h
  cases rx
  cases ry
  have e:(Value.bool b == Value.bool c)=(b == c):=by cases b<;>cases c<;>rfl
  exact wpAny_isNot_plain rfl ⟨.bl _,H,I,rfl,by rw [e]; exact q⟩
def ZeV (xs:List V) (lo hi st:Option Int):List V:=(sliceRange (sliceBounds lo hi st xs.length).1 (sliceBounds lo hi st xs.length).2.1 (sliceBounds lo hi st xs.length).2.2).filterMap (xs[·]?)
theorem Vals.pick {xs:List V} {us:List Value} (r:Vals xs us):∀ks:List Nat,Vals (ks.filterMap (xs[·]?)) (ks.filterMap (us[·]?))
  | []=>.nil
  | k::ks=>by
    cases e:xs[k]? with
    | none=>
      have e':=r.none_of e
      rw [List.filterMap_cons_none e,List.filterMap_cons_none e']
      exact r.pick ks
    | some x=>
      obtain ⟨u,e',q⟩:=r.get e
      rw [List.filterMap_cons_some e,List.filterMap_cons_some e']
      exact .cons q (r.pick ks)
def ZzK (K:PySem.W.Frag) (te:TE) (tl th ts:TO):TE:=fun σ H Q=>te σ H fun x H1=>tl σ H1 fun l H2=>th σ H2 fun u H3=>ts σ H3 fun st H4=>∃a xs,x=.ref a∧SqL K H4 a xs∧st≠some 0∧(ZeV xs l u st).length≤sizeLine∧
  ∀p,H4 p=none→Q (.ref p) (upd H4 p (.lst (ZeV xs l u st)))
theorem Zn4 {e sp:Expr} {te:TE} {lo hi:Option Expr} {tl th ts:TO} {pos p2:Pos} (he:PE X e te) (hl:PO X lo tl) (hu:PO X hi th) (hs:PO X (some sp) ts):PE X (.Subscript e (.Slice lo hi (some sp) p2) pos) (ZzK X.K te tl th ts):=by
  intro pins s σ H Q I h
  refine Subscript_ (thn (he pins s σ H _ I h) fun v s1 ⟨x,H1,I1,r1,q1⟩=>?_)
  refine wpAny_Slice (thn (hl pins s1 σ H1 _ I1 q1) fun vl s2 ⟨l,H2,I2,pl,q2⟩=>thn (hu pins s2 σ H2 _ I2 q2) fun vu s3 ⟨u,H3,I3,pu,q3⟩=>thn (hs pins s3 σ H3 _ I3 q3) fun vs s4 ⟨st,H4,I4,ps,q4⟩=>?_)
  obtain ⟨a,xs,rfl,hx,h0,hz',q⟩:=q4
  cases r1
  have I5:Inv X pins σ H4 { s4 with heap:=s4.heap.push { cls:=.type "slice",data:=.fields #[vl,vu,vs] } }:=I4.kept (t':=s4.toks) fun b ob q=>Heap.get?_push_of_some _ q
  obtain ⟨its,r,ht,hz⟩:=I5.list hx
  have hlen:=r.length
  show wpAny (model X.prog X.w) X.A (subscriptTail e (.Slice lo hi (some sp) p2) (.ref a) (.ref s4.heap.objs.size)) (EP X pins σ Q) X.xe { s4 with heap:=s4.heap.push { cls:=.type "slice",data:=.fields #[vl,vu,vs] } }
  refine tail_any (ops:=[.ref a,.ref s4.heap.objs.size]) ht.isList.typeIs slot_list_getitem.lookup (wpAny_getItem_list_slice ht.isList (Heap.IsSliceOf.new ..) pl pu ps h0 ?_ (by rw [List.size_toArray]<;>omega)) (by with_unfolding_all rfl)
  have ep:slicePick its.toArray l u st=((sliceRange (sliceBounds l u st xs.length).1 (sliceBounds l u st xs.length).2.1 (sliceBounds l u st xs.length).2.2).filterMap (its[·]?)).toArray:=by
    unfold slicePick
    rw [List.size_toArray,←hlen]
    simp
  rw [ep]
  refine ⟨.ref _,_,I5.laid (t':=s4.toks) (o:=.lst (ZeV xs l u st)) (fun b ob q=>Heap.get?_push_of_some _ q) (Nat.le_refl _) ?_,rfl,q _ (I5.hok.fresh (Nat.le_refl _))⟩
  exact ⟨hz',_,0,r.pick _,Heap.get?_push_size _ rfl⟩
theorem ZgK:fillsNumberSlot (.type "tuple") "mul"=pure false:=
  PySem.fillsNumberSlot_seq (id:="tuple.__mul__") (r:=some (.builtin "tuple.__rmul__")) F.slot_tuple_mul.lookup (by decide +kernel) F.slot_tuple_rmul.lookup (by decide +kernel)
theorem Zjy:seqRepeat? (.type "tuple")=pure (some (.builtin "tuple.__mul__")):=by
  unfold seqRepeat?
  rw [PySem.seqSlot_of (T:="tuple") (name:="__mul__") (id:="tuple.__mul__") F.slot_tuple_mul.lookup (by decide +kernel),PySem.seqSlot_of (T:="tuple") (name:="__rmul__") (id:="tuple.__rmul__") F.slot_tuple_rmul.lookup (by decide +kernel)]
  rfl
end
end L2
namespace L2
open PySem PySem.Spec PyProof.Rows Builtin
theorem Zib (a:Int) (t:Tok) (l:Addr) (items:Array Value) (n:Nat) (dd:Option Addr) (sl:Array (Option Value)) :
    Meets (Builtin.«int.__rmul__» ⟨[.int a t,.ref l],[]⟩) (fun _ R s=>s.heap.get? l=some { cls:=.type "tuple",dict:=dd,data:=.seq items n,slots:=sl }∧R (.ok (.ret Value.notImplemented)) s):=
  .of_wp fun prog w A R s h=>by obtain ⟨hp,g,d,tk,os⟩:=s; obtain ⟨hl,h⟩:=h; wp_walk; exact ⟨_,rfl,h⟩
theorem ZiC (l:Addr) (items:Array Value) (n:Nat) (dd:Option Addr) (sl:Array (Option Value)) (u:Tok) :
    Meets (Builtin.«tuple.__mul__» ⟨[.ref l,.int 1 u],[]⟩) (fun _ R s=>s.heap.get? l=some { cls:=.type "tuple",dict:=dd,data:=.seq items n,slots:=sl }∧R (.ok (.ret (Value.ref l))) s):=
  .of_wp fun prog w A R s h=>by
    obtain ⟨hp,g,d,tk,os⟩:=s; obtain ⟨hl,h⟩:=h
    wp_walk
    exact ⟨_,rfl,h⟩
theorem ZhN (l:Addr) (items:Array Value) (n:Nat) (dd:Option Addr) (sl:Array (Option Value)) (u:Tok) (h0:items.isEmpty=false) :
    Meets (Builtin.«tuple.__mul__» ⟨[.ref l,.int 0 u],[]⟩) (fun _ R s=>s.heap.get? l=some { cls:=.type "tuple",dict:=dd,data:=.seq items n,slots:=sl }∧R (.ok (.ret (Value.ref s.heap.objs.size))) { s with heap:=s.heap.push { cls:=.type "tuple",data:=.seq #[] } }):=
  .of_wp fun prog w A R s h=>by
    obtain ⟨hp,g,d,tk,os⟩:=s; obtain ⟨hl,h⟩:=h
    wp_walk
    exact ⟨_,rfl,h⟩
theorem ZhO (l:Addr) (items:Array Value) (n:Nat) (dd:Option Addr) (sl:Array (Option Value)) (x:Int) (u:Tok) (h0:items.isEmpty=false) (h1:2≤x) (h2:x<1000) (h3:items.size*x≤1000) :
    Meets (Builtin.«tuple.__mul__» ⟨[.ref l,.int x u],[]⟩) (fun _ R s=>s.heap.get? l=some { cls:=.type "tuple",dict:=dd,data:=.seq items n,slots:=sl }∧R (.ok (.ret (Value.ref s.heap.objs.size))) { s with heap:=s.heap.push { cls:=.type "tuple",data:=.seq (List.foldl (fun x1 x2=>x1++x2) #[] (List.replicate x.toNat items)) } }):=
  .of_wp fun prog w A R s h=>by
    obtain ⟨hp,g,d,tk,os⟩:=s; obtain ⟨hl,h⟩:=h
    have c1:¬(decide (x < -(2 ^ 63)) || decide (x≥2 ^ 63))=true:=by rw [decide_eq_false (by omega),decide_eq_false (by omega)]; decide
    have c2:¬(items.isEmpty || x == 1)=true:=by
      have:(x == 1)=false:=by simp; omega
      rw [h0,this]; decide
    have c3:¬(decide (x≤0) || items.isEmpty)=true:=by rw [h0,decide_eq_false (by omega)]; decide
    have c4:¬((items.size:Int)*x > (2 ^ 63-1)/8):=by omega
    have c5:¬Tuple.tupleTooMany ((items.size:Int)*x)=true:=by
      unfold Tuple.tupleTooMany
      rw [decide_eq_false (by rw [sizeLine_eq]; omega)]
      decide
    wp_walk
    rw [if_neg c1]
    wp_walk
    rw [if_neg c2]
    show wpAny (model prog w) A.in1 (if (decide (x≤0) || items.isEmpty)=true then _ else if (items.size:Int)*x > (2 ^ 63-1)/8 then _ else if Tuple.tupleTooMany ((items.size:Int)*x)=true then _ else _) _ _ _
    rw [if_neg c3,if_neg c4,if_neg c5]
    have hz:(List.foldl (fun x1 x2=>x1++x2) #[] (List.replicate x.toNat items)).size≤sizeLine:=by
      have:(List.replicate x.toNat items).foldl (fun x1 x2=>x1++x2) #[]=(List.replicate x.toNat items.toList).flatten.toArray:=by
        have:=Zft items.toList x.toNat []
        simpa using this
      rw [this,List.size_toArray,ZjD,sizeLine_eq]
      have e:items.toList.length=items.size:=by simp
      rw [e]
      have e2:((x.toNat*items.size:Nat):Int)=(items.size:Int)*x:=by
        rw [Int.natCast_mul,Int.mul_comm]
        congr 1
        omega
      omega
    wp_walk
    exact ⟨_,rfl,h⟩
section
variable {X:Cx}
def Zwf (K:PySem.W.Frag):R2:=fun x y H Q=>∃(a:Addr) (k:Int) (xs:List V),x=.ref a∧y=.int k∧SqT K H a xs∧xs≠[]∧0≤k∧k<1000∧(xs.length:Int)*k≤1000∧
  (k=1→Q (.ref a) H)∧(k≠1→∀p,H p=none→Q (.ref p) (upd H p (.tup (List.replicate k.toNat xs).flatten)))
theorem op_repT:OpR X (binaryOp .Mult) (Zwf X.K):=by
  intro pins s σ H x y v u Q I rx ry h
  obtain ⟨a,k,xs,rfl,rfl,hH,hne,h0,h1,h2,q1,q2⟩:=h
  cases rx
  obtain ⟨t,rfl⟩:=ry
  obtain ⟨its,r,pl,hz⟩:=I.tuple hH
  obtain ⟨⟨oc,dd,data,sl⟩,e,hc,n,hd⟩:=pl
  simp only at hc hd
  subst hc hd
  have hl:=r.length
  have he:its.toArray.isEmpty=false:=by
    cases r with
    | nil=>exact absurd rfl hne
    | cons _ _=>rfl
  refine wpAny_binaryOp_repeat_ref (T:="tuple") (U:="int") (by decide) ⟨_,e,rfl⟩ (fun s'=>typeIs_int s' k t) ZgK F.fills_int_mul F.slot_int_rmul Zjy F.slot_int_index.lookup
    (call_meets F.slot_int_rmul (typeIs_int s k t) F.entry_int_rmul (F.args_int_rmul_2 _ _) (Zib k t a its.toArray n dd sl) ⟨e,rfl,⟨_,e,rfl⟩,?_⟩)
  by_cases k1:k=1
  · subst k1
    exact call_meets F.slot_tuple_mul ⟨_,e,rfl⟩ F.entry_tuple_mul (F.args_tuple_mul_2 _ _) (ZiC a its.toArray n dd sl t) ⟨e,.ref a,H,I,rfl,q1 rfl⟩
  · by_cases k0:k=0
    · subst k0
      refine call_meets F.slot_tuple_mul ⟨_,e,rfl⟩ F.entry_tuple_mul (F.args_tuple_mul_2 _ _) (ZhN a its.toArray n dd sl t he) ⟨e,.ref s.heap.objs.size,_,I.laid (t':=s.toks) (o:=.tup []) (fun b ob q=>Heap.get?_push_of_some _ q) (Nat.le_refl _) ?_,rfl,?_⟩
      · exact ⟨Nat.zero_le _,[],.nil,IsTup.new _ _⟩
      · exact q2 k1 _ (I.hok.fresh (Nat.le_refl _))
    · refine call_meets F.slot_tuple_mul ⟨_,e,rfl⟩ F.entry_tuple_mul (F.args_tuple_mul_2 _ _) (ZhO a its.toArray n dd sl k t he (by omega) h1 (by rw [List.size_toArray,←hl]; exact h2)) ⟨e,?_⟩
      have hnew:List.foldl (fun x1 x2=>x1++x2) #[] (List.replicate k.toNat its.toArray)=(List.replicate k.toNat its).flatten.toArray:=by
        have:=Zft its k.toNat []
        rw [List.nil_append] at this
        exact this
      rw [hnew]
      refine ⟨.ref s.heap.objs.size,_,I.laid (t':=s.toks) (o:=.tup (List.replicate k.toNat xs).flatten) (fun b ob q=>Heap.get?_push_of_some _ q) (Nat.le_refl _) ?_,rfl,q2 k1 _ (I.hok.fresh (Nat.le_refl _))⟩
      refine ⟨?_,_,r.rep k.toNat,IsTup.new _ _⟩
      rw [ZjD,sizeLine_eq]
      have e2:((k.toNat*xs.length:Nat):Int)=(xs.length:Int)*k:=by
        rw [Int.natCast_mul,Int.mul_comm]
        congr 1
        omega
      omega
end
end L2
namespace My
open PySem L2
def Zal (t:Int):Int:=if t=0 then 0 else (t-1) % 65535+1
theorem ZjJ {t:Int} (h:0≤t):0≤Zal t∧Zal t≤65535∧(Zal t-t) % 65535=0∧(Zal t=0↔t=0):=by
  unfold Zal; split<;>omega
theorem ZfQ {t:Int} (h:0≤t) (h1:t≤65535):Zal t=t:=by
  unfold Zal; split<;>omega
theorem Zjb {t:Int} (h:65535<t):Zal (t % 65536+t/65536)=Zal t∧0≤t % 65536+t/65536∧t % 65536+t/65536<t:=by
  unfold Zal
  rw [if_neg (by omega),if_neg (by omega)]
  omega
def zm:List Int→Int
  | []=>0
  | [a]=>256*a
  | a::b::r=>256*a+b+zm r
def ZeI:List Int→List Int
  | []=>[]
  | [a]=>[a]
  | a::_::r=>a::ZeI r
def ZhZ:List Int→List Int
  | []=>[]
  | [_]=>[]
  | _::b::r=>b::ZhZ r
theorem ZmU:∀ns:List Int,256*(ZeI ns).sum+(ZhZ ns).sum=zm ns
  | []=>rfl
  | [a]=>by simp [ZeI,ZhZ,zm]
  | a::b::r=>by
    have:=ZmU r
    simp only [ZeI,ZhZ,zm,List.sum_cons]
    omega
theorem ZmS:∀{ns:List Int},(∀z∈ns,0≤z)→0≤zm ns
  | [],_=>by simp [zm]
  | [a],h=>by have:=h a (by simp); simp only [zm]; omega
  | a::b::r,h=>by
    have h1:=h a (by simp)
    have h2:=h b (by simp)
    have h3:=ZmS (ns:=r) fun z hz=>h z (by simp [hz])
    simp only [zm]; omega
theorem ZhL:∀{ns ms:List Int},ns.length % 2=0→zm (ns++ms)=zm ns+zm ms
  | [],ms,_=>by simp [zm]
  | [a],ms,h=>by simp at h
  | a::b::r,ms,h=>by
    have:=ZhL (ns:=r) (ms:=ms) (by simp only [List.length_cons] at h; omega)
    show zm (a::b::(r++ms))=_
    simp only [zm,this]
    omega
theorem ZmJ {w:Int} (h:0≤w):Zal (w+(256*((65535-Zal w)/256)+(65535-Zal w) % 256))=65535:=by
  have e:256*((65535-Zal w)/256)+(65535-Zal w) % 256=65535-Zal w:=by omega
  rw [e]
  unfold Zal
  split<;>split<;>omega
theorem Zdb:∀(m:Nat) (ns:List Int),ns.length≤2*m→((List.range m).map fun k=>2*k).filterMap (fun i=>(ns.map V.int)[i]?)=(ZeI ns).map V.int
  | 0,ns,h=>by
    have:ns=[]:=List.length_eq_zero_iff.mp (by omega)
    subst this; rfl
  | m+1,ns,h=>by
    rw [List.range_succ_eq_map,List.map_cons,List.map_map]
    have shift:∀(xs:List Int),(List.map ((fun k=>2*k)∘Nat.succ) (List.range m)).filterMap (fun i=>(xs.map V.int)[i]?)=((List.range m).map fun k=>2*k).filterMap (fun i=>((xs.drop 2).map V.int)[i]?):=fun xs=>by
      rw [List.filterMap_map,List.filterMap_map]
      congr 1
      funext k
      show (xs.map V.int)[2*(k+1)]?=((xs.drop 2).map V.int)[2*k]?
      rw [List.getElem?_map,List.getElem?_map,List.getElem?_drop]
      congr 2
      omega
    match ns,h with
    | [],_=>
      have:=shift []
      rw [List.filterMap_cons_none (by rfl),this,Zdb m _ (by simp)]
      rfl
    | [a],_=>
      have:=shift [a]
      rw [List.filterMap_cons_some (b:=V.int a) (by rfl),this,Zdb m _ (by simp)]
      rfl
    | a::b::r,h=>
      have:=shift (a::b::r)
      rw [List.filterMap_cons_some (b:=V.int a) (by rfl),this,Zdb m _ (by simp only [List.length_cons] at h; simp; omega)]
      rfl
theorem Znh:∀ns:List Int,ZhZ ns=ZeI (ns.drop 1)
  | []=>rfl
  | [_]=>rfl
  | [_,_]=>rfl
  | _::b::c::r=>by
    have:=Znh (c::r)
    simp only [ZhZ,List.drop,ZeI] at *
    rw [this]
theorem Zon (ns:List Int):ZeV (ns.map V.int) none none (some 2)=(ZeI ns).map V.int:=by
  unfold ZeV sliceBounds sliceRange
  simp only [Option.getD_some,List.length_map,show ((2:Int) > 0)=True from eq_true (by decide),if_true]
  have e:(if (0:Int)<(ns.length:Int) then ((ns.length:Int)-0+2-1)/2 else 0).toNat=(ns.length+1)/2:=by split<;>omega
  rw [e]
  have e2:(fun k:Nat=>((0:Int)+2*(k:Int)).toNat)=fun k=>2*k:=by funext k; omega
  rw [e2]
  exact Zdb _ ns (by omega)
theorem Zrw (ns:List Int):ZeV (ns.map V.int) (some 1) none (some 2)=(ZhZ ns).map V.int:=by
  unfold ZeV sliceBounds sliceRange
  simp only [Option.getD_some,List.length_map,show ((2:Int) > 0)=True from eq_true (by decide),show ((1:Int)<0)=False from eq_false (by decide),if_true,if_false]
  rw [Znh]
  by_cases h:ns.length=0
  · have:ns=[]:=List.length_eq_zero_iff.mp h
    subst this; rfl
  · have e0:max (0:Int) (min 1 (ns.length:Int))=1:=by omega
    rw [e0]
    have e:(if (1:Int)<(ns.length:Int) then ((ns.length:Int)-1+2-1)/2 else 0).toNat=ns.length/2:=by split<;>omega
    rw [e,←Zdb (ns.length/2) (ns.drop 1) (by rw [List.length_drop]; omega),List.filterMap_map,List.filterMap_map]
    congr 1
    funext k
    show (ns.map V.int)[((1:Int)+2*(k:Int)).toNat]?=((ns.drop 1).map V.int)[2*k]?
    rw [List.getElem?_map,List.getElem?_map,List.getElem?_drop]
    congr 2
theorem Zjc:∀ns:List Int,(ZeI ns).length≤ns.length
  | []=>Nat.le_refl _
  | [_]=>Nat.le_refl _
  | _::_::r=>by have:=Zjc r; simp only [ZeI,List.length_cons]; omega
theorem Zlz:∀ns:List Int,(ZhZ ns).length≤ns.length
  | []=>Nat.le_refl _
  | [_]=>Nat.zero_le _
  | _::_::r=>by have:=Zlz r; simp only [ZhZ,List.length_cons]; omega
def wpre (ns:List Int):Nat→Int
  | 0=>0
  | i+1=>wpre ns i+ns.getD i 0*(if i % 2=0 then 256 else 1)
theorem Zlb (a b:Int) (r:List Int):∀i,wpre (a::b::r) (i+2)=256*a+b+wpre r i
  | 0=>by simp [wpre]; omega
  | i+1=>by
    have e:(i+2) % 2=i % 2:=by omega
    rw [wpre,Zlb a b r i]
    show _+r.getD i 0*(if (i+2) % 2=0 then 256 else 1)=256*a+b+(wpre r i+r.getD i 0*(if i % 2=0 then 256 else 1))
    rw [e]
    omega
theorem Zlc:∀ns:List Int,wpre ns ns.length=zm ns
  | []=>rfl
  | [a]=>by simp [wpre,zm]; omega
  | a::b::r=>by
    show wpre (a::b::r) (r.length+2)=_
    rw [Zlb,Zlc r]
    rfl
end My
namespace L2
open PySem PySem.Spec PyProof.Rows
section
variable {κ:Type} [DecidableEq κ]
def valV (kvs:List (κ×V)) (k:κ):Option V:=(kvs.find? fun kv=>decide (kv.1=k)).map (·.2)
def Zhv (kvs:List (κ×V)) (k:κ) (v:V):List (κ×V):=
  if (kvs.any fun kv=>decide (kv.1=k))=true then kvs.map (fun kv=>if kv.1=k then (kv.1,v) else kv) else kvs++[(k,v)]
def ZfG (kvs:List (κ×V)) (k:κ):List (κ×V):=kvs.filter fun kv=>decide (kv.1≠k)
theorem Zld {p:κ×V} {r:List (κ×V)} {k:κ} (e:p.1=k):valV (p::r) k=some p.2:=by simp [valV,List.find?_cons,e]
theorem Zle {p:κ×V} {r:List (κ×V)} {k:κ} (e:¬p.1=k):valV (p::r) k=valV r k:=by simp [valV,List.find?_cons,e]
theorem ZlM (kvs:List (κ×V)) (k:κ) (v:V):(Zhv kvs k v).length≤kvs.length+1:=by
  unfold Zhv
  split
  · rw [List.length_map]; omega
  · rw [List.length_append,List.length_cons,List.length_nil]; omega
theorem RelO.isSome_eq {o:Option V} {u:Option Value} (r:RelO o u):o.isSome=u.isSome:=by
  cases o with
  | none=>cases u with
    | none=>rfl
    | some _=>exact (show False from r).elim
  | some _=>cases u with
    | none=>exact (show False from r).elim
    | some _=>rfl
theorem KV.val {kvs:List (κ×V)} {vs:List (κ×Value)} (r:KV kvs vs) (k:κ):RelO (valV kvs k) (valueAt vs k):=by
  unfold KV at r
  induction r with
  | nil=>exact True.intro
  | @cons p q ps qs h t ih=>
    obtain ⟨h1,h2⟩:=h
    by_cases e:p.1=k
    · have e':q.1=k:=h1.symm.trans e
      have b:valueAt (q::qs) k=some q.2:=by simp [valueAt,List.find?_cons,e']
      rw [Zld e,b]; exact h2
    · have e':¬q.1=k:=fun z=>e (h1.trans z)
      have b:valueAt (q::qs) k=valueAt qs k:=by simp [valueAt,List.find?_cons,e']
      rw [Zle e,b]; exact ih
theorem KV.any {kvs:List (κ×V)} {vs:List (κ×Value)} (r:KV kvs vs) (k:κ):(kvs.any fun kv=>decide (kv.1=k))=vs.any fun kv=>decide (kv.1=k):=by
  unfold KV at r
  induction r with
  | nil=>rfl
  | cons h t ih=>rw [List.any_cons,List.any_cons,ih,h.1]
theorem KV.repl {kvs:List (κ×V)} {vs:List (κ×Value)} (r:KV kvs vs) (k:κ) {y:V} {u:Value} (ry:RelV y u) :
    KV (kvs.map fun kv=>if kv.1=k then (kv.1,y) else kv) (vs.map fun kv=>if kv.1=k then (kv.1,u) else kv):=by
  unfold KV at r ⊢
  induction r with
  | nil=>exact .nil
  | @cons p q ps qs h t ih=>
    rw [List.map_cons,List.map_cons]
    refine .cons ?_ ih
    obtain ⟨h1,h2⟩:=h
    by_cases e:p.1=k
    · rw [if_pos e,if_pos (h1.symm.trans e)]; exact ⟨h1,ry⟩
    · rw [if_neg e,if_neg (fun z=>e (h1.trans z))]; exact ⟨h1,h2⟩
theorem KV.put {kvs:List (κ×V)} {vs:List (κ×Value)} (r:KV kvs vs) (k:κ) {y:V} {u:Value} (ry:RelV y u):KV (Zhv kvs k y) (stored vs k u):=by
  unfold Zhv stored
  rw [r.any k]
  by_cases e:(vs.any fun kv=>decide (kv.1=k))=true
  · rw [if_pos e,if_pos e]; exact r.repl k ry
  · rw [if_neg e,if_neg e]; exact Paired.snoc r ⟨rfl,ry⟩
theorem KV.drop {kvs:List (κ×V)} {vs:List (κ×Value)} (r:KV kvs vs) (k:κ):KV (ZfG kvs k) (without vs k):=by
  unfold KV at r ⊢
  unfold ZfG without
  induction r with
  | nil=>exact .nil
  | @cons p q ps qs h t ih=>
    obtain ⟨h1,h2⟩:=h
    rw [List.filter_cons,List.filter_cons]
    by_cases e:p.1=k
    · have a:¬decide (p.1≠k)=true:=by simp [e]
      have b:¬decide (q.1≠k)=true:=by simp [h1.symm.trans e]
      rw [if_neg a,if_neg b]; exact ih
    · have e':¬q.1=k:=fun z=>e (h1.trans z)
      have a:decide (p.1≠k)=true:=by simp [e]
      have b:decide (q.1≠k)=true:=by simp [e']
      rw [if_pos a,if_pos b]; exact .cons ⟨h1,h2⟩ ih
theorem KV.length {kvs:List (κ×V)} {vs:List (κ×Value)} (r:KV kvs vs):kvs.length=vs.length:=Paired.length r
theorem ZlZ (kvs:List (κ×V)) (k:κ):(ZfG kvs k).length≤kvs.length:=List.length_filter_le _ _
end
theorem ZlP {P:Program} {w:World} {k:Key} {u:Value} (r:RelV (kV k) u):(ZaN P w).is k u=true:=by
  cases k with
  | inl i=>obtain ⟨t,e⟩:=(show ∃t,u=Value.int i t from r); subst e; exact ZlG P w i t
  | inr x=>obtain ⟨t,e⟩:=(show ∃t,u=Value.str x t from r); subst e; exact ZlF P w x t
theorem Zja {P:Program} {w:World}:∀{ks:List Key} {us:List Value},Vals (ks.map kV) us→ItemsAre (ZaN P w) ks us
  | [],_,r=>by rw [List.map_nil] at r; cases r; exact .nil
  | k::ks,_,r=>by
    rw [List.map_cons] at r
    cases r with
    | cons h t=>exact .cons (ZlP h) (Zja t)
abbrev KT (H:Hp):List (List Key×V)→List (List Key×Addr×Value)→Prop:=Paired fun p q=>p.1=q.1∧H q.2.1=some (.tup (p.1.map kV))∧RelV p.2 q.2.2
theorem KT.val {H:Hp} {kvs:List (List Key×V)} {xs:List (List Key×Addr×Value)} (r:KT H kvs xs) (k:List Key):RelO (valV kvs k) ((atKey xs k).map (·.2)):=by
  induction r with
  | nil=>exact True.intro
  | @cons p q ps qs h t ih=>
    obtain ⟨h1,_,h2⟩:=h
    by_cases e:p.1=k
    · have e':q.1=k:=h1.symm.trans e
      have b:atKey (q::qs) k=some q.2:=by simp [atKey,List.find?_cons,e']
      rw [Zld e,b]; exact h2
    · have e':¬q.1=k:=fun z=>e (h1.trans z)
      have b:atKey (q::qs) k=atKey qs k:=by simp [atKey,List.find?_cons,e']
      rw [Zle e,b]; exact ih
section
variable {P:Program} {w:World} {H:Hp} {h:Heap} {a:Addr}
theorem Ztt {u:HO} (ok:HOk P w H h) (e:Rd H a u):ObjOk P w H h a u:=e.ok ok
theorem Zrt {kvs:List (Key×V)} (ok:HOk P w H h) (e:Rd H a (.dK kvs)):kvs.length≤sizeLine∧(a == sysModules)=false∧∃vs,KV kvs vs∧h.DictOf (ZaN P w) a vs:=
  show ObjOk P w H h a (.dK kvs) from Ztt ok e
theorem Zru {kvs:List (Key×V)} (ok:HOk P w H h) (e:H a=some (.dK kvs)):kvs.length≤sizeLine∧(a == sysModules)=false∧∃vs,KV kvs vs∧h.DictOf (ZaN P w) a vs:=Zrt ok (.inl e)
theorem Zq9 {ks:List Key} (ok:HOk P w H h) (e:H a=some (.tup (ks.map kV))):(tupleKind (ZaN P w)).is h ks a:=by
  obtain ⟨_,its,r,o,h1,h2,n,h3⟩:=(show ObjOk P w H h a (.tup (ks.map kV)) from ok a _ e)
  exact ⟨o,its.toArray,n,h1,h2,h3,by simpa using Zja r⟩
theorem ZtG {kvs:List (List Key×V)} (ok:HOk P w H h) (e:Rd H a (.dT kvs)):kvs.length≤sizeLine∧(a == sysModules)=false∧
    ∃xs,KT H kvs xs∧h.DictOfH (tupleKind (ZaN P w)) a xs:=by
  obtain ⟨z,y,xs,r,o,es,ep,h1,h2,h3,h4,h5⟩:=(show ObjOk P w H h a (.dT kvs) from Ztt ok e)
  refine ⟨z,y,xs,r,o,es,ep,h1,h2,h3,h4,fun x hx=>?_,h5⟩
  have all:∀{l:List (List Key×V)} {m:List (List Key×Addr×Value)},KT H l m→∀x∈m,(tupleKind (ZaN P w)).is h x.1 x.2.1:=by
    intro l m q
    induction q with
    | nil=>intro x hx; exact nomatch hx
    | @cons p q ps qs hq t ih=>
      intro x hx
      rcases List.mem_cons.mp hx with e | hx
      · subst e
        exact Zq9 ok (by rw [←hq.1]; exact hq.2.1)
      · exact ih x hx
  exact all r x hx
end
def DGet (H:Hp) (a:Addr) (y:V) (r:Option V):Prop:=
  (∃kvs k,Rd H a (.dK kvs)∧y=kV k∧r=valV kvs k)∨∃kvs k b,Rd H a (.dT kvs)∧y=.ref b∧H b=some (.tup (k.map kV))∧r=valV kvs k
theorem DGet.k {H:Hp} {a:Addr} {kvs:List (Key×V)} {k:Key} (e:H a=some (.dK kvs)):DGet H a (kV k) (valV kvs k):=.inl ⟨kvs,k,.inl e,rfl,rfl⟩
section
variable {X:Cx} {pins:List (Addr×Obj)} {σ:St} {H:Hp} {s:Shared} {a:Addr} {y v:V} {u r:Value} {o:Option V} {A:Around} {E:Value→Shared→Prop}
theorem Inv.big (I:Inv X pins σ H s):sysModules<s.heap.objs.size:=by
  have h:mainGlobals<s.heap.objs.size:=(I.mod.glob.keeps I.bk).lt
  exact Nat.lt_trans (by decide) h
theorem ZAx {Q:Value→Shared→Prop} (hu:A.units+1<cLine) (I:Inv X pins σ H s) (g:DGet H a y o) (ry:RelV y u) (h:∀s',Inv X pins σ H s'→Q (.bool o.isSome) s') :
    wpAny (model X.prog X.w) A (compareOp .In u (.ref a)) Q E s:=by
  rcases g with ⟨kvs,k,e,ey,l⟩ | ⟨kvs,k,b,e,ey,eb,l⟩
  · subst ey
    obtain ⟨z,hd,vs,rel,dd⟩:=Zrt I.hok e
    refine wpAny_in_of (ZlP ry) hd dd.mapOf ?_
    rw [←(rel.val k).isSome_eq,←l]
    exact h _ (I.tok _)
  · subst ey
    cases (show u=Value.ref b from ry)
    obtain ⟨z,hd,xs,rel,dd⟩:=ZtG I.hok e
    refine wpAny_in_heap (tupleKind_room_in1 hu) (Zq9 I.hok eb) hd dd ?_
    have q:=(rel.val k).isSome_eq
    rw [Option.isSome_map] at q
    rw [←q,←l]
    exact h _ (I.tok _)
theorem ZjK {h':Heap} {t':Nat} {ob:HO} (I:Inv X pins σ H s) (mu:Mut (H a)) (hs:Heap.SameBut a s.heap h') (he:∃q,h'.get? a=some q) (new:ObjOk X.prog X.w (upd H a ob) h' a ob) :
    Inv X pins σ (upd H a ob) { s with heap:=h',toks:=t' }:=
  I.write (x:=a) (e:=a) mu (.inl rfl) (fun b q hb z=>(hs.2 b hb).trans z) he new
theorem ZmM {P:Program} {w:World} {H':Hp} {h':Heap} {kvs:List (Key×V)} {vs:List (Key×Value)} (z:kvs.length≤sizeLine) (hd:(a == sysModules)=false) (rel:KV kvs vs) (dd:h'.DictOf (ZaN P w) a vs) :
    ObjOk P w H' h' a (.dK kvs):=⟨z,hd,vs,rel,dd⟩
end
section
variable {X:Cx} {pins:List (Addr×Obj)} {σ:St} {H:Hp} {s:Shared} {a:Addr} {kvs:List (Key×V)} {k:Key} {u:Value} {A:Around} {E:Value→Shared→Prop}
theorem ZvF {Q:Unit→Shared→Prop} (I:Inv X pins σ H s) (e:H a=some (.dK kvs)) (ry:RelV (kV k) u) (l:(valV kvs k).isSome=true) (h:∀s',Inv X pins σ (upd H a (.dK (ZfG kvs k))) s'→Q () s') :
    wpAny (model X.prog X.w) A (delItem (.ref a) u) Q E s:=by
  obtain ⟨z,hd,vs,rel,dd⟩:=Zru I.hok e
  refine wpAny_delItem_slot dd.typeIs (by decide) PySem.F.slot_dict_delitem
    (call_meetsIn PySem.F.slot_dict_delitem dd.typeIs PySem.F.entry_dict_delitem (PySem.F.args_dict_delitem_2 _ _) (meets_dict_delitem_pairs (ZaN X.prog X.w) a (ZlP ry)) ⟨vs,dd,by rw [←rel.length]; exact z,by rw [←(rel.val k).isSome_eq]; exact l,fun h' dd' hs=>h _ ?_⟩)
  have he:∃q,h'.get? a=some q:=let ⟨q,_,_,hq,_⟩:=dd'; ⟨q,hq⟩
  exact ZjK I (by rw [e]; exact True.intro) hs he (ZmM (Nat.le_trans (ZlZ kvs k) z) hd (rel.drop k) dd')
theorem Zw0 {v:V} {more:List Value} {Q:Value→Shared→Prop} (I:Inv X pins σ H s) (e:H a=some (.dK kvs)) (ry:RelV (kV k) u) (l:valV kvs k=some v) (hm:more=[]∨∃x,more=[x])
    (h:∀w' s',Inv X pins σ (upd H a (.dK (ZfG kvs k))) s'→RelV v w'→Q w' s'):wpAny (model X.prog X.w) A (call (.builtin "dict.pop") (.ref a::u::more)) Q E s:=by
  obtain ⟨z,hd,vs,rel,dd⟩:=Zru I.hok e
  obtain ⟨w',hw,rw'⟩:=RelO.some_of (v:=v) (o:=valueAt vs k) (by rw [←l]; exact rel.val k)
  have hp:(keyPart u).isSome=true:=by
    cases k with
    | inl i=>obtain ⟨t,q⟩:=(show ∃t,u=Value.int i t from ry); subst q; rfl
    | inr x=>obtain ⟨t,q⟩:=(show ∃t,u=Value.str x t from ry); subst q; rfl
  have ha:argsOk "dict.pop" ⟨.ref a::u::more,[]⟩:=by
    rcases hm with q | ⟨x,q⟩
    · subst q; exact PySem.F.args_dict_pop_2 _ _
    · subst q; exact PySem.F.args_dict_pop_3 _ _ _
  refine call_meetsIn PySem.F.slot_dict_pop dd.typeIs PySem.F.entry_dict_pop ha (meets_dict_pop_there (ZaN X.prog X.w) a (ZlP ry) more hm hp)
    ⟨vs,w',dd,by rw [←rel.length]; exact z,hw,fun h' dd' hs=>h w' _ ?_ rw'⟩
  have he:∃q,h'.get? a=some q:=let ⟨q,_,_,hq,_⟩:=dd'; ⟨q,hq⟩
  exact ZjK I (by rw [e]; exact True.intro) hs he (ZmM (Nat.le_trans (ZlZ kvs k) z) hd (rel.drop k) dd')
end
def Zv6 (ty td:TE):TE:=fun σ H Q=>ty σ H fun y H1=>td σ H1 fun x H2=>∃a o,x=.ref a∧DGet H2 a y o∧Q (.bl o.isSome) H2
section
variable {X:Cx} {o i e value:Expr} {pos pos' tpos:Pos} {td ty tv:TE}
theorem ZuL (hu:X.A.units+1<cLine) (hi:PE X i ty) (ho:PE X o td):PC X .In i o (Zv6 ty td):=by
  intro pins s σ H Q I h
  refine thn (hi pins s σ H _ I h) fun iv s1 ⟨y,H1,I1,ry,q1⟩=>thn (ho pins s1 σ H1 _ I1 q1) fun u s2 ⟨x,H2,I2,rx,a,ov,ex,g,q2⟩=>?_
  subst ex
  obtain rfl:u=Value.ref a:=rx
  exact ZAx hu I2 g ry fun s3 I3=>⟨.bl ov.isSome,H2,I3,rfl,q2⟩
end
theorem Zrv {P:Program} {w:World} {H:Hp} (h:Heap) (hb:sysModules<h.objs.size):ObjOk P w H (h.push { cls:=.type "dict",data:=.dict #[] }) h.objs.size (.dK []):=
  ⟨Nat.zero_le _,beq_eq_false_iff_ne.mpr (Ne.symm (Nat.ne_of_lt hb)),[],.nil,Heap.DictOf.new h⟩
def Zug:TE:=fun _ H Q=>∀p,H p=none→Q (.ref p) (upd H p (.dK []))
section
variable {X:Cx} {pos:Pos}
theorem ZqA:PE X (.Dict [] [] pos) Zug:=fun pins s σ H Q I h=>
  wpAny_Dict_empty ⟨.ref s.heap.objs.size,_,I.laid (a:=s.heap.objs.size) (o:=.dK []) (t':=s.toks) (fun _ _ q=>Heap.get?_push_of_some _ q) (Nat.le_refl _) (Zrv s.heap I.big),rfl,h _ (I.hok.fresh (Nat.le_refl _))⟩
end
def Zqb:List (TE×TE)→St→Hp→(List (V×V)→Hp→Prop)→Prop
  | [],_,H,Q=>Q [] H
  | (tk,tv)::r,σ,H,Q=>tk σ H fun x H1=>tv σ H1 fun y H2=>Zqb r σ H2 fun ps H3=>Q ((x,y)::ps) H3
abbrev VV:List (V×V)→List (Value×Value)→Prop:=Paired fun p q=>RelV p.1 q.1∧RelV p.2 q.2
def PPs (X:Cx) (pos:Pos) (keys:List (Option Expr)) (values:List Expr) (trs:List (TE×TE)):Prop:=
  ∀(pins:List (Addr×Obj)) (s:Shared) (σ:St) (H:Hp) (Q:List (V×V)→Hp→Prop),Inv X pins σ H s→Zqb trs σ H Q→
    wpAny (model X.prog X.w) X.A (evalPairs (pairTrees keys values X.env pos)) (fun vs s'=>∃ps H',Inv X pins σ H' s'∧VV ps vs∧Q ps H') X.xe s
def Zu0 (kvs more:List (Key×V)):List (Key×V):=more.foldl (fun acc kv=>Zhv acc kv.1 kv.2) kvs
structure M1 (X:Cx) (o:Expr) (m:Str) (apos:Pos) (e:Expr) (cpos:Pos):Prop where
  base:attributeBase o m X.env (eval o X.env)=eval o X.env
  few:((backTo cpos (starEach [e] X.env)).all (fun x=>!x.1) && (backToKw cpos (keywordEach [] X.env)).all (fun x=>x.1.isSome)
    && decide (([e]:List Expr).length+([]:List Keyword).length+(if ([]:List Keyword).isEmpty then 0 else 1)<30))=true
  line:(apos.endLine == cpos.line)=true
  trees:backTo cpos (starEach [e] X.env)=[(false,eval e X.env)]
structure M2 (X:Cx) (o:Expr) (m:Str) (apos:Pos) (e f:Expr) (cpos:Pos):Prop where
  base:attributeBase o m X.env (eval o X.env)=eval o X.env
  few:((backTo cpos (starEach [e,f] X.env)).all (fun x=>!x.1) && (backToKw cpos (keywordEach [] X.env)).all (fun x=>x.1.isSome)
    && decide (([e,f]:List Expr).length+([]:List Keyword).length+(if ([]:List Keyword).isEmpty then 0 else 1)<30))=true
  line:(apos.endLine == cpos.line)=true
  trees:backTo cpos (starEach [e,f] X.env)=[(false,eval e X.env),(false,eval f X.env)]
def IsD (H:Hp) (a:Addr):Prop:=(∃kvs,Rd H a (.dK kvs))∨∃kvs,Rd H a (.dT kvs)
theorem Zrb {X:Cx} {pins:List (Addr×Obj)} {σ:St} {H:Hp} {s:Shared} {a:Addr} (I:Inv X pins σ H s) (d:IsD H a) :
    s.TypeIs (.ref a) "dict"∧(∀b,Value.ref a=.ref b→∃ob,s.heap.get? b=some ob∧ob.dict=none)∧(a == sysModules)=false:=by
  rcases d with ⟨kvs,e⟩ | ⟨kvs,e⟩
  · obtain ⟨_,hd,vs,_,dd⟩:=Zrt I.hok e
    refine ⟨dd.typeIs,fun b q=>?_,hd⟩
    cases q
    obtain ⟨ob,_,_,h1,h2,_⟩:=dd
    exact ⟨ob,h1,h2.2.1⟩
  · obtain ⟨_,hd,xs,_,dd⟩:=ZtG I.hok e
    refine ⟨dd.typeIs,fun b q=>?_,hd⟩
    cases q
    obtain ⟨ob,_,_,h1,h2,_⟩:=dd
    exact ⟨ob,h1,h2.2.1⟩
section
variable {X:Cx} {pins:List (Addr×Obj)} {σ:St} {H:Hp} {s:Shared} {a:Addr} {y d:V} {u r:Value} {o:Option V} {A:Around} {E:Value→Shared→Prop}
end
def Zuf (td ty:TE):TE:=fun σ H Q=>td σ H fun x H1=>∃a,x=.ref a∧IsD H1 a∧ty σ H1 fun y H2=>∃kvs k v,H2 a=some (.dK kvs)∧y=kV k∧valV kvs k=some v∧Q v (upd H2 a (.dK (ZfG kvs k)))
section
variable {X:Cx} {o e f:Expr} {apos cpos:Pos} {td ty tx:TE}
theorem Zqz (ho:PE X o td) (he:PE X e ty) (m:M1 X o "pop" apos e cpos):PE X (.Call (.Attribute o "pop" apos) [e] [] cpos) (Zuf td ty):=by
  intro pins s σ H Q I h
  refine wpAny_Call_method m.base m.few m.line PySem.F.plainAttrs_dict PySem.F.slot_dict_pop PySem.F.type_dict_pop (thn (ho pins s σ H _ I h) fun u s1 ⟨x,H1,I1,rx,a,ex,d,q1⟩=>?_)
  subst ex
  obtain rfl:u=Value.ref a:=rx
  obtain ⟨t1,t2,_⟩:=Zrb I1 d
  refine ⟨t1,t2,?_⟩
  rw [m.trees]
  refine Calls.callWith_builtin rfl (Calls.evalArgs_plain (Calls.spliced_cons (thn (he pins s1 σ H1 _ I1 q1) fun iv s2 ⟨y,H2,I2,ry,kvs,k,v,ea,ey,l,q2⟩=>Calls.spliced_nil ?_)))
  subst ey
  exact Zw0 I2 ea ry l (.inl rfl) fun w' s3 I3 rw'=>⟨v,_,I3,rw',q2⟩
end
section
variable {X:Cx} {pins:List (Addr×Obj)} {σ:St} {H:Hp} {s:Shared} {a:Addr} {kvs:List (Key×V)} {A:Around} {E:Value→Shared→Prop}
end
section
variable {X:Cx} {pins:List (Addr×Obj)} {σ:St} {H:Hp} {s:Shared} {a:Addr} {y:V} {u:Value} {A:Around} {E:Value→Shared→Prop}
end
end L2
namespace L2.MM
open PySem PySem.Spec PyProof.Rows
theorem nr {α:Sort _} {a b:α} (h:a=b):a=b:=h
inductive D where
  | non | bl (b:Bool) | int (i:Int) | str (x:Str) | ty (n:String)
  | scr (ns:List Int) | tup (xs:List D) | lst (xs:List D) | ref (l:Nat)
  deriving Inhabited
inductive Cell where
  | lst (xs:List D) | dK (kvs:List (Key×D)) | dT (kvs:List (List Key×D)) | ins (C:Str) (fs:List (Str×D))
abbrev Sto:=List Cell
structure Bx where
  n:Nat
  m:Nat→Addr
  F:Addr→Prop
  os:List Addr
  ks:Addr→List Int→Prop
def Bx.ok (B:Bx) (a:Addr):Prop:=(∀i,i<B.n→B.m i≠a)∧¬B.F a∧a∉B.os
mutual
def RepV (B:Bx) (H:Hp):D→V→Prop
  | .non,v=>v=.non
  | .bl b,v=>v=.bl b
  | .int i,v=>v=.int i
  | .str x,v=>v=.str x
  | .ty n,v=>v=.ty n
  | .scr ns,v=>∃a,v=.ref a∧((∃o,H a=some (.frz o (.lst (ns.map V.int)))∧B.ok a)∨B.ks a ns)
  | .tup xs,v=>∃a vs,v=.ref a∧H a=some (.tup vs)∧B.ok a∧RepL B H xs vs
  | .lst xs,v=>∃a vs,v=.ref a∧H a=some (.lst vs)∧B.ok a∧RepL B H xs vs
  | .ref l,v=>l<B.n∧v=.ref (B.m l)
def RepL (B:Bx) (H:Hp):List D→List V→Prop
  | [],vs=>vs=[]
  | d::ds,vs=>∃v r,vs=v::r∧RepV B H d v∧RepL B H ds r
end
abbrev RepKV {κ:Type} (B:Bx) (H:Hp):List (κ×D)→List (κ×V)→Prop:=Paired fun p q=>p.1=q.1∧RepV B H p.2 q.2
structure ExtS (B B':Bx) (H H':Hp):Prop where
  n:B.n≤B'.n
  m:∀i,i<B.n→B'.m i=B.m i
  fr:∀i,B.n≤i→i<B'.n→H (B'.m i)=none
  keep:∀a o,H a=some o→(∀i,i<B.n→B.m i≠a)→a∉B.os→H' a=some o
  sm:∀a,H a≠none→H' a≠none
  os:∀a,a∈B'.os→a∈B.os∨H a=none
  F:B'.F=B.F
  ks:B'.ks=B.ks
structure ExtE (B B':Bx) (H H':Hp):Prop extends ExtS B B' H H' where
  osE:B'.os=B.os
  ko:∀a o,a∈B.os→(∀i,i<B.n→B.m i≠a)→H a=some o→H' a=some o
theorem ExtS.refl (B:Bx) (H:Hp):ExtS B B H H:=⟨Nat.le_refl _,fun _ _=>rfl,fun i h h'=>absurd h' (Nat.not_lt.mpr h),fun _ _ h _ _=>h,fun _ h=>h,fun _ h=>.inl h,rfl,rfl⟩
theorem ExtE.refl (B:Bx) (H:Hp):ExtE B B H H:=⟨ExtS.refl B H,rfl,fun _ _ _ _ h=>h⟩
section
variable {B B' B'':Bx} {H H' H'':Hp}
theorem Bx.ok.ext {a:Addr} {o:HO} (k:B.ok a) (E:ExtS B B' H H') (h:H a=some o):B'.ok a∧H' a=some o:=by
  refine ⟨⟨fun i hi e=>?_,by rw [E.F]; exact k.2.1,fun z=>?_⟩,E.keep a o h k.1 k.2.2⟩
  · by_cases q:i<B.n
    · rw [E.m i q] at e; exact k.1 i q e
    · have:=E.fr i (Nat.not_lt.mp q) hi
      rw [e,h] at this; cases this
  · rcases E.os a z with z | z
    · exact k.2.2 z
    · rw [h] at z; cases z
theorem ExtS.trans (E:ExtS B B' H H') (E':ExtS B' B'' H' H''):ExtS B B'' H H'' where
  n:=Nat.le_trans E.n E'.n
  m:=fun i hi=>(E'.m i (Nat.lt_of_lt_of_le hi E.n)).trans (E.m i hi)
  fr:=fun i h1 h2=>by
    by_cases q:i<B'.n
    · rw [E'.m i q]; exact E.fr i h1 q
    · cases z:H (B''.m i) with
      | none=>rfl
      | some o=>exact absurd (E'.fr i (Nat.not_lt.mp q) h2) (E.sm _ (by rw [z]; simp))
  keep:=fun a o h h1 h2=>by
    have h':=E.keep a o h h1 h2
    refine E'.keep a o h' (fun i hi e=>?_) (fun z=>?_)
    · by_cases q:i<B.n
      · rw [E.m i q] at e; exact h1 i q e
      · have:=E.fr i (Nat.not_lt.mp q) hi
        rw [e,h] at this; cases this
    · rcases E.os a z with z | z
      · exact h2 z
      · rw [h] at z; cases z
  sm:=fun a h=>E'.sm a (E.sm a h)
  os:=fun a h=>by
    rcases E'.os a h with z | z
    · exact E.os a z
    · right
      cases q:H a with
      | none=>rfl
      | some o=>exact absurd z (E.sm a (by rw [q]; simp))
  F:=E'.F.trans E.F
  ks:=E'.ks.trans E.ks
theorem ExtE.trans (E:ExtE B B' H H') (E':ExtE B' B'' H' H''):ExtE B B'' H H'' where
  toExtS:=E.toExtS.trans E'.toExtS
  osE:=E'.osE.trans E.osE
  ko:=fun a o ha h1 h=>by
    have h':=E.ko a o ha h1 h
    refine E'.ko a o (by rw [E.osE]; exact ha) (fun i hi e=>?_) h'
    by_cases q:i<B.n
    · rw [E.m i q] at e; exact h1 i q e
    · have:=E.fr i (Nat.not_lt.mp q) hi
      rw [e,h] at this; cases this
mutual
theorem RepV.ext (E:ExtS B B' H H'):∀{d:D} {v:V},RepV B H d v→RepV B' H' d v
  | .non,_,h=>h
  | .bl _,_,h=>h
  | .int _,_,h=>h
  | .str _,_,h=>h
  | .ty _,_,h=>h
  | .scr _,_,h=>by
    obtain ⟨a,e,h⟩:=h
    refine ⟨a,e,?_⟩
    rcases h with ⟨o,h,k⟩ | h
    · obtain ⟨k',h'⟩:=k.ext E h
      exact .inl ⟨o,h',k'⟩
    · exact .inr (by rw [E.ks]; exact h)
  | .tup _,_,h=>by
    obtain ⟨a,vs,e,h,k,l⟩:=h
    obtain ⟨k',h'⟩:=k.ext E h
    exact ⟨a,vs,e,h',k',RepL.ext E l⟩
  | .lst _,_,h=>by
    obtain ⟨a,vs,e,h,k,l⟩:=h
    obtain ⟨k',h'⟩:=k.ext E h
    exact ⟨a,vs,e,h',k',RepL.ext E l⟩
  | .ref l,_,h=>⟨Nat.lt_of_lt_of_le h.1 E.n,by rw [h.2,E.m l h.1]⟩
theorem RepL.ext (E:ExtS B B' H H'):∀{ds:List D} {vs:List V},RepL B H ds vs→RepL B' H' ds vs
  | [],_,h=>h
  | _::_,_,h=>by
    obtain ⟨v,r,e,hv,hr⟩:=h
    exact ⟨v,r,e,RepV.ext E hv,RepL.ext E hr⟩
end
theorem RepL.len:∀{ds:List D} {vs:List V},RepL B H ds vs→vs.length=ds.length
  | [],_,h=>by cases (show _=[] from h); rfl
  | _::_,_,h=>by
    obtain ⟨v,r,rfl,_,hr⟩:=h
    simp [RepL.len hr]
theorem RepL.app:∀{ds es:List D} {vs us:List V},RepL B H ds vs→RepL B H es us→RepL B H (ds++es) (vs++us)
  | [],_,_,_,h,q=>by cases (show _=[] from h); exact q
  | _::_,_,_,_,h,q=>by
    obtain ⟨v,r,rfl,hv,hr⟩:=h
    exact ⟨v,_,rfl,hv,RepL.app hr q⟩
theorem RepL.get:∀{ds:List D} {vs:List V} {i:Nat} {d:D},RepL B H ds vs→ds[i]?=some d→∃v,vs[i]?=some v∧RepV B H d v
  | [],_,_,_,_,e=>by simp at e
  | _::_,_,0,_,h,e=>by
    obtain ⟨v,r,rfl,hv,_⟩:=h
    simp at e; subst e
    exact ⟨v,rfl,hv⟩
  | _::_,_,i+1,_,h,e=>by
    obtain ⟨v,r,rfl,_,hr⟩:=h
    obtain ⟨w,q1,q2⟩:=RepL.get (i:=i) hr (by simpa using e)
    exact ⟨w,by simpa using q1,q2⟩
theorem RepL.take:∀{ds:List D} {vs:List V} (n:Nat),RepL B H ds vs→RepL B H (ds.take n) (vs.take n)
  | _,_,0,_=>by rw [List.take_zero,List.take_zero]; exact rfl
  | [],_,n+1,h=>by cases (show _=[] from h); exact rfl
  | _::_,_,n+1,h=>by
    obtain ⟨v,r,rfl,hv,hr⟩:=h
    exact ⟨v,_,rfl,hv,RepL.take n hr⟩
theorem RepL.drop:∀{ds:List D} {vs:List V} (n:Nat),RepL B H ds vs→RepL B H (ds.drop n) (vs.drop n)
  | _,_,0,h=>h
  | [],_,n+1,h=>by cases (show _=[] from h); exact rfl
  | _::_,_,n+1,h=>by
    obtain ⟨v,r,rfl,hv,hr⟩:=h
    exact RepL.drop n hr
theorem RepL.set {d:D} {v:V} (q:RepV B H d v):∀{ds:List D} {vs:List V} (i:Nat),RepL B H ds vs→RepL B H (ds.set i d) (vs.set i v)
  | [],_,_,h=>by cases (show _=[] from h); exact rfl
  | _::_,_,0,h=>by
    obtain ⟨w,r,rfl,_,hr⟩:=h
    exact ⟨v,r,rfl,q,hr⟩
  | _::_,_,i+1,h=>by
    obtain ⟨w,r,rfl,hw,hr⟩:=h
    exact ⟨w,_,rfl,hw,RepL.set q i hr⟩
theorem RepL.map {α:Type} {f:α→D} {g:α→V} (q:∀a,RepV B H (f a) (g a)):∀l:List α,RepL B H (l.map f) (l.map g)
  | []=>rfl
  | a::l=>⟨_,_,rfl,q a,RepL.map q l⟩
theorem RepKV.ext {κ:Type} (E:ExtS B B' H H'):∀{ks:List (κ×D)} {vs:List (κ×V)},RepKV B H ks vs→RepKV B' H' ks vs
  | _,_,.nil=>.nil
  | _,_,.cons h t=>.cons ⟨h.1,RepV.ext E h.2⟩ (RepKV.ext E t)
end
structure Mo where
  cl:Str→Addr
  K:PySem.W.Frag
def KL (K:PySem.W.Frag) (a:Addr) (ns:List Int):Prop:=∃(o:Obj) (its:Array Value) (n:Nat),K.lookup a=some o∧o.cls=.type "list"∧o.dict=none∧o.data=.seq its n∧its.size≤sizeLine∧Vals (ns.map V.int) its.toList
def CellOk (cl:Mo) (B:Bx) (H:Hp) (a:Addr):Cell→Prop
  | .lst xs=>∃vs,H a=some (.lst vs)∧RepL B H xs vs
  | .dK kvs=>∃vs,H a=some (.dK vs)∧RepKV B H kvs vs
  | .dT kvs=>∃vs,H a=some (.dT vs)∧RepKV B H kvs vs
  | .ins C fs=>∃dx vs,H a=some (.ins (cl.cl C) dx vs)∧RepKV B H fs vs
structure Good (cl:Mo) (B:Bx) (θ:Sto) (H:Hp):Prop where
  len:θ.length=B.n
  inj:∀i j,i<B.n→j<B.n→B.m i=B.m j→i=j
  cel:∀i c,θ[i]?=some c→CellOk cl B H (B.m i) c
  cF:∀i,i<B.n→¬B.F (B.m i)∧B.m i∉B.os
  Fs:∀a,B.F a→H a≠none
  oS:∀a,a∈B.os→H a≠none
  oF:∀a,a∈B.os→¬B.F a
  kc:∀a ns,B.ks a ns→KL cl.K a ns
section
variable {cl:Mo} {B B' B'':Bx} {H H' H'':Hp} {θ θ':Sto}
theorem CellOk.ext {a:Addr} {c:Cell} (k:CellOk cl B H a c) (E:ExtS B B' H H') (h:∀o,H a=some o→H' a=some o):CellOk cl B' H' a c:=by
  cases c with
  | lst xs=>obtain ⟨vs,e,r⟩:=k; exact ⟨vs,h _ e,r.ext E⟩
  | dK kvs=>obtain ⟨vs,e,r⟩:=k; exact ⟨vs,h _ e,r.ext E⟩
  | dT kvs=>obtain ⟨vs,e,r⟩:=k; exact ⟨vs,h _ e,r.ext E⟩
  | ins C fs=>obtain ⟨dx,vs,e,r⟩:=k; exact ⟨dx,vs,h _ e,r.ext E⟩
theorem CellOk.there {a:Addr} {c:Cell} (k:CellOk cl B H a c):H a≠none:=by
  cases c with
  | lst xs=>obtain ⟨vs,e,r⟩:=k; rw [e]; simp
  | dK kvs=>obtain ⟨vs,e,r⟩:=k; rw [e]; simp
  | dT kvs=>obtain ⟨vs,e,r⟩:=k; rw [e]; simp
  | ins C fs=>obtain ⟨dx,vs,e,r⟩:=k; rw [e]; simp
theorem Good.there (G:Good cl B θ H) {i:Nat} (hi:i<B.n):H (B.m i)≠none:=by
  have:i < θ.length:=by rw [G.len]; exact hi
  exact (G.cel i _ (List.getElem?_eq_getElem this)).there
theorem Good.okNone (G:Good cl B θ H) {p:Addr} (h:H p=none):B.ok p:=
  ⟨fun i hi e=>G.there hi (by rw [e]; exact h),fun z=>G.Fs p z h,fun z=>G.oS p z h⟩
theorem Zc3 (G:Good cl B θ H) {p:Addr} (h:H p=none) (o:HO):ExtE B B H (upd H p o):=by
  have ne:∀a u,H a=some u→upd H p o a=some u:=fun a u e=>by rw [ZS (zo e h)]; exact e
  exact ⟨⟨Nat.le_refl _,fun _ _=>rfl,fun i h h'=>absurd h' (Nat.not_lt.mpr h),fun a u e _ _=>ne a u e,fun a e=>by
    cases q:H a with
    | none=>exact absurd q e
    | some u=>rw [ne a u q]; simp,fun _ h=>.inl h,rfl,rfl⟩,rfl,fun a u _ _ e=>ne a u e⟩
theorem Ze6 (G:Good cl B θ H) {p:Addr} (h:H p=none) (o:HO):Good cl B θ (upd H p o):=by
  have E:=Zc3 G h o
  exact ⟨G.len,G.inj,fun i c e=>(G.cel i c e).ext E.toExtS fun u q=>by rw [ZS (zo q h)]; exact q,G.cF,fun a z=>E.sm a (G.Fs a z),fun a z=>E.sm a (G.oS a z),G.oF,G.kc⟩
theorem Zsf (G:Good cl B θ H) {p:Addr} (h:H p=none) {xs:List D} {vs:List V} (r:RepL B H xs vs):RepV B (upd H p (.lst vs)) (.lst xs) (.ref p):=
  ⟨p,vs,rfl,zE,G.okNone h,r.ext (Zc3 G h _).toExtS⟩
theorem Zse (G:Good cl B θ H) {p:Addr} (h:H p=none) {xs:List D} {vs:List V} (r:RepL B H xs vs):RepV B (upd H p (.tup vs)) (.tup xs) (.ref p):=
  ⟨p,vs,rfl,zE,G.okNone h,r.ext (Zc3 G h _).toExtS⟩
def Bx.push (B:Bx) (p:Addr):Bx:={ B with n:=B.n+1,m:=fun i=>if i=B.n then p else B.m i }
theorem Ze7 (G:Good cl B θ H) {p:Addr} (h:H p=none) (o:HO):ExtE B (B.push p) H (upd H p o):=by
  have E:=Zc3 G h o
  refine ⟨⟨Nat.le_succ _,fun i hi=>if_neg (Nat.ne_of_lt hi),fun i h1 h2=>?_,E.keep,E.sm,fun _ h=>.inl h,rfl,rfl⟩,rfl,E.ko⟩
  have e:i=B.n:=Nat.le_antisymm (Nat.le_of_lt_succ h2) h1
  show H (if i=B.n then p else B.m i)=none
  rw [if_pos e]; exact h
theorem ZgV (G:Good cl B θ H) {p:Addr} (h:H p=none) {o:HO} {c:Cell} (k:CellOk cl (B.push p) (upd H p o) p c):Good cl (B.push p) (θ++[c]) (upd H p o):=by
  have E:=Ze7 G h o
  have hm:∀i,i<B.n→(B.push p).m i=B.m i:=fun i hi=>if_neg (Nat.ne_of_lt hi)
  have hn:(B.push p).m B.n=p:=if_pos rfl
  have cs:∀i,i<(B.push p).n→i<B.n∨i=B.n:=fun i hi=>Nat.lt_succ_iff_lt_or_eq.mp hi
  have ok:=G.okNone h
  refine ⟨by rw [List.length_append,G.len]; rfl,fun i j hi hj e=>?_,fun i c' e=>?_,fun i hi=>?_,fun a z=>E.sm a (G.Fs a z),fun a z=>E.sm a (G.oS a z),G.oF,G.kc⟩
  · rcases cs i hi with a | a<;>rcases cs j hj with b | b
    · rw [hm i a,hm j b] at e; exact G.inj i j a b e
    · rw [hm i a,b,hn] at e; exact absurd e (ok.1 i a)
    · rw [hm j b,a,hn] at e; exact absurd e.symm (ok.1 j b)
    · rw [a,b]
  · by_cases q:i < θ.length
    · rw [List.getElem?_append_left q] at e
      rw [hm i (by rw [←G.len]; exact q)]
      exact (G.cel i c' e).ext E.toExtS fun u z=>by rw [ZS (zo z h)]; exact z
    · have q':=Nat.not_lt.mp q
      rw [List.getElem?_append_right q'] at e
      have:i - θ.length=0:=by
        cases z:i - θ.length with
        | zero=>rfl
        | succ k=>rw [z] at e; simp at e
      rw [this] at e
      simp at e
      subst e
      have:i=B.n:=by rw [←G.len]; omega
      rw [this,hn]; exact k
  · rcases cs i hi with a | a
    · rw [hm i a]; exact G.cF i a
    · rw [a,hn]; exact ⟨ok.2.1,ok.2.2⟩
theorem ZhF (G:Good cl B θ H) {l:Nat} (hl:l<B.n) (o:HO):ExtE B B H (upd H (B.m l) o):=by
  have ne:∀a u,(∀i,i<B.n→B.m i≠a)→H a=some u→upd H (B.m l) o a=some u:=fun a u k e=>by rw [ZS (Ne.symm (k l hl))]; exact e
  exact ⟨⟨Nat.le_refl _,fun _ _=>rfl,fun i h h'=>absurd h' (Nat.not_lt.mpr h),fun a u e k _=>ne a u k e,fun a e=>by
    by_cases q:a=B.m l
    · rw [q,zE]; simp
    · rw [ZS q]; exact e,fun _ h=>.inl h,rfl,rfl⟩,rfl,fun a u _ k e=>ne a u k e⟩
theorem Zic (G:Good cl B θ H) {l:Nat} (hl:l<B.n) {o:HO} {c:Cell} (k:CellOk cl B (upd H (B.m l) o) (B.m l) c):Good cl B (θ.set l c) (upd H (B.m l) o):=by
  have E:=ZhF G hl o
  refine ⟨by rw [List.length_set]; exact G.len,G.inj,fun i c' e=>?_,G.cF,fun a z=>E.sm a (G.Fs a z),fun a z=>E.sm a (G.oS a z),G.oF,G.kc⟩
  by_cases q:i=l
  · subst q
    rw [List.getElem?_set_self (by rw [G.len]; exact hl)] at e
    cases e; exact k
  · rw [List.getElem?_set_ne (Ne.symm q)] at e
    have hi:i<B.n:=by rw [←G.len]; exact (List.getElem?_eq_some_iff.mp e).1
    exact (G.cel i c' e).ext E.toExtS fun u z=>by rw [ZS (fun z'=>q (G.inj i l hi hl z'))]; exact z
end
inductive R (α:Type) where
  | ok (a:α) (θ:Sto) | ex (c:Str) (θ:Sto) | bad
def R.bind {α β:Type} (r:R α) (k:α→Sto→R β):R β:=match r with
  | .ok a θ=>k a θ
  | .ex c θ=>.ex c θ
  | .bad=>.bad
@[simp] theorem R.bind_ok {α β:Type} (a:α) (θ:Sto) (k:α→Sto→R β):(R.ok a θ).bind k=k a θ:=nr rfl
@[simp] theorem R.bind_bad {α β:Type} (k:α→Sto→R β):(R.bad:R α).bind k=.bad:=nr rfl
inductive Sl where
  | no | val (d:D) | own (xs:List D)
structure Frm (cl:Mo) (B:Bx) (θ:Sto) (ρ:List Sl) (σ:St) (H:Hp):Prop where
  good:Good cl B θ H
  len:ρ.length=σ.length
  val:∀(i:Nat) (d:D),ρ[i]?=some (Sl.val d)→∃v,σ[i]?=some (some v)∧RepV B H d v
  own:∀(i:Nat) (xs:List D),ρ[i]?=some (Sl.own xs)→∃a vs,σ[i]?=some (some (.ref a))∧a∈B.os∧H a=some (.lst vs)∧RepL B H xs vs
  ne:∀(i j:Nat) (xs ys:List D) (a:Addr),i≠j→ρ[i]?=some (Sl.own xs)→ρ[j]?=some (Sl.own ys)→σ[i]?=some (some (.ref a))→σ[j]?≠some (some (.ref a))
theorem Frm.ext {cl:Mo} {B B':Bx} {θ θ':Sto} {ρ:List Sl} {σ:St} {H H':Hp} (F:Frm cl B θ ρ σ H) (E:ExtE B B' H H') (G:Good cl B' θ' H'):Frm cl B' θ' ρ σ H' where
  good:=G
  len:=F.len
  val:=fun i d e=>let ⟨v,h1,h2⟩:=F.val i d e; ⟨v,h1,h2.ext E.toExtS⟩
  own:=fun i xs e=>by
    obtain ⟨a,vs,h1,h2,h3,h4⟩:=F.own i xs e
    exact ⟨a,vs,h1,by rw [E.osE]; exact h2,E.ko a _ h2 (fun i hi z=>(F.good.cF i hi).2 (by rw [z]; exact h2)) h3,h4.ext E.toExtS⟩
  ne:=F.ne
def Zaf (mg:Str→Option Value) (x:Str):Addr:=match mg x with
  | some (.ref a)=>a
  | _=>0
abbrev _root_.L2.Cx.cl (X:Cx):Mo:=⟨Zaf X.mg,X.K⟩
def XE (X:Cx) (σ:St) (B:Bx) (H:Hp) (c:Str) (θ':Sto):Prop:=False
theorem XE.trans {X:Cx} {σ:St} {B B':Bx} {H H':Hp} {c:Str} {θ':Sto} (h:XE X σ B H c θ') (E:ExtE B B' H H'):XE X σ B' H' c θ':=h
def wpR (X:Cx) (σ:St) {α β:Type} (Rel:Bx→Hp→α→β→Prop) (B:Bx) (H:Hp) (r:R α) (Q:β→Hp→Prop):Prop:=match r with
  | .ok a θ'=>∀B' H' b,ExtE B B' H H'→Good X.cl B' θ' H'→Rel B' H' a b→Q b H'
  | .ex c θ'=>XE X σ B H c θ'
  | .bad=>False
section
variable {X:Cx} {σ:St} {α β γ δ:Type} {Rel:Bx→Hp→α→β→Prop} {Rel':Bx→Hp→γ→δ→Prop} {B B':Bx} {H H':Hp}
theorem wpR.mono {r:R α} {Q Q':β→Hp→Prop} (h:wpR X σ Rel B H r Q) (hQ:∀b H',Q b H'→Q' b H'):wpR X σ Rel B H r Q':=by
  cases r with
  | ok a θ'=>exact fun B' H' b e g q=>hQ _ _ (h B' H' b e g q)
  | ex c θ'=>exact h
  | bad=>exact h
theorem wpR.trans {r:R α} {Q:β→Hp→Prop} (h:wpR X σ Rel B H r Q) (E:ExtE B B' H H'):wpR X σ Rel B' H' r Q:=by
  cases r with
  | ok a θ'=>exact fun B2 H2 b e g q=>h B2 H2 b (E.trans e) g q
  | ex c θ'=>exact XE.trans (c:=c) (θ':=θ') (σ:=σ) (X:=X) h E
  | bad=>exact h
theorem wpR.bind {r:R α} {k:α→Sto→R γ} {Q:δ→Hp→Prop} (h:wpR X σ Rel' B H (r.bind k) Q) :
    wpR X σ Rel B H r (fun b H1=>∃B1 θ1 a,ExtE B B1 H H1∧Good X.cl B1 θ1 H1∧Rel B1 H1 a b∧wpR X σ Rel' B1 H1 (k a θ1) Q):=by
  cases r with
  | ok a θ'=>exact fun B1 H1 b E g q=>⟨B1,θ',a,E,g,q,wpR.trans h E⟩
  | ex c θ'=>exact h
  | bad=>exact h
end
abbrev EM:=List Sl→Sto→R D
abbrev TMr:=List Sl→Sto→R Bool
abbrev AM:=List Sl→Sto→R (List D)
def EqB (_:Bx) (_:Hp) (a b:Bool):Prop:=a=b
def tM (X:Cx) (f:EM):TE:=fun σ H Q=>∃B θ ρ,Frm X.cl B θ ρ σ H∧wpR X σ RepV B H (f ρ θ) Q
def tMT (X:Cx) (f:TMr):TT:=fun σ H Q=>∃B θ ρ,Frm X.cl B θ ρ σ H∧wpR X σ EqB B H (f ρ θ) Q
def tMA (X:Cx) (f:AM):TA:=fun σ H Q=>∃B θ ρ,Frm X.cl B θ ρ σ H∧wpR X σ RepL B H (f ρ θ) Q
def ME (X:Cx) (e:Expr) (f:EM):Prop:=PE X e (tM X f)
def MT (X:Cx) (e:Expr) (f:TMr):Prop:=PT X e (tMT X f)
def MW (X:Cx) (e:Expr) (f:TMr):Prop:=PW X e (tMT X f)
def MA (X:Cx) (es:List Expr) (f:AM):Prop:=PA X es (tMA X f)
section
variable {X:Cx} {σ:St} {H:Hp} {γ δ:Type} {Rel':Bx→Hp→γ→δ→Prop}
theorem Z3 {f:EM} {Q Q':VK} (h:tM X f σ H Q) (hQ:∀v H',Q v H'→Q' v H'):tM X f σ H Q':=let ⟨B,θ,ρ,F,w⟩:=h; ⟨B,θ,ρ,F,w.mono hQ⟩
theorem ZdQ {f:TMr} {Q Q':Bool→Hp→Prop} (h:tMT X f σ H Q) (hQ:∀v H',Q v H'→Q' v H'):tMT X f σ H Q':=let ⟨B,θ,ρ,F,w⟩:=h; ⟨B,θ,ρ,F,w.mono hQ⟩
theorem Zb6 {f:AM} {Q Q':List V→Hp→Prop} (h:tMA X f σ H Q) (hQ:∀v H',Q v H'→Q' v H'):tMA X f σ H Q':=let ⟨B,θ,ρ,F,w⟩:=h; ⟨B,θ,ρ,F,w.mono hQ⟩
variable {B:Bx} {θ:Sto} {ρ:List Sl}
theorem step {f:EM} {k:D→Sto→R γ} {Q:δ→Hp→Prop} (F:Frm X.cl B θ ρ σ H) (h:wpR X σ Rel' B H ((f ρ θ).bind k) Q) :
    tM X f σ H (fun v H1=>∃B1 θ1 d,ExtE B B1 H H1∧Frm X.cl B1 θ1 ρ σ H1∧RepV B1 H1 d v∧wpR X σ Rel' B1 H1 (k d θ1) Q):=
  ⟨B,θ,ρ,F,(wpR.bind (Rel:=RepV) h).mono fun v H1 ⟨B1,θ1,d,E,G,r,w⟩=>⟨B1,θ1,d,E,F.ext E G,r,w⟩⟩
theorem Zm6 {f:TMr} {k:Bool→Sto→R γ} {Q:δ→Hp→Prop} (F:Frm X.cl B θ ρ σ H) (h:wpR X σ Rel' B H ((f ρ θ).bind k) Q) :
    tMT X f σ H (fun c H1=>∃B1 θ1,ExtE B B1 H H1∧Frm X.cl B1 θ1 ρ σ H1∧wpR X σ Rel' B1 H1 (k c θ1) Q):=
  ⟨B,θ,ρ,F,(wpR.bind (Rel:=EqB) h).mono fun v H1 ⟨B1,θ1,d,E,G,r,w⟩=>by cases (show d=v from r); exact ⟨B1,θ1,E,F.ext E G,w⟩⟩
theorem ZhT {f:AM} {k:List D→Sto→R γ} {Q:δ→Hp→Prop} (F:Frm X.cl B θ ρ σ H) (h:wpR X σ Rel' B H ((f ρ θ).bind k) Q) :
    tMA X f σ H (fun v H1=>∃B1 θ1 d,ExtE B B1 H H1∧Frm X.cl B1 θ1 ρ σ H1∧RepL B1 H1 d v∧wpR X σ Rel' B1 H1 (k d θ1) Q):=
  ⟨B,θ,ρ,F,(wpR.bind (Rel:=RepL) h).mono fun v H1 ⟨B1,θ1,d,E,G,r,w⟩=>⟨B1,θ1,d,E,F.ext E G,r,w⟩⟩
theorem ZQ {α β:Type} {Rel:Bx→Hp→α→β→Prop} {a:α} {b:β} {Q:β→Hp→Prop} (G:Good X.cl B θ H) (r:Rel B H a b) (h:wpR X σ Rel B H (.ok a θ) Q):Q b H:=h B H b (ExtE.refl B H) G r
end
theorem PE.imp {X:Cx} {e:Expr} {t t':TE} (h:PE X e t) (hi:∀σ H Q,t' σ H Q→t σ H Q):PE X e t':=fun pins s σ H Q I q=>h pins s σ H Q I (hi σ H Q q)
theorem PT.imp {X:Cx} {e:Expr} {t t':TT} (h:PT X e t) (hi:∀σ H Q,t' σ H Q→t σ H Q):PT X e t':=fun pins s σ H Q I q=>h pins s σ H Q I (hi σ H Q q)
theorem PW.imp {X:Cx} {e:Expr} {t t':TT} (h:PW X e t) (hi:∀σ H Q,t' σ H Q→t σ H Q):PW X e t':=fun wh pins s σ H Q I q=>h wh pins s σ H Q I (hi σ H Q q)
theorem PA.imp {X:Cx} {es:List Expr} {t t':TA} (h:PA X es t) (hi:∀σ H Q,t' σ H Q→t σ H Q):PA X es t':=fun pos pins s σ H Q I q=>h pos pins s σ H Q I (hi σ H Q q)
theorem OpR.imp {X:Cx} {f:Value→Value→Sem Value} {r r':R2} (h:OpR X f r) (hi:∀x y H Q,r' x y H Q→r x y H Q):OpR X f r':=fun pins s σ H x y v u Q I rx ry q=>h pins s σ H x y v u Q I rx ry (hi x y H Q q)
theorem IxR.imp {X:Cx} {r r':R2} (h:IxR X r) (hi:∀x y H Q,r' x y H Q→r x y H Q):IxR X r':=fun pins s σ H x y v u Q v1 s1 I rx ry q=>h pins s σ H x y v u Q v1 s1 I rx ry (hi _ _ _ _ q)
theorem CallR.imp {X:Cx} {f:Value} {r r':List V→Hp→VK→Prop} (h:CallR X f r) (hi:∀xs H Q,r' xs H Q→r xs H Q):CallR X f r':=fun pins s σ H xs us Q I r q=>h pins s σ H xs us Q I r (hi _ _ _ q)
end L2.MM
namespace L2.MM
open PySem PySem.Spec PyProof.Rows
noncomputable section
variable {X:Cx}
def Zav (θ:Sto):D→Option (List D)
  | .lst xs=>some xs
  | .ref l=>match θ[l]? with
    | some (.lst xs)=>some xs
    | _=>none
  | _=>none
def seqOf (θ:Sto):D→Option (List D)
  | .tup xs=>some xs
  | .scr ns=>some (ns.map D.int)
  | d=>Zav θ d
theorem z7 {cl:Mo} {B:Bx} {θ:Sto} {H:Hp} (G:Good cl B θ H) {d:D} {v:V} {xs:List D} (r:RepV B H d v) (h:Zav θ d=some xs):∃a vs,v=.ref a∧H a=some (.lst vs)∧RepL B H xs vs:=by
  cases d with
  | lst ys=>
    obtain ⟨a,vs,e,h1,_,h2⟩:=r
    cases h
    exact ⟨a,vs,e,h1,h2⟩
  | ref l=>
    obtain ⟨hl,rfl⟩:=r
    simp only [Zav] at h
    split at h
    · rename_i ys e
      cases h
      obtain ⟨vs,q1,q2⟩:=G.cel l _ e
      exact ⟨_,vs,rfl,q1,q2⟩
    · cases h
  | _=>cases h
theorem Zda {cl:Mo} {B:Bx} {θ:Sto} {H:Hp} (G:Good cl B θ H) {d:D} {v:V} {xs:List D} (r:RepV B H d v) (h:seqOf θ d=some xs) :
    ∃a vs,v=.ref a∧(SqL cl.K H a vs∨SqT cl.K H a vs)∧RepL B H xs vs:=by
  cases d with
  | tup ys=>
    obtain ⟨a,vs,e,h1,_,h2⟩:=r
    cases h
    exact ⟨a,vs,e,.inr (SqT.of h1),h2⟩
  | scr ns=>
    obtain ⟨a,e,h1⟩:=r
    cases h
    refine ⟨a,ns.map V.int,e,.inl ?_,RepL.map (f:=D.int) (g:=V.int) (fun _=>rfl) ns⟩
    rcases h1 with ⟨o,h1,_⟩ | h1
    · exact .inl (.inr ⟨o,h1⟩)
    · exact .inr (G.kc a ns h1)
  | lst ys=>
    obtain ⟨a,vs,e,h1,h2⟩:=z7 G r (show Zav θ (.lst ys)=some xs from h)
    exact ⟨a,vs,e,.inl (SqL.of h1),h2⟩
  | ref l=>
    obtain ⟨a,vs,e,h1,h2⟩:=z7 G r (show Zav θ (.ref l)=some xs from h)
    exact ⟨a,vs,e,.inl (SqL.of h1),h2⟩
  | _=>cases h
abbrev BIG:Nat:=100000
theorem Zas {n:Nat} (h:n≤BIG):n≤sizeLine:=Nat.le_trans h (by rw [sizeLine_eq]; decide)
def Zd (i:Nat):EM:=fun ρ θ=>match ρ[i]? with
  | some (Sl.val d)=>.ok d θ
  | _=>.bad
def mC (d:D):EM:=fun _ θ=>.ok d θ
section
variable {a b c e:Expr} {pos:Pos} {fa fb fc:EM} {ft fu:TMr}
theorem Zb (i:Nat) {x:Str} {pos:Pos} (hN:X.N[i]?=some x:=by rfl) (hv:Vis X.env.scope x:=by first | exact Or.inl rfl | exact Or.inr (Or.inl rfl) | exact Or.inr (Or.inr rfl))
    (hd:(x == ("__debug__":Str))=false:=by decide) (hcd:(x == ("__classdict__":Str))=false:=by decide):ME X (.Name x pos) (Zd i):=by
  refine PE.imp (ZhW hN hv hd hcd) fun σ H Q h=>?_
  obtain ⟨B,θ,ρ,F,w⟩:=h
  unfold Zd at w
  split at w
  · rename_i d e
    obtain ⟨v,h1,h2⟩:=F.val i d e
    exact ⟨v,h1,ZQ F.good h2 w⟩
  · exact w.elim
theorem ZmA {d:D} {v:V} (h:PE X e (tC v)) (r:∀B H,RepV B H d v):ME X e (mC d):=by
  refine PE.imp h fun σ H Q h=>?_
  obtain ⟨B,θ,ρ,F,w⟩:=h
  exact ZQ F.good (r B H) w
theorem Ze {i j pos}:ME X (.Constant (.int i) j pos) (mC (.int i)):=ZmA ZuI fun _ _=>rfl
theorem zN {i j pos}:ME X (.Constant (.bool i) j pos) (mC (.bl i)):=ZmA Zws fun _ _=>rfl
theorem ZaK {j pos}:ME X (.Constant .none j pos) (mC .non):=ZmA ZuH fun _ _=>rfl
theorem ZqX {i j pos}:ME X (.Constant (.str i) j pos) (mC (.str i)):=ZmA ZuF fun _ _=>rfl
theorem Zm {x:Str} {i:Int} (h:∃t,X.mg x=some (.int i t)) (hg:Gl X x:=by rfl) (hd:(x == ("__debug__":Str))=false:=by decide):ME X (.Name x pos) (mC (.int i)):=ZmA (Zsu h hg hd) fun _ _=>rfl
theorem ZG {x:Str} {y:Str} (h:∃t,X.mg x=some (.str y t)) (hg:Gl X x:=by rfl) (hd:(x == ("__debug__":Str))=false:=by decide):ME X (.Name x pos) (mC (.str y)):=by
  obtain ⟨t,h⟩:=h
  exact ZmA (Zng hg h (v:=.str y) ⟨t,rfl⟩ hd) fun _ _=>rfl
theorem ZqW {x:Str} {n:String} {pos:Pos} (hm:X.mg x=none) (hv:bootBuiltins x=some (.type n)) (hg:Gl X x:=by rfl) (hn:x≠"__name__":=by decide) (hd:(x == ("__debug__":Str))=false:=by decide):ME X (.Name x pos) (mC (.ty n)):=
  ZmA (Zwo hm hv hg hn hd) fun _ _=>rfl
abbrev OM:=D→D→Sto→R D
def mOp (g:OM) (fa fb:EM):EM:=fun ρ θ=>(fa ρ θ).bind fun x θ=>(fb ρ θ).bind fun y θ=>g x y θ
def rM (X:Cx) (g:OM):R2:=fun x y H Q=>∃σ B θ d e,Good X.cl B θ H∧RepV B H d x∧RepV B H e y∧wpR X σ RepV B H (g d e θ) Q
theorem Zm4 {g:OM} (σ:St) (H:Hp) (Q:VK) (h:tM X (mOp g fa fb) σ H Q):tOp (rM X g) (tM X fa) (tM X fb) σ H Q:=by
  obtain ⟨B,θ,ρ,F,w⟩:=h
  refine Z3 (step F w) ?_
  rintro x' H1 ⟨B1,θ1,x,E1,F1,rx,w1⟩
  refine Z3 (step F1 w1) ?_
  rintro y' H2 ⟨B2,θ2,y,E2,F2,ry,w2⟩
  exact ⟨σ,B2,θ2,x,y,F2.good,rx.ext E2.toExtS,ry,w2⟩
theorem Zl {op:Operator} {g:OM} (ho:OpR X (binaryOp op) (rM X g)) (ha:ME X a fa) (hb:ME X b fb):ME X (.BinOp a op b pos) (mOp g fa fb):=PE.imp (Zwq ho ha hb) Zm4
theorem zH {op:CmpOp} {g:OM} (ho:OpR X (compareOp op) (rM X g)) (ha:ME X a fa) (hb:ME X b fb) (hm:behindInMarks op b=false:=by first | exact ZqN _ | rfl):ME X (.Compare a [op] [b] pos) (mOp g fa fb):=PE.imp (Zsv ho ha hb hm) Zm4
theorem Zx {g:OM} (hr:IxR X (rM X g)) (ha:ME X a fa) (hb:ME X b fb) (hs:ZjT b:=by intro _ _; rfl):ME X (.Subscript a b pos) (mOp g fa fb):=PE.imp (Ztw hr ha hb hs) Zm4
def ZI (f:EM):TMr:=fun ρ θ=>(f ρ θ).bind fun x θ=>match x with
  | .bl k=>.ok k θ
  | _=>.bad
theorem ZhS {f:EM} (σ:St) (H:Hp) (Q:Bool→Hp→Prop) (h:tMT X (ZI f) σ H Q):tM X f σ H (fun v H1=>∃k,v=.bl k∧Q k H1):=by
  obtain ⟨B,θ,ρ,F,w⟩:=h
  refine Z3 (step F w) ?_
  rintro v H1 ⟨B1,θ1,x,E1,F1,rx,w1⟩
  cases x with
  | bl k=>exact ⟨k,rx,ZQ (Rel:=EqB) F1.good rfl w1⟩
  | _=>exact w1.elim
theorem ZD {op:CmpOp} {g:OM} (ho:OpR X (compareOp op) (rM X g)) (ha:ME X a fa) (hb:ME X b fb) (hm:behindInMarks op b=false:=by first | exact ZqN _ | rfl):MT X (.Compare a [op] [b] pos) (ZI (mOp g fa fb)):=by
  refine PT.imp (Zsl ho ha hb hm) fun σ H Q h=>?_
  have q:=ZhS σ H Q h
  exact Zm4 σ H _ q
def Zer (g g':OM) (fa fb fc:EM):EM:=fun ρ θ=>(fa ρ θ).bind fun x θ=>(fb ρ θ).bind fun y θ=>(g x y θ).bind fun z θ=>match z with
  | .bl true=>(fc ρ θ).bind fun w θ=>g' y w θ
  | .bl false=>.ok (.bl false) θ
  | _=>.bad
theorem Zlk {g g':OM} (σ:St) (H:Hp) (Q:VK) (h:tM X (Zer g g' fa fb fc) σ H Q):Zmo (rM X g) (rM X g') (tM X fa) (tM X fb) (tM X fc) σ H Q:=by
  obtain ⟨B,θ,ρ,F,w⟩:=h
  refine Z3 (step F w) ?_
  rintro x' H1 ⟨B1,θ1,x,E1,F1,rx,w1⟩
  refine Z3 (step F1 w1) ?_
  rintro y' H2 ⟨B2,θ2,y,E2,F2,ry,w2⟩
  refine ⟨σ,B2,θ2,x,y,F2.good,rx.ext E2.toExtS,ry,(wpR.bind (Rel:=RepV) w2).mono ?_⟩
  rintro z' H3 ⟨B3,θ3,z,E3,G3,rz,w3⟩
  have F3:=F2.ext E3 G3
  cases z with
  | bl k=>
    refine ⟨k,rz,?_⟩
    cases k with
    | true=>
      rw [if_pos rfl]
      refine Z3 (step F3 w3) ?_
      rintro w' H4 ⟨B4,θ4,u,E4,F4,ru,w4⟩
      exact ⟨σ,B4,θ4,y,u,F4.good,ry.ext (E3.trans E4).toExtS,ru,w4⟩
    | false=>
      rw [if_neg Bool.false_ne_true]
      exact ZQ G3 (show RepV B3 H3 (.bl false) (.bl false) from rfl) w3
  | _=>exact w3.elim
theorem Zge {op op':CmpOp} {g g':OM} (ho:OpR X (compareOp op) (rM X g)) (ho':OpR X (compareOp op') (rM X g')) (ha:ME X a fa) (hb:ME X b fb) (hc:ME X c fc)
    (hm:lastMarks [op,op'] [b,c]=false:=by with_unfolding_all rfl):ME X (.Compare a [op,op'] [b,c] pos) (Zer g g' fa fb fc):=PE.imp (ZqB ho ho' ha hb hc hm) Zlk
theorem ZqT {op op':CmpOp} {g g':OM} (ho:OpR X (compareOp op) (rM X g)) (ho':OpR X (compareOp op') (rM X g')) (ha:ME X a fa) (hb:ME X b fb) (hc:ME X c fc)
    (hm:lastMarks [op,op'] [b,c]=false:=by with_unfolding_all rfl):MT X (.Compare a [op,op'] [b,c] pos) (ZI (Zer g g' fa fb fc)):=by
  refine PT.imp (Zqn ho ho' ha hb hc hm) fun σ H Q h=>?_
  have q:=ZhS σ H Q h
  exact Zlk σ H _ q
def Zhq (θ:Sto):D→Option Bool
  | .non=>some false
  | .bl b=>some b
  | .int i=>some (i != 0)
  | .str x=>if x.length≤BIG then some ((x.length:Int) != 0) else none
  | d=>(seqOf θ d).map fun xs=>!xs.isEmpty
def Zae (f:EM):TMr:=fun ρ θ=>(f ρ θ).bind fun x θ=>match Zhq θ x with
  | some k=>.ok k θ
  | none=>.bad
theorem RepL.emp {B:Bx} {H:Hp} {xs:List D} {vs:List V} (r:RepL B H xs vs):vs.isEmpty=xs.isEmpty:=by
  cases xs with
  | nil=>cases (show vs=[] from r); rfl
  | cons _ _=>obtain ⟨v,q,rfl,_,_⟩:=r; rfl
theorem ZmW {cl:Mo} {B:Bx} {θ:Sto} {H:Hp} (G:Good cl B θ H) {d:D} {v:V} {k:Bool} (r:RepV B H d v) (h:Zhq θ d=some k):TruV cl.K v H k:=by
  have sq:∀xs,seqOf θ d=some xs→((seqOf θ d).map fun xs=>!xs.isEmpty)=some k→TruV cl.K v H k:=fun xs e q=>by
    rw [e] at q
    cases q
    obtain ⟨a,vs,rfl,h1,h2⟩:=Zda G r e
    show TruV cl.K (V.ref a) H (!xs.isEmpty)
    rw [←h2.emp]
    rcases h1 with h1 | h1
    · exact .inl ⟨vs,h1,rfl⟩
    · exact .inr (.inl ⟨vs,h1,rfl⟩)
  cases d with
  | non=>cases (show v=.non from r); cases h; rfl
  | bl b=>cases (show v=.bl b from r); cases h; rfl
  | int i=>cases (show v=.int i from r); cases h; rfl
  | str x=>
    cases (show v=.str x from r)
    simp only [Zhq] at h
    split at h
    · rename_i hz; cases h; exact ⟨Zas hz,rfl⟩
    · cases h
  | ty n=>simp [Zhq,seqOf,Zav] at h
  | scr ns=>exact sq _ rfl h
  | tup xs=>exact sq _ rfl h
  | lst xs=>exact sq _ rfl h
  | ref l=>
    cases e:seqOf θ (.ref l) with
    | none=>simp only [Zhq,e] at h; cases h
    | some xs=>exact sq xs e h
theorem ZH (ha:ME X a fa) (he:∀whole,isTrue a X.env whole=(do let v ←whole; standAt a.pos; holding [v] (truthy v)):=by intro _; rfl):MT X a (Zae fa):=by
  refine PT.imp (Zqm ha he) fun σ H Q h=>?_
  obtain ⟨B,θ,ρ,F,w⟩:=h
  refine Z3 (step F w) ?_
  rintro v H1 ⟨B1,θ1,x,E1,F1,rx,w1⟩
  cases e:Zhq θ1 x with
  | none=>rw [e] at w1; exact w1.elim
  | some k=>rw [e] at w1; exact ⟨k,ZmW F1.good rx e,ZQ (Rel:=EqB) F1.good rfl w1⟩
def ZfA (f g:TMr):TMr:=fun ρ θ=>(f ρ θ).bind fun k θ=>if k=true then g ρ θ else .ok false θ
def mOr (f g:TMr):TMr:=fun ρ θ=>(f ρ θ).bind fun k θ=>if k=true then .ok true θ else g ρ θ
def Zeq (f:TMr):TMr:=fun ρ θ=>(f ρ θ).bind fun k θ=>.ok (!k) θ
theorem Zar (ha:MT X a ft):MW X (.BoolOp .And [a] pos) ft:=Zsj ha
theorem Zac (ha:MT X a ft):MW X (.BoolOp .Or [a] pos) ft:=Zuq ha
theorem Zcr {rest:List Expr} (ha:MT X a ft) (hb:MW X (.BoolOp .And (b::rest) pos) fu):MW X (.BoolOp .And (a::b::rest) pos) (ZfA ft fu):=by
  refine PW.imp (Zur ha hb) fun σ H Q h=>?_
  obtain ⟨B,θ,ρ,F,w⟩:=h
  refine ZdQ (Zm6 F w) ?_
  rintro k H1 ⟨B1,θ1,E1,F1,w1⟩
  cases k with
  | true=>rw [if_pos rfl] at w1 ⊢; exact ⟨B1,θ1,ρ,F1,w1⟩
  | false=>rw [if_neg Bool.false_ne_true] at w1 ⊢; exact ZQ (Rel:=EqB) F1.good rfl w1
theorem ZcF {rest:List Expr} (ha:MT X a ft) (hb:MW X (.BoolOp .Or (b::rest) pos) fu):MW X (.BoolOp .Or (a::b::rest) pos) (mOr ft fu):=by
  refine PW.imp (Zwk ha hb) fun σ H Q h=>?_
  obtain ⟨B,θ,ρ,F,w⟩:=h
  refine ZdQ (Zm6 F w) ?_
  rintro k H1 ⟨B1,θ1,E1,F1,w1⟩
  cases k with
  | true=>rw [if_pos rfl] at w1 ⊢; exact ZQ (Rel:=EqB) F1.good rfl w1
  | false=>rw [if_neg Bool.false_ne_true] at w1 ⊢; exact ⟨B1,θ1,ρ,F1,w1⟩
theorem MW.mt {e:Expr} {f:TMr} (h:MW X e f):MT X e f:=PW.pt h
theorem Zbn (ha:MT X a ft):MT X (.UnaryOp .Not a pos) (Zeq ft):=by
  refine PT.imp (Zut ha) fun σ H Q h=>?_
  obtain ⟨B,θ,ρ,F,w⟩:=h
  refine ZdQ (Zm6 F w) ?_
  rintro k H1 ⟨B1,θ1,E1,F1,w1⟩
  exact ZQ (Rel:=EqB) F1.good rfl w1
def ZcG (f g:EM):EM:=fun ρ θ=>(f ρ θ).bind fun x θ=>match x with
  | .bl true=>g ρ θ
  | .bl false=>.ok (.bl false) θ
  | _=>.bad
def ZlL (f g:EM):EM:=fun ρ θ=>(f ρ θ).bind fun x θ=>match x with
  | .bl true=>.ok (.bl true) θ
  | .bl false=>g ρ θ
  | _=>.bad
def Zns (f:EM):EM:=fun ρ θ=>(f ρ θ).bind fun x θ=>match Zhq θ x with
  | some k=>.ok (.bl (!k)) θ
  | none=>.bad
theorem ZcO {op} (h:ME X a fa):ME X (.BoolOp op [a] pos) fa:=ZuG h
theorem ZbU {rest:List Expr} (ha:ME X a fa) (hb:ME X (.BoolOp .And (b::rest) pos) fb):ME X (.BoolOp .And (a::b::rest) pos) (ZcG fa fb):=by
  refine PE.imp (ZuK ha hb) fun σ H Q h=>?_
  obtain ⟨B,θ,ρ,F,w⟩:=h
  refine Z3 (step F w) ?_
  rintro v H1 ⟨B1,θ1,x,E1,F1,rx,w1⟩
  cases x with
  | bl k=>
    refine ⟨k,rx,?_⟩
    cases k with
    | true=>rw [if_pos rfl]; exact ⟨B1,θ1,ρ,F1,w1⟩
    | false=>rw [if_neg Bool.false_ne_true]; exact ZQ F1.good (show RepV B1 H1 (.bl false) (.bl false) from rfl) w1
  | _=>exact w1.elim
theorem ZlJ {rest:List Expr} (ha:ME X a fa) (hb:ME X (.BoolOp .Or (b::rest) pos) fb):ME X (.BoolOp .Or (a::b::rest) pos) (ZlL fa fb):=by
  refine PE.imp (Zwp ha hb) fun σ H Q h=>?_
  obtain ⟨B,θ,ρ,F,w⟩:=h
  refine Z3 (step F w) ?_
  rintro v H1 ⟨B1,θ1,x,E1,F1,rx,w1⟩
  cases x with
  | bl k=>
    refine ⟨k,rx,?_⟩
    cases k with
    | true=>rw [if_pos rfl]; exact ZQ F1.good (show RepV B1 H1 (.bl true) (.bl true) from rfl) w1
    | false=>rw [if_neg Bool.false_ne_true]; exact ⟨B1,θ1,ρ,F1,w1⟩
  | _=>exact w1.elim
theorem ZqY (ha:ME X a fa):ME X (.UnaryOp .Not a pos) (Zns fa):=by
  intro pins s σ H Q I h
  obtain ⟨B,θ,ρ,F,w⟩:=h
  refine UnaryOp_ (thn (ha pins s σ H _ I (step F w)) fun v s1 ⟨x,H1,I1,r1,q1⟩=>?_)
  obtain ⟨B1,θ1,d,E1,F1,rx,w1⟩:=q1
  cases e:Zhq θ1 d with
  | none=>rw [e] at w1; exact w1.elim
  | some k=>
    rw [e] at w1
    refine not_of (thn (Zp2 pins s1 σ H1 x v (fun k' H'=>Q (.bl (!k')) H') I1 r1 ⟨k,ZmW F1.good rx e,ZQ F1.good (show RepV B1 H1 (.bl (!k)) (.bl (!k)) from rfl) w1⟩) fun b s2 ⟨H2,I2,q2⟩=>?_)
    exact ⟨.bl (!b),H2,I2,rfl,q2⟩
def Zgh (t:TMr) (f g:EM):EM:=fun ρ θ=>(t ρ θ).bind fun k θ=>if k=true then f ρ θ else g ρ θ
theorem ZcP {c:Expr} (hc:MT X c ft) (ha:ME X a fa) (hb:ME X b fb):ME X (.IfExp c a b pos) (Zgh ft fa fb):=by
  refine PE.imp (Zqx hc ha hb) fun σ H Q h=>?_
  obtain ⟨B,θ,ρ,F,w⟩:=h
  refine ZdQ (Zm6 F w) ?_
  rintro k H1 ⟨B1,θ1,E1,F1,w1⟩
  cases k with
  | true=>rw [if_pos rfl] at w1 ⊢; exact ⟨B1,θ1,ρ,F1,w1⟩
  | false=>rw [if_neg Bool.false_ne_true] at w1 ⊢; exact ⟨B1,θ1,ρ,F1,w1⟩
def Zk:AM:=fun _ θ=>.ok [] θ
def Zc (f:EM) (g:AM):AM:=fun ρ θ=>(f ρ θ).bind fun x θ=>(g ρ θ).bind fun xs θ=>.ok (x::xs) θ
theorem Zf:MA X [] Zk:=PA.imp ZhX fun σ H Q h=>by
  obtain ⟨B,θ,ρ,F,w⟩:=h
  exact ZQ (Rel:=RepL) F.good (show RepL B H [] [] from rfl) w
theorem Za {es:List Expr} {fs:AM} (ha:ME X e fa) (hr:MA X es fs) (hs:starEach (e::es) X.env=(false,eval e X.env)::starEach es X.env:=by rfl):MA X (e::es) (Zc fa fs):=by
  refine PA.imp (Zf6 ha hr hs) fun σ H Q h=>?_
  obtain ⟨B,θ,ρ,F,w⟩:=h
  refine Z3 (step F w) ?_
  rintro x' H1 ⟨B1,θ1,x,E1,F1,rx,w1⟩
  refine Zb6 (ZhT F1 w1) ?_
  rintro xs' H2 ⟨B2,θ2,xs,E2,F2,rxs,w2⟩
  exact ZQ (Rel:=RepL) F2.good (show RepL B2 H2 (x::xs) (x'::xs') from ⟨x',xs',rfl,rx.ext E2.toExtS,rxs⟩) w2
def Zak (f:AM):EM:=fun ρ θ=>(f ρ θ).bind fun xs θ=>if xs.length≤BIG then .ok (.tup xs) θ else .bad
def Zb5 (f:AM):EM:=fun ρ θ=>(f ρ θ).bind fun xs θ=>if xs.length≤BIG then .ok (.lst xs) θ else .bad
theorem ZhM {σ:St} {B:Bx} {θ:Sto} {H:Hp} {xs:List D} {vs:List V} {Q:VK} (G:Good X.cl B θ H) (r:RepL B H xs vs) (w:wpR X σ RepV B H (.ok (.tup xs) θ) Q):∀p,H p=none→Q (.ref p) (upd H p (.tup vs)):=
  fun p hp=>w B _ _ (Zc3 G hp _) (Ze6 G hp _) (Zse G hp r)
theorem ZfJ {σ:St} {B:Bx} {θ:Sto} {H:Hp} {xs:List D} {vs:List V} {Q:VK} (G:Good X.cl B θ H) (r:RepL B H xs vs) (w:wpR X σ RepV B H (.ok (.lst xs) θ) Q):∀p,H p=none→Q (.ref p) (upd H p (.lst vs)):=
  fun p hp=>w B _ _ (Zc3 G hp _) (Ze6 G hp _) (Zsf G hp r)
theorem ZrX {σ:St} {B:Bx} {θ:Sto} {H:Hp} {xs:List D} {vs:List V} {Q:VK} (G:Good X.cl B θ H) (r:RepL B H xs vs) (w:wpR X σ RepV B H (.ok (.ref θ.length) (θ++[.lst xs])) Q):∀p,H p=none→Q (.ref p) (upd H p (.lst vs)):=
  fun p hp=>w (B.push p) _ _ (Ze7 G hp _) (ZgV G hp ⟨vs,zE,r.ext (Ze7 G hp _).toExtS⟩) ⟨by rw [G.len]; exact Nat.lt_succ_self _,by rw [G.len]; show V.ref p=V.ref (if B.n=B.n then p else B.m B.n); rw [if_pos rfl]⟩
theorem ZZ {es:List Expr} {fs:AM} {x1} (h:MA X es fs):ME X (.Tuple es x1 pos) (Zak fs):=by
  refine PE.imp (ZuE h) fun σ H Q h=>?_
  obtain ⟨B,θ,ρ,F,w⟩:=h
  refine Zb6 (ZhT F w) ?_
  rintro xs' H2 ⟨B2,θ2,xs,E2,F2,rxs,w2⟩
  split at w2
  · rename_i hz
    exact ⟨by rw [rxs.len]; exact Zas hz,ZhM F2.good rxs w2⟩
  · exact w2.elim
theorem z6 {es:List Expr} {fs:AM} (h:MA X es fs):ME X (.List es pos) (Zb5 fs):=by
  refine PE.imp (Zqw h) fun σ H Q h=>?_
  obtain ⟨B,θ,ρ,F,w⟩:=h
  refine Zb6 (ZhT F w) ?_
  rintro xs' H2 ⟨B2,θ2,xs,E2,F2,rxs,w2⟩
  split at w2
  · rename_i hz
    exact ⟨by rw [rxs.len]; exact Zas hz,ZfJ F2.good rxs w2⟩
  · exact w2.elim
abbrev GM:=List D→Sto→R D
def mCB (g:GM) (f:AM):EM:=fun ρ θ=>(f ρ θ).bind fun xs θ=>g xs θ
def rC (X:Cx) (g:GM):List V→Hp→VK→Prop:=fun xs H Q=>∃σ B θ ds,Good X.cl B θ H∧RepL B H ds xs∧wpR X σ RepV B H (g ds θ) Q
theorem Zto {g:GM} {fs:AM} (σ:St) (H:Hp) (Q:VK) (h:tM X (mCB g fs) σ H Q):tCB (rC X g) (tMA X fs) σ H Q:=by
  obtain ⟨B,θ,ρ,F,w⟩:=h
  refine Zb6 (ZhT F w) ?_
  rintro xs' H2 ⟨B2,θ2,xs,E2,F2,rxs,w2⟩
  exact ⟨σ,B2,θ2,xs,F2.good,rxs,w2⟩
theorem zj {x:Str} {id:String} {p:Pos} {es:List Expr} {fs:AM} {g:GM} (hc:CallR X (.builtin id) (rC X g)) (hm:X.mg x=none) (hv:bootBuiltins x=some (.builtin id)) (ha:MA X (e::es) fs) (hg:Gl X x:=by rfl) (hn:x≠"__name__":=by decide) (hdb:(x == ("__debug__":Str))=false:=by decide)
    (he:starEach (e::es) X.env=(false,eval e X.env)::starEach es X.env:=by rfl) (hpl:(backTo pos (starEach es X.env)).any (·.1)=false:=by rfl):ME X (.Call (.Name x p) (e::es) [] pos) (mCB g fs):=
  PE.imp (Zlw hc hg hm hv ha hn hdb he hpl) Zto
theorem Za8 {x:Str} {T:String} {p:Pos} {es:List Expr} {fs:AM} {g:GM} (hc:CallR X (.type T) (rC X g)) (hm:X.mg x=none) (hv:bootBuiltins x=some (.type T)) (ha:MA X (e::es) fs) (hg:Gl X x:=by rfl) (hn:x≠"__name__":=by decide) (hdb:(x == ("__debug__":Str))=false:=by decide)
    (he:starEach (e::es) X.env=(false,eval e X.env)::starEach es X.env:=by rfl) (hpl:(backTo pos (starEach es X.env)).any (·.1)=false:=by rfl):ME X (.Call (.Name x p) (e::es) [] pos) (mCB g fs):=
  PE.imp (Zn5 hc hg hm hv ha hn hdb he hpl) Zto
end
end
end L2.MM
namespace L2.MM
open PySem PySem.Spec PyProof.Rows PySem.SeqAt
noncomputable section
variable {X:Cx}
section
open Classical in
def opI (C:Int→Int→Prop) (g:Int→Int→D):OM:=fun x y θ=>match x,y with
  | .int i,.int j=>if C i j then .ok (g i j) θ else .bad
  | _,_=>.bad
open Classical in
@[simp] theorem ZjB (C:Int→Int→Prop) (g:Int→Int→D) (i j:Int) (θ:Sto):opI C g (.int i) (.int j) θ=if C i j then .ok (g i j) θ else .bad:=nr rfl
open Classical in
theorem ZeZ {f:Value→Value→Sem Value} {C:Int→Int→Prop} {g:Int→Int→D} {gV:Int→Int→V} (h:OpR X f (rI C gV)) (r:∀B H i j,RepV B H (g i j) (gV i j)):OpR X f (rM X (opI C g)):=by
  refine OpR.imp h fun x y H Q q=>?_
  obtain ⟨σ,B,θ,d,e,G,rd,re,w⟩:=q
  unfold opI at w
  split at w
  · rename_i i j
    split at w
    · rename_i hc
      exact ⟨i,j,rd,re,hc,ZQ G (r B H i j) w⟩
    · exact w.elim
  · exact w.elim
theorem ZiT {f:Value→Value→Sem Value} {g:Int→Int→V} (h:OpR X f (rI0 g)):OpR X f (rI (fun _ _=>True) g):=OpR.imp h fun x y H Q ⟨i,j,a,b,_,q⟩=>⟨i,j,a,b,q⟩
abbrev ZeS:OM:=opI (fun _ _=>True) fun i j=>.int (i-j)
abbrev Zdt:OM:=opI (fun _ j=>0<j∧j<18446744073709551616) fun i j=>.int (i/j)
abbrev zD:OM:=opI (fun _ j=>0<j) fun i j=>.int (i % j)
abbrev Zw5:OM:=opI (fun _ _=>True) fun i j=>.int (Builtin.bitAnd i j)
abbrev ltM:OM:=opI (fun _ _=>True) fun i j=>.bl (decide (i<j))
abbrev leM:OM:=opI (fun _ _=>True) fun i j=>.bl (decide (i≤j))
abbrev gtM:OM:=opI (fun _ _=>True) fun i j=>.bl (decide (j<i))
abbrev geM:OM:=opI (fun _ _=>True) fun i j=>.bl (decide (j≤i))
theorem ZdW:OpR X (binaryOp .Sub) (rM X ZeS):=ZeZ (ZiT ZuN) fun _ _ _ _=>rfl
theorem ZcE:OpR X (binaryOp .FloorDiv) (rM X Zdt):=ZeZ (OpR.imp ZqF fun x y H Q ⟨i,j,a,b,c,q⟩=>⟨i,j,a,b,⟨c.1,by
  have h:j.natAbs<2 ^ 64:=by have:=c.1; have:=c.2; omega
  have h0:j.natAbs≠0:=by have:=c.1; omega
  have:=(Nat.log2_lt h0).mpr h
  omega⟩,q⟩) fun _ _ _ _=>rfl
theorem Z9:OpR X (binaryOp .Mod) (rM X zD):=ZeZ ZuQ fun _ _ _ _=>rfl
theorem ZwD:OpR X (binaryOp .BitAnd) (rM X Zw5):=ZeZ (ZiT ZuT) fun _ _ _ _=>rfl
theorem ZuW:OpR X (compareOp .Lt) (rM X ltM):=ZeZ (ZiT Zwx) fun _ _ i j=>by show _=V.bl _; congr
theorem Zh1:OpR X (compareOp .LtE) (rM X leM):=ZeZ (ZiT Zwy) fun _ _ i j=>by show _=V.bl _; congr
theorem Zga:OpR X (compareOp .Gt) (rM X gtM):=ZeZ (ZiT Zwz) fun _ _ i j=>by show _=V.bl _; congr
theorem ZsC:OpR X (compareOp .GtE) (rM X geM):=ZeZ (ZiT ZwA) fun _ _ i j=>by show _=V.bl _; congr
def ZK:OM:=fun x y θ=>match x,y with
  | .int i,.int j=>.ok (.int (i+j)) θ
  | .str i,.str j=>if i.length+j.length≤BIG then .ok (.str (i++j)) θ else .bad
  | .tup xs,.tup ys=>if xs.isEmpty=false∧xs.length+ys.length≤BIG then .ok (.tup (xs++ys)) θ else .bad
  | x,y=>match Zav θ x,Zav θ y with
    | some xs,some ys=>if xs.length+ys.length≤BIG then .ok (.lst (xs++ys)) θ else .bad
    | _,_=>.bad
@[simp] theorem ZrL (i j:Int) (θ:Sto):ZK (.int i) (.int j) θ=.ok (.int (i+j)) θ:=nr rfl
@[simp] theorem ZrK (xs ys:List D) (θ:Sto):ZK (.lst xs) (.lst ys) θ=if xs.length+ys.length≤BIG then .ok (.lst (xs++ys)) θ else .bad:=nr rfl
@[simp] theorem Zw6 (xs ys:List D) (θ:Sto):ZK (.tup xs) (.tup ys) θ=if xs.isEmpty=false∧xs.length+ys.length≤BIG then .ok (.tup (xs++ys)) θ else .bad:=nr rfl
theorem ZE:OpR X (binaryOp .Add) (rM X ZK):=by
  refine OpR.imp (op_add.or (op_add_str.or (op_catT.or ZqG))) fun x y H Q q=>?_
  obtain ⟨σ,B,θ,d,e,G,rd,re,w⟩:=q
  unfold ZK at w
  split at w
  · exact .inl ⟨_,_,rd,re,ZQ G (show RepV B H (.int _) (.int _) from rfl) w⟩
  · split at w
    · rename_i hz
      exact .inr (.inl ⟨_,_,rd,re,Zas hz,ZQ G (show RepV B H (.str _) (.str _) from rfl) w⟩)
    · exact w.elim
  · split at w
    · rename_i xs ys hz
      obtain ⟨a,vs,rfl,h1,k1,l1⟩:=rd
      obtain ⟨b,us,rfl,h2,k2,l2⟩:=re
      refine .inr (.inr (.inl ⟨a,b,vs,us,rfl,rfl,SqT.of h1,SqT.of h2,?_,?_,fun z=>?_,fun _=>ZhM G (l1.app l2) w⟩))
      · intro z
        have:=l1.emp
        rw [z,hz.1] at this
        simp at this
      · rw [l1.len,l2.len]; exact Zas hz.2
      · have e0:ys=[]:=by
          have:=l2.emp
          rw [z] at this
          cases ys with
          | nil=>rfl
          | cons _ _=>simp at this
        subst e0
        rw [List.append_nil] at w
        exact ZQ G (show RepV B H (.tup xs) (.ref a) from ⟨a,vs,rfl,h1,k1,l1⟩) w
    · exact w.elim
  · split at w
    · rename_i xs ys e1 e2
      split at w
      · rename_i hz
        obtain ⟨a,vs,rfl,h1,l1⟩:=z7 G rd e1
        obtain ⟨b,us,rfl,h2,l2⟩:=z7 G re e2
        exact .inr (.inr (.inr ⟨a,b,vs,us,rfl,rfl,h1,h2,by rw [l1.len,l2.len]; exact Zas hz,ZfJ G (l1.app l2) w⟩))
      · exact w.elim
    · exact w.elim
def ZdN (i j:Int):Prop:=(-18446744073709551616<i∧i<18446744073709551616)∨(-18446744073709551616<j∧j<18446744073709551616)
instance {i j:Int}:Decidable (ZdN i j):=by unfold ZdN; infer_instance
def Zba:OM:=fun x y θ=>match x,y with
  | .int i,.int j=>if ZdN i j then .ok (.int (i*j)) θ else .bad
  | .tup xs,.int k=>if xs.isEmpty=false∧0≤k∧k<1000∧(xs.length:Int)*k≤1000 then .ok (.tup (List.replicate k.toNat xs).flatten) θ else .bad
  | x,.int k=>match Zav θ x with
    | some xs=>if -1000000≤k∧k≤1000000∧xs.length*k.toNat≤BIG then .ok (.lst (List.replicate k.toNat xs).flatten) θ else .bad
    | _=>.bad
  | _,_=>.bad
@[simp] theorem ZqS (i j:Int) (θ:Sto):Zba (.int i) (.int j) θ=if ZdN i j then .ok (.int (i*j)) θ else .bad:=nr rfl
@[simp] theorem ZqQ (xs:List D) (k:Int) (θ:Sto):Zba (.tup xs) (.int k) θ=if xs.isEmpty=false∧0≤k∧k<1000∧(xs.length:Int)*k≤1000 then .ok (.tup (List.replicate k.toNat xs).flatten) θ else .bad:=nr rfl
@[simp] theorem ZqR (xs:List D) (k:Int) (θ:Sto):Zba (.lst xs) (.int k) θ=if -1000000≤k∧k≤1000000∧xs.length*k.toNat≤BIG then .ok (.lst (List.replicate k.toNat xs).flatten) θ else .bad:=nr rfl
theorem RepL.rep {B:Bx} {H:Hp} {xs:List D} {vs:List V} (r:RepL B H xs vs):∀k:Nat,RepL B H (List.replicate k xs).flatten (List.replicate k vs).flatten
  | 0=>rfl
  | k+1=>by
    rw [List.replicate_succ,List.replicate_succ,List.flatten_cons,List.flatten_cons]
    exact r.app (RepL.rep r k)
theorem ZbK:OpR X (binaryOp .Mult) (rM X Zba):=by
  refine OpR.imp (op_mul.or (op_repT.or ZuO)) fun x y H Q q=>?_
  obtain ⟨σ,B,θ,d,e,G,rd,re,w⟩:=q
  unfold Zba at w
  split at w
  · split at w
    · rename_i hc
      exact .inl ⟨_,_,rd,re,hc.imp (fun h=>⟨by have:=h.1; omega,by have:=h.2; omega⟩) (fun h=>⟨by have:=h.1; omega,by have:=h.2; omega⟩),ZQ G (show RepV B H (.int _) (.int _) from rfl) w⟩
    · exact w.elim
  · split at w
    · rename_i xs k hz
      obtain ⟨a,vs,rfl,h1,k1,l1⟩:=rd
      obtain ⟨z1,z2,z3,z4⟩:=hz
      refine .inr (.inl ⟨a,k,vs,rfl,re,SqT.of h1,?_,z2,z3,by rw [l1.len]; exact z4,fun z=>?_,fun _=>ZhM G (l1.rep _) w⟩)
      · intro z
        have:=l1.emp
        rw [z,z1] at this
        simp at this
      · subst z
        have e0:(List.replicate (1:Int).toNat xs).flatten=xs:=by simp
        rw [e0] at w
        exact ZQ G (show RepV B H (.tup xs) (.ref a) from ⟨a,vs,rfl,h1,k1,l1⟩) w
    · exact w.elim
  · split at w
    · rename_i xs e1
      split at w
      · rename_i hz
        obtain ⟨a,vs,rfl,h1,l1⟩:=z7 G rd e1
        exact .inr (.inr ⟨a,_,vs,rfl,re,h1,by have:=hz.1; omega,by have:=hz.2.1; omega,by rw [l1.len]; exact Zas hz.2.2,ZfJ G (l1.rep _) w⟩)
      · exact w.elim
    · exact w.elim
  · exact w.elim
def ZAa (f:EM):EM:=fun ρ θ=>(f ρ θ).bind fun x θ=>match x with
  | .int i=>.ok (.int (-i)) θ
  | _=>.bad
mutual
def dat:D→PyData
  | .bl b=>.bool b
  | .int i=>.int i
  | .str x=>.str x
  | .tup xs=>.tuple (Ze8 xs)
  | .lst xs=>.list (Ze8 xs)
  | _=>.none
def Ze8:List D→List PyData
  | []=>[]
  | d::r=>dat d::Ze8 r
end
mutual
def plain:D→Bool
  | .non=>true
  | .bl _=>true
  | .int _=>true
  | .str _=>true
  | .tup xs=>Zb7 xs
  | .lst xs=>Zb7 xs
  | _=>false
def Zb7:List D→Bool
  | []=>true
  | d::r=>plain d && Zb7 r
end
mutual
theorem rdv {B:Bx} {H:Hp} {K:PySem.W.Frag}:∀{d:D} {v:V},plain d=true→RepV B H d v→RdV K H v (dat d)
  | .non,_,_,r=>by cases (show _=V.non from r); exact .non
  | .bl b,_,_,r=>by cases (show _=V.bl b from r); exact .bl b
  | .int i,_,_,r=>by cases (show _=V.int i from r); exact .int i
  | .str x,_,_,r=>by cases (show _=V.str x from r); exact .str x
  | .tup xs,_,p,r=>by
    obtain ⟨a,vs,rfl,h,_,l⟩:=r
    exact .tup (SqT.of h) (Zsh p l)
  | .lst xs,_,p,r=>by
    obtain ⟨a,vs,rfl,h,_,l⟩:=r
    exact .lst (SqL.of h) (Zsh p l)
  | .ty _,_,p,_=>nomatch p
  | .scr _,_,p,_=>nomatch p
  | .ref _,_,p,_=>nomatch p
theorem Zsh {B:Bx} {H:Hp} {K:PySem.W.Frag}:∀{ds:List D} {vs:List V},Zb7 ds=true→RepL B H ds vs→RdVs K H vs (Ze8 ds)
  | [],_,_,r=>by cases (show _=[] from r); exact .nil
  | d::ds,_,p,r=>by
    obtain ⟨v,q,rfl,hv,hq⟩:=r
    have p':plain d=true∧Zb7 ds=true:=by simpa [Zb7] using p
    exact .cons (rdv p'.1 hv) (Zsh p'.2 hq)
end
mutual
theorem Zlp:∀{d e:D},plain d=true→plain e=true→(same (dat d) (dat e)=true↔d=e):=fun {d e} p q=>by
  cases d with
  | ty _=>exact nomatch p
  | scr _=>exact nomatch p
  | ref _=>exact nomatch p
  | non=>cases e<;>simp_all [plain,dat,same]
  | bl _=>cases e<;>simp_all [plain,dat,same]
  | int _=>cases e<;>simp_all [plain,dat,same]
  | str _=>cases e<;>simp_all [plain,dat,same]
  | tup xs=>
    cases e with
    | tup ys=>
      simp only [dat,same,D.tup.injEq]
      exact ZgF p q
    | ty _=>exact nomatch q
    | scr _=>exact nomatch q
    | ref _=>exact nomatch q
    | _=>simp [dat,same]
  | lst xs=>
    cases e with
    | lst ys=>
      simp only [dat,same,D.lst.injEq]
      exact ZgF p q
    | ty _=>exact nomatch q
    | scr _=>exact nomatch q
    | ref _=>exact nomatch q
    | _=>simp [dat,same]
theorem ZgF:∀{ds es:List D},Zb7 ds=true→Zb7 es=true→(sameAll (Ze8 ds) (Ze8 es)=true↔ds=es)
  | [],[],_,_=>by simp [Ze8,sameAll]
  | [],_::_,_,_=>by simp [Ze8,sameAll]
  | _::_,[],_,_=>by simp [Ze8,sameAll]
  | d::ds,e::es,p,q=>by
    have p':plain d=true∧Zb7 ds=true:=by simpa [Zb7] using p
    have q':plain e=true∧Zb7 es=true:=by simpa [Zb7] using q
    simp only [Ze8,sameAll,Bool.and_eq_true,List.cons.injEq]
    rw [Zlp p'.1 q'.1,ZgF p'.2 q'.2]
end
def look (θ:Sto) (d:D):D:=match d with
  | .ref l=>match θ[l]? with
    | some (.lst xs)=>.lst xs
    | _=>.ref l
  | d=>d
theorem Zgi {B:Bx} {θ:Sto} {H:Hp} {K:PySem.W.Frag} (G:Good X.cl B θ H) {d:D} {v:V} (r:RepV B H d v) (p:plain (look θ d)=true):RdV K H v (dat (look θ d)):=by
  cases d with
  | ref l=>
    unfold look at p ⊢
    simp only at p ⊢
    split at p
    · rename_i xs e
      obtain ⟨hl,rfl⟩:=r
      obtain ⟨vs,h1,h2⟩:=G.cel l _ e
      exact .lst (SqL.of h1) (Zsh p h2)
    · exact nomatch p
  | _=>exact rdv p r
structure Zjn (x y:D):Prop where
  px:plain x=true
  py:plain y=true
  sx:shaped (dat x)=true
  sy:shaped (dat y)=true
  nm:noMix (dat x) (dat y)=true
open Classical in
def eqM:OM:=fun x y θ=>if Zjn (look θ x) (look θ y) then .ok (.bl (decide (look θ x=look θ y))) θ else .bad
open Classical in
def neM:OM:=fun x y θ=>if Zjn (look θ x) (look θ y) then .ok (.bl (!decide (look θ x=look θ y))) θ else .bad
open Classical in
theorem Zlq {d e:D} (p:plain d=true) (q:plain e=true):same (dat d) (dat e)=decide (d=e):=by
  rw [Bool.eq_iff_iff,Zlp p q,decide_eq_true_iff]
open Classical in
theorem zW (hu:X.A.units+64<cLine):OpR X (compareOp .Eq) (rM X eqM):=by
  refine OpR.imp (ZuS hu) fun x y H Q q=>?_
  obtain ⟨σ,B,θ,d,e,G,rd,re,w⟩:=q
  unfold eqM at w
  split at w
  · rename_i c
    refine ⟨_,_,Zgi G rd c.px,Zgi G re c.py,c.sx,c.sy,c.nm,?_⟩
    rw [Zlq c.px c.py]
    exact ZQ G (show RepV B H (.bl _) (.bl _) from rfl) w
  · exact w.elim
open Classical in
theorem ZdH (hu:X.A.units+64<cLine):OpR X (compareOp .NotEq) (rM X neM):=by
  refine OpR.imp (ZuP hu) fun x y H Q q=>?_
  obtain ⟨σ,B,θ,d,e,G,rd,re,w⟩:=q
  unfold neM at w
  split at w
  · rename_i c
    refine ⟨_,_,Zgi G rd c.px,Zgi G re c.py,c.sx,c.sy,c.nm,?_⟩
    rw [Zlq c.px c.py]
    exact ZQ G (show RepV B H (.bl _) (.bl _) from rfl) w
  · exact w.elim
def ZjS:List D→Bool
  | []=>true
  | .int _::r=>ZjS r
  | _=>false
def ZiA:List D→Bool
  | []=>true
  | .str _::r=>ZiA r
  | _=>false
def memI (i:Int):List D→Bool
  | .int j::r=>decide (j=i) || memI i r
  | _=>false
def memS (x:Str):List D→Bool
  | .str y::r=>decide (y=x) || memS x r
  | _=>false
def inD (θ:Sto) (x y:D):Option Bool:=match seqOf θ y with
  | none=>none
  | some ys=>match x with
    | .int i=>if ZjS ys=true then some (memI i ys) else none
    | .str z=>if ZiA ys=true then some (memS z ys) else none
    | _=>none
def inM:OM:=fun x y θ=>match inD θ x y with
  | some k=>.ok (.bl k) θ
  | none=>.bad
def Zcq:OM:=fun x y θ=>match inD θ x y with
  | some k=>.ok (.bl (!k)) θ
  | none=>.bad
theorem Zhp {B:Bx} {H:Hp}:∀{ys:List D} {vs:List V},ZjS ys=true→RepL B H ys vs→vs.all ZdA=true∧∀i:Int,inV (.int i) vs=memI i ys
  | [],_,_,r=>by cases (show _=[] from r); exact ⟨rfl,fun _=>rfl⟩
  | d::ys,_,h,r=>by
    cases d with
    | int j=>
      obtain ⟨v,q,rfl,hv,hq⟩:=r
      cases (show v=V.int j from hv)
      obtain ⟨h1,h2⟩:=Zhp (show ZjS ys=true from h) hq
      refine ⟨by simp [ZdA] at h1 ⊢; exact h1,fun i=>?_⟩
      have:=h2 i
      unfold inV at this ⊢
      rw [List.any_cons,this]
      show (j == i || memI i ys)=(decide (j=i) || memI i ys)
      rw [Bool.beq_eq_decide_eq]
    | _=>exact nomatch h
theorem Zho {B:Bx} {H:Hp}:∀{ys:List D} {vs:List V},ZiA ys=true→RepL B H ys vs→vs.all ZdA=true∧∀i:Str,inV (.str i) vs=memS i ys
  | [],_,_,r=>by cases (show _=[] from r); exact ⟨rfl,fun _=>rfl⟩
  | d::ys,_,h,r=>by
    cases d with
    | str j=>
      obtain ⟨v,q,rfl,hv,hq⟩:=r
      cases (show v=V.str j from hv)
      obtain ⟨h1,h2⟩:=Zho (show ZiA ys=true from h) hq
      refine ⟨by simp [ZdA] at h1 ⊢; exact h1,fun i=>?_⟩
      have:=h2 i
      unfold inV at this ⊢
      rw [List.any_cons,this]
      show (j == i || memS i ys)=(decide (j=i) || memS i ys)
      rw [Bool.beq_eq_decide_eq]
    | _=>exact nomatch h
theorem Zre {cl:Mo} {B:Bx} {θ:Sto} {H:Hp} (G:Good cl B θ H) {d e:D} {x y:V} {k:Bool} (rd:RepV B H d x) (re:RepV B H e y) (h:inD θ d e=some k) :
    ∃p xs,y=.ref p∧(SqL cl.K H p xs∨SqT cl.K H p xs)∧ZdA x=true∧xs.all ZdA=true∧inV x xs=k:=by
  unfold inD at h
  split at h
  · cases h
  · rename_i ys e1
    obtain ⟨a,vs,rfl,h1,h2⟩:=Zda G re e1
    split at h
    · split at h
      · rename_i i hz
        cases h
        cases (show x=V.int i from rd)
        obtain ⟨q1,q2⟩:=Zhp hz h2
        exact ⟨a,vs,rfl,h1,rfl,q1,q2 i⟩
      · cases h
    · split at h
      · rename_i i hz
        cases h
        cases (show x=V.str i from rd)
        obtain ⟨q1,q2⟩:=Zho hz h2
        exact ⟨a,vs,rfl,h1,rfl,q1,q2 i⟩
      · cases h
    · cases h
theorem ZlC:OpR X (compareOp .In) (rM X inM):=by
  refine OpR.imp Zn6 fun x y H Q q=>?_
  obtain ⟨σ,B,θ,d,e,G,rd,re,w⟩:=q
  unfold inM at w
  split at w
  · rename_i k e1
    obtain ⟨p,xs,h1,h2,h3,h4,h5⟩:=Zre G rd re e1
    exact ⟨p,xs,h1,h2,h3,h4,by rw [h5]; exact ZQ G (show RepV B H (.bl _) (.bl _) from rfl) w⟩
  · exact w.elim
theorem ZhA:OpR X (compareOp .NotIn) (rM X Zcq):=by
  refine OpR.imp ZjA fun x y H Q q=>?_
  obtain ⟨σ,B,θ,d,e,G,rd,re,w⟩:=q
  unfold Zcq at w
  split at w
  · rename_i k e1
    obtain ⟨p,xs,h1,h2,h3,h4,h5⟩:=Zre G rd re e1
    exact ⟨p,xs,h1,h2,h3,h4,by rw [h5]; exact ZQ G (show RepV B H (.bl _) (.bl _) from rfl) w⟩
  · exact w.elim
def Zb1:D→Bool
  | .non=>true
  | _=>false
theorem ZlQ {B:Bx} {H:Hp} {d:D} {v:V} (r:RepV B H d v):Zb1 d=decide (v=.non):=by
  cases d with
  | non=>cases (show v=.non from r); simp [Zb1]
  | bl b=>cases (show v=.bl b from r); simp [Zb1]
  | int i=>cases (show v=.int i from r); simp [Zb1]
  | str x=>cases (show v=.str x from r); simp [Zb1]
  | ty n=>cases (show v=.ty n from r); simp [Zb1]
  | scr ns=>obtain ⟨a,rfl,_⟩:=r; simp [Zb1]
  | tup xs=>obtain ⟨a,o,rfl,_⟩:=r; simp [Zb1]
  | lst xs=>obtain ⟨a,o,rfl,_⟩:=r; simp [Zb1]
  | ref l=>obtain ⟨_,rfl⟩:=r; simp [Zb1]
def isM:OM:=fun x y θ=>match y with
  | .non=>.ok (.bl (Zb1 x)) θ
  | .bl c=>match x with
    | .bl b=>.ok (.bl (b == c)) θ
    | _=>.bad
  | _=>.bad
def ZgT:OM:=fun x y θ=>match y with
  | .non=>.ok (.bl (!Zb1 x)) θ
  | .bl c=>match x with
    | .bl b=>.ok (.bl (!(b == c))) θ
    | _=>.bad
  | _=>.bad
theorem ZuR:OpR X (compareOp .Is) (fun x y H Q=>∃b c:Bool,x=.bl b∧y=.bl c∧Q (.bl (b == c)) H):=by
  intro pins s σ H x y v u Q I rx ry h
  obtain ⟨b,c,rfl,rfl,q⟩:=h
  cases rx
  cases ry
  have e:(Value.bool b == Value.bool c)=(b == c):=by cases b<;>cases c<;>rfl
  exact wpAny_is_plain rfl ⟨.bl _,H,I,rfl,by rw [e]; exact q⟩
theorem ZqL:OpR X (compareOp .Is) (rM X isM):=by
  refine OpR.imp (op_isN.or ZuR) fun x y H Q q=>?_
  obtain ⟨σ,B,θ,d,e,G,rd,re,w⟩:=q
  unfold isM at w
  split at w
  · refine .inl ⟨re,?_⟩
    have q:=ZQ G (show RepV B H (.bl _) (.bl _) from rfl) w
    rw [ZlQ rd] at q
    exact q
  · split at w
    · exact .inr ⟨_,_,rd,re,ZQ G (show RepV B H (.bl _) (.bl _) from rfl) w⟩
    · exact w.elim
  · exact w.elim
theorem Znl:OpR X (compareOp .IsNot) (rM X ZgT):=by
  refine OpR.imp (op_notN.or Zsz) fun x y H Q q=>?_
  obtain ⟨σ,B,θ,d,e,G,rd,re,w⟩:=q
  unfold ZgT at w
  split at w
  · refine .inl ⟨re,?_⟩
    have q:=ZQ G (show RepV B H (.bl _) (.bl _) from rfl) w
    rw [ZlQ rd] at q
    exact q
  · split at w
    · exact .inr ⟨_,_,rd,re,ZQ G (show RepV B H (.bl _) (.bl _) from rfl) w⟩
    · exact w.elim
  · exact w.elim
end
end
end L2.MM
namespace L2.MM
open PySem PySem.Spec PyProof.Rows PySem.SeqAt
noncomputable section
variable {X:Cx}
section
def ixD (θ:Sto) (x:D) (i:Int):Option D:=match x with
  | .str z=>if z.length≤BIG then (atI z.cps.toList i).map fun c=>.str ⟨#[c]⟩ else none
  | x=>(seqOf θ x).bind (atI · i)
def ixM:OM:=fun x y θ=>match y with
  | .int i=>match ixD θ x i with
    | some d=>.ok d θ
    | none=>.bad
  | _=>.bad
theorem RepL.atI {B:Bx} {H:Hp} {xs:List D} {vs:List V} {i:Int} {d:D} (r:RepL B H xs vs) (h:atI xs i=some d):∃v,atI vs i=some v∧RepV B H d v:=by
  unfold L2.atI at h ⊢
  rw [r.len]
  cases e:ixN xs.length i with
  | none=>rw [e] at h; cases h
  | some j=>
    rw [e] at h
    exact r.get h
theorem Zy:IxR X (rM X ixM):=by
  refine IxR.imp Zra fun x y H Q q=>?_
  obtain ⟨σ,B,θ,d,e,G,rd,re,w⟩:=q
  unfold ixM at w
  split at w
  · rename_i i
    split at w
    · rename_i r e1
      have sq:(seqOf θ d).bind (L2.atI · i)=some r→rIx X.K x y H Q:=fun h=>by
        cases e2:seqOf θ d with
        | none=>rw [e2] at h; cases h
        | some xs=>
          rw [e2] at h
          obtain ⟨a,vs,rfl,h1,h2⟩:=Zda G rd e2
          obtain ⟨v,h3,h4⟩:=h2.atI h
          have q:=ZQ G h4 w
          rcases h1 with h1 | h1
          · exact .inl ⟨a,vs,i,v,rfl,re,h1,h3,q⟩
          · exact .inr (.inl ⟨a,vs,i,v,rfl,re,h1,h3,q⟩)
      cases d with
      | str z=>
        simp only [ixD] at e1
        split at e1
        · rename_i hz
          cases e2:L2.atI z.cps.toList i with
          | none=>rw [e2] at e1; cases e1
          | some c=>
            rw [e2] at e1
            cases e1
            exact .inr (.inr ⟨z,i,c,rd,re,Zas hz,e2,ZQ G (show RepV B H (.str _) (.str _) from rfl) w⟩)
        · cases e1
      | non=>exact sq e1
      | bl _=>exact sq e1
      | int _=>exact sq e1
      | ty _=>exact sq e1
      | scr _=>exact sq e1
      | tup _=>exact sq e1
      | lst _=>exact sq e1
      | ref _=>exact sq e1
    · exact w.elim
  · exact w.elim
abbrev PM:=List Sl→Sto→R (Option Int)
def EqO (_:Bx) (_:Hp) (a b:Option Int):Prop:=a=b
def tMO (X:Cx) (f:PM):TO:=fun σ H Q=>∃B θ ρ,Frm X.cl B θ ρ σ H∧wpR X σ EqO B H (f ρ θ) Q
def MO (X:Cx) (e:Option Expr) (f:PM):Prop:=PO X e (tMO X f)
theorem ZeR {f:PM} {σ:St} {H:Hp} {Q Q':Option Int→Hp→Prop} (h:tMO X f σ H Q) (hQ:∀v H',Q v H'→Q' v H'):tMO X f σ H Q':=let ⟨B,θ,ρ,F,w⟩:=h; ⟨B,θ,ρ,F,w.mono hQ⟩
theorem Zlo {σ:St} {H:Hp} {γ δ:Type} {Rel':Bx→Hp→γ→δ→Prop} {B:Bx} {θ:Sto} {ρ:List Sl} {f:PM} {k:Option Int→Sto→R γ} {Q:δ→Hp→Prop} (F:Frm X.cl B θ ρ σ H) (h:wpR X σ Rel' B H ((f ρ θ).bind k) Q) :
    tMO X f σ H (fun c H1=>∃B1 θ1,ExtE B B1 H H1∧Frm X.cl B1 θ1 ρ σ H1∧wpR X σ Rel' B1 H1 (k c θ1) Q):=
  ⟨B,θ,ρ,F,(wpR.bind (Rel:=EqO) h).mono fun v H1 ⟨B1,θ1,d,E,G,r,w⟩=>by cases (show d=v from r); exact ⟨B1,θ1,E,F.ext E G,w⟩⟩
def zh:PM:=fun _ θ=>.ok none θ
def zO (f:EM):PM:=fun ρ θ=>(f ρ θ).bind fun x θ=>match x with
  | .int i=>.ok (some i) θ
  | _=>.bad
theorem PO.imp {e:Option Expr} {t t':TO} (h:PO X e t) (hi:∀σ H Q,t' σ H Q→t σ H Q):PO X e t':=fun pins s σ H Q I q=>h pins s σ H Q I (hi σ H Q q)
theorem Zad:MO X none zh:=PO.imp Zsq fun σ H Q h=>by
  obtain ⟨B,θ,ρ,F,w⟩:=h
  exact ZQ (Rel:=EqO) F.good rfl w
theorem zi {e:Expr} {f:EM} (h:ME X e f):MO X (some e) (zO f):=PO.imp (Zsp h) fun σ H Q h=>by
  obtain ⟨B,θ,ρ,F,w⟩:=h
  refine Z3 (step F w) ?_
  rintro v H1 ⟨B1,θ1,x,E1,F1,rx,w1⟩
  cases x with
  | int i=>exact ⟨i,rx,ZQ (Rel:=EqO) F1.good rfl w1⟩
  | _=>exact w1.elim
def Zaw {α:Type} (xs:List α) (lo hi:Option Int):List α:=(xs.drop (HT.sIx xs.length 0 lo)).take (HT.sIx xs.length xs.length hi-HT.sIx xs.length 0 lo)
theorem RepL.cut {B:Bx} {H:Hp} {xs:List D} {vs:List V} (r:RepL B H xs vs) (lo hi:Option Int):RepL B H (Zaw xs lo hi) (Zl2 vs lo hi):=by
  unfold Zaw Zl2
  rw [r.len]
  exact (r.drop _).take _
def ZcM (θ:Sto) (x:D) (lo hi:Option Int):Option D:=match x with
  | .tup xs=>if HT.sIx xs.length 0 lo=0∧HT.sIx xs.length xs.length hi=xs.length then none else some (.tup (Zaw xs lo hi))
  | x=>(Zav θ x).map fun xs=>.lst (Zaw xs lo hi)
def mSl (f:EM) (lo hi:PM):EM:=fun ρ θ=>(f ρ θ).bind fun x θ=>(lo ρ θ).bind fun l θ=>(hi ρ θ).bind fun h θ=>match ZcM θ x l h with
  | some d=>.ok d θ
  | none=>.bad
theorem zt {e:Expr} {lo hi:Option Expr} {f:EM} {fl fh:PM} {pos p2:Pos} (he:ME X e f) (hl:MO X lo fl) (hh:MO X hi fh):ME X (.Subscript e (.Slice lo hi none p2) pos) (mSl f fl fh):=by
  refine PE.imp (Zqu (sl_list.or Zui) he hl hh) fun σ H Q h=>?_
  obtain ⟨B,θ,ρ,F,w⟩:=h
  refine Z3 (step F w) ?_
  rintro v H1 ⟨B1,θ1,x,E1,F1,rx,w1⟩
  refine ZeR (Zlo F1 w1) ?_
  rintro l H2 ⟨B2,θ2,E2,F2,w2⟩
  refine ZeR (Zlo F2 w2) ?_
  rintro u H3 ⟨B3,θ3,E3,F3,w3⟩
  have rx3:=rx.ext (E2.trans E3).toExtS
  have lst:∀d,(Zav θ3 x).map (fun xs=>D.lst (Zaw xs l u))=some d→wpR X σ RepV B3 H3 (R.ok d θ3) Q→Zwe X.K v l u H3 Q:=fun d h w=>by
    cases e2:Zav θ3 x with
    | none=>rw [e2] at h; cases h
    | some xs=>
      rw [e2] at h
      cases h
      obtain ⟨a,vs,rfl,h1,h2⟩:=z7 F3.good rx3 e2
      exact ⟨a,vs,rfl,SqL.of h1,ZfJ F3.good (h2.cut l u) w⟩
  split at w3
  · rename_i d e1
    cases x with
    | tup xs=>
      simp only [ZcM] at e1
      split at e1
      · cases e1
      · rename_i hw
        cases e1
        obtain ⟨a,vs,rfl,h1,k1,l1⟩:=rx3
        exact .inr ⟨a,vs,rfl,SqT.of h1,by rw [l1.len]; exact hw,ZhM F3.good (l1.cut l u) w3⟩
    | non=>exact .inl (lst d e1 w3)
    | bl _=>exact .inl (lst d e1 w3)
    | int _=>exact .inl (lst d e1 w3)
    | str _=>exact .inl (lst d e1 w3)
    | ty _=>exact .inl (lst d e1 w3)
    | scr _=>exact .inl (lst d e1 w3)
    | lst _=>exact .inl (lst d e1 w3)
    | ref _=>exact .inl (lst d e1 w3)
  · exact w3.elim
def ZdU {α:Type} (xs:List α) (lo hi st:Option Int):List α:=(sliceRange (sliceBounds lo hi st xs.length).1 (sliceBounds lo hi st xs.length).2.1 (sliceBounds lo hi st xs.length).2.2).filterMap (xs[·]?)
theorem RepL.none_of:∀{B:Bx} {H:Hp} {xs:List D} {vs:List V} {i:Nat},RepL B H xs vs→xs[i]?=none→vs[i]?=none:=fun {B H xs vs i} r e=>by
  have h1:=r.len
  have h2:xs.length≤i:=List.getElem?_eq_none_iff.mp e
  exact List.getElem?_eq_none_iff.mpr (by omega)
theorem RepL.pick {B:Bx} {H:Hp} {xs:List D} {vs:List V} (r:RepL B H xs vs):∀ks:List Nat,RepL B H (ks.filterMap (xs[·]?)) (ks.filterMap (vs[·]?))
  | []=>rfl
  | k::ks=>by
    cases e:xs[k]? with
    | none=>rw [List.filterMap_cons_none e,List.filterMap_cons_none (r.none_of e)]; exact r.pick ks
    | some x=>
      obtain ⟨u,e',q⟩:=r.get e
      rw [List.filterMap_cons_some e,List.filterMap_cons_some e']
      exact ⟨_,_,rfl,q,r.pick ks⟩
def ZsM (f:EM) (lo hi st:PM):EM:=fun ρ θ=>(f ρ θ).bind fun x θ=>(lo ρ θ).bind fun l θ=>(hi ρ θ).bind fun h θ=>(st ρ θ).bind fun s θ=>match Zav θ x with
  | some xs=>if s≠some 0∧(ZdU xs l h s).length≤BIG then .ok (.lst (ZdU xs l h s)) θ else .bad
  | none=>.bad
theorem Zi4 {e sp:Expr} {lo hi:Option Expr} {f:EM} {fl fh fs:PM} {pos p2:Pos} (he:ME X e f) (hl:MO X lo fl) (hh:MO X hi fh) (hs:MO X (some sp) fs):ME X (.Subscript e (.Slice lo hi (some sp) p2) pos) (ZsM f fl fh fs):=by
  refine PE.imp (Zn4 he hl hh hs) fun σ H Q h=>?_
  obtain ⟨B,θ,ρ,F,w⟩:=h
  refine Z3 (step F w) ?_
  rintro v H1 ⟨B1,θ1,x,E1,F1,rx,w1⟩
  refine ZeR (Zlo F1 w1) ?_
  rintro l H2 ⟨B2,θ2,E2,F2,w2⟩
  refine ZeR (Zlo F2 w2) ?_
  rintro u H3 ⟨B3,θ3,E3,F3,w3⟩
  refine ZeR (Zlo F3 w3) ?_
  rintro s H4 ⟨B4,θ4,E4,F4,w4⟩
  split at w4
  · rename_i xs e1
    split at w4
    · rename_i hz
      obtain ⟨a,vs,rfl,h1,h2⟩:=z7 F4.good (rx.ext ((E2.trans E3).trans E4).toExtS) e1
      have p:RepL B4 H4 (ZdU xs l u s) (ZeV vs l u s):=by
        unfold ZdU ZeV
        rw [h2.len]
        exact h2.pick _
      exact ⟨a,vs,rfl,SqL.of h1,hz.1,by rw [p.len]; exact Zas hz.2,ZfJ F4.good p w4⟩
    · exact w4.elim
  · exact w4.elim
def Zes:GM:=fun ds θ=>match ds with
  | [.str z]=>if z.length≤BIG then .ok (.int z.length) θ else .bad
  | [d]=>match seqOf θ d with
    | some xs=>.ok (.int xs.length) θ
    | none=>.bad
  | _=>.bad
theorem RepL.one {B:Bx} {H:Hp} {d:D} {vs:List V} (r:RepL B H [d] vs):∃v,vs=[v]∧RepV B H d v:=by
  obtain ⟨v,q,rfl,hv,hq⟩:=r
  cases (show q=[] from hq)
  exact ⟨v,rfl,hv⟩
theorem RepL.two {B:Bx} {H:Hp} {d e:D} {vs:List V} (r:RepL B H [d,e] vs):∃v u,vs=[v,u]∧RepV B H d v∧RepV B H e u:=by
  obtain ⟨v,q,rfl,hv,hq⟩:=r
  obtain ⟨u,rfl,hu⟩:=hq.one
  exact ⟨v,u,rfl,hv,hu⟩
theorem ZeJ:CallR X (.builtin "len") (rC X Zes):=by
  refine CallR.imp (call_len_str.or Zgr) fun vs H Q q=>?_
  obtain ⟨σ,B,θ,ds,G,r,w⟩:=q
  unfold Zes at w
  split at w
  · split at w
    · rename_i z hz
      obtain ⟨v,rfl,rv⟩:=r.one
      cases (show v=V.str z from rv)
      exact .inl ⟨z,rfl,Zas hz,ZQ G (show RepV B H (.int _) (.int _) from rfl) w⟩
    · exact w.elim
  · split at w
    · rename_i xs e1
      obtain ⟨v,rfl,rv⟩:=r.one
      obtain ⟨a,us,rfl,h1,h2⟩:=Zda G rv e1
      exact .inr ⟨a,us,rfl,h1,by rw [h2.len]; exact ZQ G (show RepV B H (.int _) (.int _) from rfl) w⟩
    · exact w.elim
  · exact w.elim
def Zgm:List D→Option (List Int)
  | []=>some []
  | .int i::r=>(Zgm r).map (i::·)
  | _=>none
@[simp] theorem Zrc (ns:List Int):Zgm (ns.map D.int)=some ns:=by
  induction ns with
  | nil=>rfl
  | cons n r ih=>simp [Zgm,ih]
theorem Znw:∀{ds:List D} {ns:List Int},Zgm ds=some ns→ds=ns.map D.int
  | [],_,h=>by cases h; rfl
  | d::r,ns,h=>by
    cases d with
    | int i=>
      simp only [Zgm] at h
      cases e:Zgm r with
      | none=>rw [e] at h; cases h
      | some ms=>rw [e] at h; cases h; rw [Znw e]; rfl
    | _=>cases h
theorem ZlR {B:Bx} {H:Hp}:∀{ns:List Int} {vs:List V},RepL B H (ns.map D.int) vs→vs=ns.map V.int
  | [],_,r=>r
  | n::ns,_,r=>by
    obtain ⟨v,q,rfl,hv,hq⟩:=r
    cases (show v=V.int n from hv)
    rw [ZlR hq]; rfl
def ZjN:List D→Option (List Bool)
  | []=>some []
  | .bl i::r=>(ZjN r).map (i::·)
  | _=>none
theorem ZrF:∀{ds:List D} {ns:List Bool},ZjN ds=some ns→ds=ns.map D.bl
  | [],_,h=>by cases h; rfl
  | d::r,ns,h=>by
    cases d with
    | bl i=>
      simp only [ZjN] at h
      cases e:ZjN r with
      | none=>rw [e] at h; cases h
      | some ms=>rw [e] at h; cases h; rw [ZrF e]; rfl
    | _=>cases h
theorem ZnE {B:Bx} {H:Hp}:∀{ns:List Bool} {vs:List V},RepL B H (ns.map D.bl) vs→vs=ns.map V.bl
  | [],_,r=>r
  | n::ns,_,r=>by
    obtain ⟨v,q,rfl,hv,hq⟩:=r
    cases (show v=V.bl n from hv)
    rw [ZnE hq]; rfl
def ZnU:GM:=fun ds θ=>match ds with
  | [d]=>match (Zav θ d).bind Zgm with
    | some ns=>.ok (.int ns.sum) θ
    | none=>.bad
  | _=>.bad
theorem ZtH (hc:X.calm=true:=by rfl):CallR X (.builtin "sum") (rC X ZnU):=by
  refine CallR.imp (ZrB hc) fun vs H Q q=>?_
  obtain ⟨σ,B,θ,ds,G,r,w⟩:=q
  unfold ZnU at w
  split at w
  · rename_i d
    split at w
    · rename_i ns e1
      obtain ⟨v,rfl,rv⟩:=r.one
      cases e2:Zav θ d with
      | none=>rw [e2] at e1; cases e1
      | some xs=>
        rw [e2] at e1
        obtain ⟨a,us,rfl,h1,h2⟩:=z7 G rv e2
        rw [Znw (show Zgm xs=some ns from e1)] at h2
        rw [ZlR h2] at h1
        exact ⟨a,ns,rfl,SqL.of h1,ZQ G (show RepV B H (.int _) (.int _) from rfl) w⟩
    · exact w.elim
  · exact w.elim
def Zou:GM:=fun ds θ=>match ds with
  | [d]=>match (Zav θ d).bind ZjN with
    | some ns=>.ok (.bl (ns.all id)) θ
    | none=>.bad
  | _=>.bad
theorem Zw2 (hc:X.calm=true:=by rfl):CallR X (.builtin "all") (rC X Zou):=by
  refine CallR.imp (ZrD hc) fun vs H Q q=>?_
  obtain ⟨σ,B,θ,ds,G,r,w⟩:=q
  unfold Zou at w
  split at w
  · rename_i d
    split at w
    · rename_i ns e1
      obtain ⟨v,rfl,rv⟩:=r.one
      cases e2:Zav θ d with
      | none=>rw [e2] at e1; cases e1
      | some xs=>
        rw [e2] at e1
        obtain ⟨a,us,rfl,h1,h2⟩:=z7 G rv e2
        rw [ZrF (show ZjN xs=some ns from e1)] at h2
        rw [ZnE h2] at h1
        exact ⟨a,ns,rfl,SqL.of h1,ZQ G (show RepV B H (.bl _) (.bl _) from rfl) w⟩
    · exact w.elim
  · exact w.elim
def ZlH:GM:=fun ds θ=>match ds with
  | [.int i,.int j]=>.ok (.int (if j<i then j else i)) θ
  | [.int i,.int j,.int k]=>.ok (.int (if j<i then (if k<j then k else j) else (if k<i then k else i))) θ
  | _=>.bad
def ZsL:GM:=fun ds θ=>match ds with
  | [.int i,.int j]=>.ok (.int (if j > i then j else i)) θ
  | _=>.bad
theorem RepL.three {B:Bx} {H:Hp} {d e f:D} {vs:List V} (r:RepL B H [d,e,f] vs):∃v u w,vs=[v,u,w]∧RepV B H d v∧RepV B H e u∧RepV B H f w:=by
  obtain ⟨v,q,rfl,hv,hq⟩:=r
  obtain ⟨u,w,rfl,hu,hw⟩:=hq.two
  exact ⟨v,u,w,rfl,hv,hu,hw⟩
theorem Zoo (hc:X.calm=true):CallR X (.builtin "min") (fun xs H Q=>∃i j k,xs=[.int i,.int j,.int k]∧Q (.int (if j<i then (if k<j then k else j) else (if k<i then k else i))) H):=by
  intro pins s σ H xs us Q I r h
  obtain ⟨i,j,k,rfl,q⟩:=h
  cases r with
  | cons r1 rr=>
    obtain ⟨u2,u3,e,r2,r3⟩:=Zp0 rr
    subst e
    obtain ⟨t1,rfl⟩:=r1
    obtain ⟨t2,rfl⟩:=r2
    obtain ⟨t3,rfl⟩:=r3
    refine min_three_ints (I.ok.hd hc) fun h' tk kk=>⟨_,H,I.kept kk,?_,q⟩
    by_cases c1:j<i
    · by_cases c2:k<j
      · simp only [c1,c2,if_true]; exact ⟨_,rfl⟩
      · simp only [c1,c2,if_true,if_false]; exact ⟨_,rfl⟩
    · by_cases c2:k<i
      · simp only [c1,c2,if_true,if_false]; exact ⟨_,rfl⟩
      · simp only [c1,c2,if_false]; exact ⟨_,rfl⟩
theorem ZnD (hc:X.calm=true:=by rfl):CallR X (.builtin "min") (rC X ZlH):=by
  refine CallR.imp ((Zop hc).or (Zoo hc)) fun vs H Q q=>?_
  obtain ⟨σ,B,θ,ds,G,r,w⟩:=q
  unfold ZlH at w
  split at w
  · rename_i i j
    obtain ⟨v,u,rfl,rv,ru⟩:=r.two
    cases (show v=V.int i from rv)
    cases (show u=V.int j from ru)
    exact .inl ⟨i,j,rfl,ZQ G (show RepV B H (.int _) (.int _) from rfl) w⟩
  · rename_i i j k
    obtain ⟨v,u,z,rfl,rv,ru,rz⟩:=r.three
    cases (show v=V.int i from rv)
    cases (show u=V.int j from ru)
    cases (show z=V.int k from rz)
    exact .inr ⟨i,j,k,rfl,ZQ G (show RepV B H (.int _) (.int _) from rfl) w⟩
  · exact w.elim
theorem Zw1 (hc:X.calm=true:=by rfl):CallR X (.builtin "max") (rC X ZsL):=by
  refine CallR.imp (Zoq hc) fun vs H Q q=>?_
  obtain ⟨σ,B,θ,ds,G,r,w⟩:=q
  unfold ZsL at w
  split at w
  · rename_i i j
    obtain ⟨v,u,rfl,rv,ru⟩:=r.two
    cases (show v=V.int i from rv)
    cases (show u=V.int j from ru)
    exact ⟨i,j,rfl,ZQ G (show RepV B H (.int _) (.int _) from rfl) w⟩
  · exact w.elim
def Zrd:GM:=fun ds θ=>match ds with
  | [.int i]=>.ok (.int i) θ
  | [.bl k]=>.ok (.int (if k then 1 else 0)) θ
  | _=>.bad
theorem ZtI:CallR X (.type "int") (rC X Zrd):=by
  refine CallR.imp Zor fun vs H Q q=>?_
  obtain ⟨σ,B,θ,ds,G,r,w⟩:=q
  unfold Zrd at w
  split at w
  · rename_i i
    obtain ⟨v,rfl,rv⟩:=r.one
    cases (show v=V.int i from rv)
    exact .inl ⟨i,rfl,ZQ G (show RepV B H (.int _) (.int _) from rfl) w⟩
  · rename_i k
    obtain ⟨v,rfl,rv⟩:=r.one
    cases (show v=V.bl k from rv)
    exact .inr ⟨k,rfl,ZQ G (show RepV B H (.int _) (.int _) from rfl) w⟩
  · exact w.elim
def Zhe:GM:=fun ds θ=>match ds with
  | [d]=>match seqOf θ d with
    | some xs=>.ok (.lst xs) θ
    | none=>.bad
  | _=>.bad
theorem ZjM:CallR X (.type "list") (rC X Zhe):=by
  refine CallR.imp ZjL fun vs H Q q=>?_
  obtain ⟨σ,B,θ,ds,G,r,w⟩:=q
  unfold Zhe at w
  split at w
  · split at w
    · rename_i xs e1
      obtain ⟨v,rfl,rv⟩:=r.one
      obtain ⟨a,us,rfl,h1,h2⟩:=Zda G rv e1
      exact ⟨a,us,rfl,h1,ZfJ G h2 w⟩
    · exact w.elim
  · exact w.elim
def ZfK:GM:=fun ds θ=>match ds with
  | [.tup xs]=>.ok (.tup xs) θ
  | [d]=>match Zav θ d with
    | some xs=>.ok (.tup xs) θ
    | none=>.bad
  | _=>.bad
theorem ZhI:CallR X (.type "tuple") (rC X ZfK):=by
  refine CallR.imp ZiI fun vs H Q q=>?_
  obtain ⟨σ,B,θ,ds,G,r,w⟩:=q
  unfold ZfK at w
  split at w
  · rename_i xs
    obtain ⟨v,rfl,rv⟩:=r.one
    obtain ⟨a,us,rfl,h1,k1,l1⟩:=id rv
    exact ⟨a,us,rfl,.inr ⟨SqT.of h1,ZQ G rv w⟩⟩
  · split at w
    · rename_i xs e1
      obtain ⟨v,rfl,rv⟩:=r.one
      obtain ⟨a,us,rfl,h1,h2⟩:=z7 G rv e1
      exact ⟨a,us,rfl,.inl ⟨SqL.of h1,ZhM G h2 w⟩⟩
    · exact w.elim
  · exact w.elim
inductive Ty | non | bl | int | str | lst | tup
def Ty.nm:Ty→String
  | .non=>"NoneType" | .bl=>"bool" | .int=>"int" | .str=>"str" | .lst=>"list" | .tup=>"tuple"
def tyD (θ:Sto):D→Option Ty
  | .non=>some .non
  | .bl _=>some .bl
  | .int _=>some .int
  | .str _=>some .str
  | .tup _=>some .tup
  | .scr _=>none
  | d=>(Zav θ d).map fun _=>.lst
def isT:Ty→String→Option Bool
  | .non,"int"=>some false | .non,"bool"=>some false | .non,"list"=>some false | .non,"tuple"=>some false | .non,"str"=>some false
  | .bl,"int"=>some true | .bl,"bool"=>some true | .bl,"list"=>some false | .bl,"tuple"=>some false | .bl,"str"=>some false
  | .int,"int"=>some true | .int,"bool"=>some false | .int,"list"=>some false | .int,"tuple"=>some false | .int,"str"=>some false
  | .str,"int"=>some false | .str,"bool"=>some false | .str,"list"=>some false | .str,"tuple"=>some false | .str,"str"=>some true
  | .lst,"int"=>some false | .lst,"bool"=>some false | .lst,"list"=>some true | .lst,"tuple"=>some false | .lst,"str"=>some false
  | .tup,"int"=>some false | .tup,"bool"=>some false | .tup,"list"=>some false | .tup,"tuple"=>some true | .tup,"str"=>some false
  | _,_=>none
theorem Zu6 {K:PySem.W.Frag} {t:Ty} {n:String} {b:Bool} (h:isT t n=some b):PySem.W.kitOne K (.type t.nm) (.type n)=some b:=by
  unfold isT at h
  split at h<;>first | (cases h; with_unfolding_all rfl) | cases h
def Zhh:GM:=fun ds θ=>match ds with
  | [d,.ty n]=>match (tyD θ d).bind (isT · n) with
    | some b=>.ok (.bl b) θ
    | none=>.bad
  | _=>.bad
theorem ZtX {B:Bx} {θ:Sto} {H:Hp} {K:PySem.W.Frag} (G:Good X.cl B θ H) {d:D} {v:V} {t:Ty} (r:RepV B H d v) (h:tyD θ d=some t):ZgA K H v (.type t.nm):=by
  cases d with
  | non=>cases (show v=.non from r); cases h; exact .non
  | bl b=>cases (show v=.bl b from r); cases h; exact .bl b
  | int b=>cases (show v=.int b from r); cases h; exact .int b
  | str b=>cases (show v=.str b from r); cases h; exact .str b
  | tup xs=>obtain ⟨a,vs,rfl,h1,_⟩:=r; cases h; exact .tup h1
  | scr xs=>cases h
  | lst xs=>obtain ⟨a,vs,rfl,h1,_⟩:=r; cases h; exact .lst h1
  | ref l=>
    cases e:Zav θ (.ref l) with
    | none=>simp only [tyD,e] at h; cases h
    | some xs=>
      simp only [tyD,e] at h
      cases h
      obtain ⟨a,us,rfl,h1,h2⟩:=z7 G r e
      exact .lst h1
  | ty n=>cases h
theorem ZmO:CallR X (.builtin "isinstance") (rC X Zhh):=by
  refine CallR.imp Zl5 fun vs H Q q=>?_
  obtain ⟨σ,B,θ,ds,G,r,w⟩:=q
  unfold Zhh at w
  split at w
  · rename_i d n
    split at w
    · rename_i b e1
      obtain ⟨v,u,rfl,rv,ru⟩:=r.two
      cases (show u=V.ty n from ru)
      cases e2:tyD θ d with
      | none=>rw [e2] at e1; cases e1
      | some t=>
        rw [e2] at e1
        exact ⟨v,n,_,b,rfl,ZtX G rv e2,Zu6 e1,ZQ G (show RepV B H (.bl _) (.bl _) from rfl) w⟩
    · exact w.elim
  · exact w.elim
end
end
end L2.MM
namespace L2.MM
open PySem PySem.Spec PyProof.Rows PySem.SeqAt
noncomputable section
variable {X:Cx}
inductive Src where
  | seq (d:D) | rng (lo:Int) (n:Nat)
def Src.items (θ:Sto):Src→Option (List D)
  | .seq d=>seqOf θ d
  | .rng lo n=>some ((List.range n).map fun (i:Nat)=>D.int (lo+(i:Int)))
def SrcRep (K:PySem.W.Frag) (B:Bx) (H:Hp):Src→It→Prop
  | .seq d,J=>∃a,RepV B H d (.ref a)∧J=(match d with | .tup _=>Itt K a | _=>Itl K a)
  | .rng lo n,J=>J=Itr lo n
abbrev IM:=List Sl→Sto→R Src
section
def tMI (X:Cx) (f:IM):TI:=fun σ H Q=>∃B θ ρ,Frm X.cl B θ ρ σ H∧wpR X σ (SrcRep X.K) B H (f ρ θ) Q
def MI (X:Cx) (tg iter:Expr) (f:IM):Prop:=PI X tg iter (tMI X f)
theorem PI.imp {tg iter:Expr} {t t':TI} (h:PI X tg iter t) (hi:∀σ H Q,t' σ H Q→t σ H Q):PI X tg iter t':=fun pins s σ H Q I q=>h pins s σ H Q I (hi σ H Q q)
theorem SrcRep.ext {K:PySem.W.Frag} {B B':Bx} {H H':Hp} {S:Src} {J:It} (r:SrcRep K B H S J) (E:ExtS B B' H H'):SrcRep K B' H' S J:=by
  cases S with
  | seq d=>obtain ⟨a,h,e⟩:=r; exact ⟨a,h.ext E,e⟩
  | rng lo n=>exact r
theorem Zjs {cl:Mo} {B:Bx} {θ:Sto} {H:Hp} {S:Src} {J:It} {xs:List D} (G:Good cl B θ H) (r:SrcRep cl.K B H S J) (h:S.items θ=some xs) :
    (∀i d,xs[i]?=some d→J.go i H∧∀x H',J.yld i H x H'→H'=H∧RepV B H d x)∧J.stop xs.length H:=by
  cases S with
  | rng lo n=>
    cases (show J=Itr lo n from r)
    cases h
    refine ⟨fun i d e=>?_,by show n≤_; simp⟩
    rw [List.getElem?_map] at e
    by_cases hi:i<n
    · rw [List.getElem?_range hi] at e
      cases e
      exact ⟨hi,fun x H' y=>⟨y.1,y.2⟩⟩
    · rw [List.getElem?_eq_none (by simpa using hi)] at e
      cases e
  | seq d=>
    obtain ⟨a,rv,e⟩:=r
    cases d with
    | tup ys=>
      obtain ⟨a',vs,e1,h1,_,h2⟩:=rv
      cases e1
      cases h
      simp only at e
      subst e
      refine ⟨fun i d e=>?_,⟨vs,SqT.of h1,by rw [h2.len]; exact Nat.le_refl _⟩⟩
      obtain ⟨v,q1,q2⟩:=h2.get e
      refine ⟨⟨vs,v,SqT.of h1,q1⟩,fun x H' y=>⟨y.1,?_⟩⟩
      have:=y.2 vs (SqT.of h1)
      rw [q1] at this
      cases this
      exact q2
    | scr ns=>
      cases h
      obtain ⟨a',vs',e1,h1,_⟩:=Zda G rv (show seqOf θ (.scr ns)=some (ns.map D.int) from rfl)
      cases e1
      simp only at e
      subst e
      have hS:SqL cl.K H a (ns.map V.int):=by
        obtain ⟨a',e1,h1⟩:=rv
        cases e1
        rcases h1 with ⟨o,h1,_⟩ | h1
        · exact .inl (.inr ⟨o,h1⟩)
        · exact .inr (G.kc a ns h1)
      have h2:RepL B H (ns.map D.int) (ns.map V.int):=RepL.map (f:=D.int) (g:=V.int) (fun _=>rfl) ns
      refine ⟨fun i d e=>?_,⟨ns.map V.int,hS,by simp⟩⟩
      obtain ⟨v,q1,q2⟩:=h2.get e
      refine ⟨⟨_,v,hS,q1⟩,fun x H' y=>⟨y.1,?_⟩⟩
      have:=y.2 _ hS
      rw [q1] at this
      cases this
      exact q2
    | lst ys=>
      obtain ⟨a',vs,e1,h1,h2⟩:=z7 G rv (show Zav θ (.lst ys)=some xs from h)
      cases e1
      simp only at e
      subst e
      refine ⟨fun i d e=>?_,⟨vs,SqL.of h1,by rw [h2.len]; exact Nat.le_refl _⟩⟩
      obtain ⟨v,q1,q2⟩:=h2.get e
      refine ⟨⟨vs,v,SqL.of h1,q1⟩,fun x H' y=>⟨y.1,?_⟩⟩
      have:=y.2 vs (SqL.of h1)
      rw [q1] at this
      cases this
      exact q2
    | ref l=>
      obtain ⟨a',vs,e1,h1,h2⟩:=z7 G rv (show Zav θ (.ref l)=some xs from h)
      cases e1
      simp only at e
      subst e
      refine ⟨fun i d e=>?_,⟨vs,SqL.of h1,by rw [h2.len]; exact Nat.le_refl _⟩⟩
      obtain ⟨v,q1,q2⟩:=h2.get e
      refine ⟨⟨vs,v,SqL.of h1,q1⟩,fun x H' y=>⟨y.1,?_⟩⟩
      have:=y.2 vs (SqL.of h1)
      rw [q1] at this
      cases this
      exact q2
    | non=>cases h
    | bl _=>cases h
    | int _=>cases h
    | str _=>cases h
    | ty _=>cases h
def ZAi (K:PySem.W.Frag) (tl:TE):TI:=fun σ H R=>tl σ H fun x H1=>∃a,x=.ref a∧(((∃xs,SqL K H1 a xs)∧R (Itl K a) H1)∨((∃xs,SqT K H1 a xs)∧R (Itt K a) H1))
theorem ZuA {tg l:Expr} {tl:TE} (hl:PE X l tl):PI X tg l (ZAi X.K tl):=by
  intro pins s σ H R I h
  refine thn (hl pins s σ H _ I h) fun v s1 ⟨x,H1,I1,r1,q1⟩=>?_
  obtain ⟨a,e,q1⟩:=q1
  subst e
  cases r1
  rcases q1 with ⟨⟨xs,hq⟩,q⟩ | ⟨⟨xs,hq⟩,q⟩
  · obtain ⟨its,rv,p,hz⟩:=I1.list hq
    refine wpAny_pyIter_list p.isList ?_
    refine ⟨s1.heap.objs.size,[s1.heap.objs.size],_,_,H1,rfl,I1.kept (t':=s1.toks) fun b o e=>Heap.get?_push_of_some _ e,ZnP a _,⟨_,Heap.get?_push_size _ rfl,rfl,rfl⟩,fun b hb=>?_,q⟩
    have e:b=s1.heap.objs.size:=by simpa using hb
    subst e
    exact I1.fpOk (Nat.le_refl _) (I1.hok.fresh (Nat.le_refl _))
  · obtain ⟨its,rv,p,hz⟩:=I1.tuple hq
    refine wpAny_pyIter_tuple (show s1.heap.IsTuple a its.toArray from p) ?_
    refine ⟨s1.heap.objs.size,[s1.heap.objs.size],_,_,H1,rfl,I1.kept (t':=s1.toks) fun b o e=>Heap.get?_push_of_some _ e,Zmd a _,⟨_,Heap.get?_push_size _ rfl,rfl,rfl⟩,fun b hb=>?_,q⟩
    have e:b=s1.heap.objs.size:=by simpa using hb
    subst e
    exact I1.fpOk (Nat.le_refl _) (I1.hok.fresh (Nat.le_refl _))
def mIn (f:EM):IM:=fun ρ θ=>(f ρ θ).bind fun d θ=>match seqOf θ d with
  | some _=>.ok (.seq d) θ
  | none=>.bad
theorem Zmz {tg l:Expr} {f:EM} (h:ME X l f):MI X tg l (mIn f):=by
  refine PI.imp (ZuA h) fun σ H R q=>?_
  obtain ⟨B,θ,ρ,F,w⟩:=q
  refine Z3 (step F w) ?_
  rintro v H1 ⟨B1,θ1,d,E1,F1,rd,w1⟩
  split at w1
  · rename_i xs e
    obtain ⟨a,vs,rfl,h1,h2⟩:=Zda F1.good rd e
    refine ⟨a,rfl,?_⟩
    have fin:=fun J (hJ:SrcRep X.K B1 H1 (.seq d) J)=>ZQ (Rel:=SrcRep X.K) F1.good hJ w1
    cases d with
    | tup ys=>
      obtain ⟨a',us,e1,g1,_,_⟩:=id rd
      cases e1
      exact .inr ⟨⟨us,SqT.of g1⟩,fin _ ⟨a,rd,rfl⟩⟩
    | scr ns=>
      have hS:SqL X.K H1 a (ns.map V.int):=by
        obtain ⟨a',e1,g1⟩:=id rd
        cases e1
        rcases g1 with ⟨o,g1,_⟩ | g1
        · exact .inl (.inr ⟨o,g1⟩)
        · exact .inr (F1.good.kc a ns g1)
      exact .inl ⟨⟨_,hS⟩,fin _ ⟨a,rd,rfl⟩⟩
    | lst ys=>
      obtain ⟨a',us,e1,g1,_⟩:=z7 F1.good rd (show Zav θ1 (.lst ys)=some xs from e)
      cases e1
      exact .inl ⟨⟨us,SqL.of g1⟩,fin _ ⟨a,rd,rfl⟩⟩
    | ref l=>
      obtain ⟨a',us,e1,g1,_⟩:=z7 F1.good rd (show Zav θ1 (.ref l)=some xs from e)
      cases e1
      exact .inl ⟨⟨us,SqL.of g1⟩,fin _ ⟨a,rd,rfl⟩⟩
    | non=>cases e
    | bl _=>cases e
    | int _=>cases e
    | str _=>cases e
    | ty _=>cases e
  · exact w1.elim
def ZcW (f:AM):IM:=fun ρ θ=>(f ρ θ).bind fun ds θ=>match ds with
  | [.int j]=>if -1000000≤j∧j≤1000000 then .ok (.rng 0 j.toNat) θ else .bad
  | _=>.bad
theorem Zcs {tg a:Expr} {f:AM} {p pos:Pos} (hm:X.mg "range"=none) (ha:MA X [a] f) (hg:Gl X "range":=by rfl) (hs:starEach [a] X.env=[(false,eval a X.env)]:=by rfl):MI X tg (.Call (.Name "range" p) [a] [] pos) (ZcW f):=by
  refine PI.imp (Zn3 hg hm ha hs) fun σ H R q=>?_
  obtain ⟨B,θ,ρ,F,w⟩:=q
  refine Zb6 (ZhT F w) ?_
  rintro vs H1 ⟨B1,θ1,ds,E1,F1,rd,w1⟩
  split at w1
  · rename_i j
    split at w1
    · rename_i hj
      obtain ⟨v,rfl,rv⟩:=rd.one
      cases (show v=V.int j from rv)
      exact ⟨j,rfl,by have:=hj.1; omega,by have:=hj.2; omega,ZQ (Rel:=SrcRep X.K) F1.good (show SrcRep X.K B1 H1 (.rng 0 j.toNat) _ from rfl) w1⟩
    · exact w1.elim
  · exact w1.elim
def Ze5 (src:List Nat) (ρ:List Sl) (x:D):List Sl:=Sl.val x::src.map fun (j:Nat)=>match ρ[j]? with
  | some (Sl.val d)=>Sl.val d
  | _=>Sl.no
theorem Frm.inner {B:Bx} {θ:Sto} {ρ:List Sl} {σ:St} {H:Hp} (F:Frm X.cl B θ ρ σ H) (src:List Nat) {x:D} {v:V} (r:RepV B H x v):Frm X.cl B θ (Ze5 src ρ x) (L2.inner src σ (some v)) H:=by
  have key:∀(i:Nat) (s:Sl),(Ze5 src ρ x)[i]?=some s→s=.no∨∃d,s=.val d∧∃v',(L2.inner src σ (some v))[i]?=some (some v')∧RepV B H d v':=fun i s e=>by
    cases i with
    | zero=>simp [Ze5] at e; subst e; exact .inr ⟨x,rfl,v,by simp [L2.inner],r⟩
    | succ i=>
      simp only [Ze5,List.getElem?_cons_succ,List.getElem?_map] at e
      simp only [L2.inner,List.getElem?_cons_succ,List.getElem?_map]
      cases q:src[i]? with
      | none=>rw [q] at e; cases e
      | some j=>
        rw [q] at e
        simp only [Option.map_some,Option.some.injEq] at e
        split at e
        · rename_i d ed
          subst e
          obtain ⟨v',h1,h2⟩:=F.val j d ed
          exact .inr ⟨d,rfl,v',by simp [h1],h2⟩
        · exact .inl e.symm
  refine ⟨F.good,by simp [Ze5,L2.inner],fun i d e=>?_,fun i xs e=>?_,fun i j xs ys a _ e _=>?_⟩
  · rcases key i _ e with z | ⟨d',z,v',h1,h2⟩
    · cases z
    · cases z; exact ⟨v',h1,h2⟩
  · rcases key i _ e with z | ⟨d',z,_⟩<;>cases z
  · rcases key i _ e with z | ⟨d',z,_⟩<;>cases z
open Classical in
def Zhj (S:Src) (all:List D) (elt:D→Sto→R D):List D→List D→Sto→R D
  | [],acc,θ=>if S.items θ=some all∧acc.length≤BIG then .ok (.lst acc) θ else .bad
  | x::r,acc,θ=>if S.items θ=some all then (elt x θ).bind fun y θ=>Zhj S all elt r (acc++[y]) θ else .bad
def ZeH (fi:IM) (src:List Nat) (elt:EM):EM:=fun ρ θ=>(fi ρ θ).bind fun S θ=>match S.items θ with
  | some xs=>if xs.length≤BIG then Zhj S xs (fun x θ=>elt (Ze5 src ρ x) θ) xs [] θ else .bad
  | none=>.bad
open Classical in
theorem Zm5 {fi:IM} {src:List Nat} {elt:EM} (σ:St) (H:Hp) (Q:VK) (h:tM X (ZeH fi src elt) σ H Q):tLc (tMI X fi) src (tM X elt) σ H Q:=by
  obtain ⟨B,θ,ρ,F,w⟩:=h
  refine ⟨B,θ,ρ,F,(wpR.bind (Rel:=SrcRep X.K) w).mono ?_⟩
  rintro J H1 ⟨B1,θ1,S,E1,G1,rJ,w1⟩
  split at w1
  · rename_i xs e1
    split at w1
    · rename_i hz
      refine ⟨xs.length,fun i ys H'=>∃B' θ' acc,ExtE B1 B' H1 H'∧Good X.cl B' θ' H'∧RepL B' H' acc ys∧wpR X σ RepV B' H' (Zhj S xs (fun x θ=>elt (Ze5 src ρ x) θ) (xs.drop i) acc θ') Q,Zas hz,?_,?_,?_⟩
      · exact ⟨B1,θ1,[],ExtE.refl _ _,G1,rfl,w1⟩
      · rintro i ys H' hi ⟨B2,θ2,acc,E2,G2,racc,w2⟩
        rw [List.drop_eq_getElem_cons hi] at w2
        unfold Zhj at w2
        split at w2
        · rename_i e2
          obtain ⟨g1,g2⟩:=(Zjs G2 (rJ.ext E2.toExtS) e2).1 i xs[i] (List.getElem?_eq_getElem hi)
          refine ⟨g1,fun y H3 hy=>?_⟩
          obtain ⟨rfl,ry⟩:=g2 y H3 hy
          have F2:=(F.ext (E1.trans E2) G2).inner src ry
          refine ⟨B2,θ2,_,F2,(wpR.bind (Rel:=RepV) w2).mono ?_⟩
          rintro z H4 ⟨B4,θ4,d,E4,G4,rd,w4⟩
          exact ⟨B4,θ4,acc++[d],E2.trans E4,G4,(racc.ext E4.toExtS).app ⟨z,[],rfl,rd,rfl⟩,w4⟩
        · exact w2.elim
      · rintro ys H' ⟨B2,θ2,acc,E2,G2,racc,w2⟩
        rw [List.drop_length] at w2
        unfold Zhj at w2
        split at w2
        · rename_i e2
          exact ⟨(Zjs G2 (rJ.ext E2.toExtS) e2.1).2,ZfJ G2 racc w2⟩
        · exact w2.elim
    · exact w1.elim
  · exact w1.elim
theorem ZqZ {x:Str} {px pos:Pos} {iter elt:Expr} {scope:Scope} {N':List Str} {src:List Nat} {sc:Scope} {N:List Str} {fi:IM} {fe:EM} (S:Za9 scope sc x N N' src) (hsc:X.env.scope=sc) (hN:X.N=N) (hi:MI X (.Name x px) iter fi)
    (helt:∀(cl:List (Str×Addr)) (C:Addr) (s₀:Shared) (H₀:Hp) (fp:List Addr),ME (X.comp scope N' cl C s₀ H₀ fp) elt fe) (hcm:X.calm=true:=by rfl) (hs:∀v,foldedSetIterable iter X.env v=pure v:=by intro _; rfl) :
    ME X (.ListComp elt [⟨.Name x px,iter,[],0⟩] scope pos) (ZeH fi src fe):=
  PE.imp (Zwr (te:=tM X fe) S hsc hN hi (fun cl C s₀ H₀ fp=>helt cl C s₀ H₀ fp) hcm hs) Zm5
inductive Fl where
  | nx | rt (d:D) | bk | ct
abbrev SM:=List Sl→Sto→R (Fl×List Sl)
def ZtF (Dn:ZfB) (B:Bx) (σ:St) (H:Hp):Fl→Prop
  | .nx=>Dn.nx σ H
  | .bk=>Dn.bk σ H
  | .ct=>Dn.ct σ H
  | .rt d=>∀v,RepV B H d v→Dn.rt v H
def wpS (X:Cx) (σ:St) (B:Bx) (H:Hp) (r:R (Fl×List Sl)) (Dn:ZfB):Prop:=match r with
  | .ok (fl,ρ') θ'=>∀B' H' σ',ExtS B B' H H'→Frm X.cl B' θ' ρ' σ' H'→ZtF Dn B' σ' H' fl
  | .ex c θ'=>XE X σ B H c θ'
  | .bad=>False
def tMS (X:Cx) (f:SM):TS:=fun Dn σ H=>∃B θ ρ,Frm X.cl B θ ρ σ H∧wpS X σ B H (f ρ θ) Dn
def MS (X:Cx) (st:Stmt) (f:SM):Prop:=PS X st (tMS X f)
def MSs (X:Cx) (sts:List Stmt) (f:SM):Prop:=PSs X sts (tMS X f)
theorem PS.imp {st:Stmt} {t t':TS} (h:PS X st t) (hi:∀D σ H,t' D σ H→t D σ H):PS X st t':=fun pins s σ H D I q=>h pins s σ H D I (hi D σ H q)
theorem PSs.imp {st:List Stmt} {t t':TS} (h:PSs X st t) (hi:∀D σ H,t' D σ H→t D σ H):PSs X st t':=fun pins s σ H D I q=>h pins s σ H D I (hi D σ H q)
theorem wpS.trans {σ σ':St} {B B':Bx} {H H':Hp} {r:R (Fl×List Sl)} {Dn:ZfB} (h:wpS X σ B H r Dn) (E:ExtS B B' H H'):wpS X σ' B' H' r Dn:=by
  cases r with
  | ok a θ'=>exact fun B2 H2 σ2 e g=>h B2 H2 σ2 (E.trans e) g
  | ex c θ'=>exact h
  | bad=>exact h
theorem wpS.bind {α β:Type} {Rel:Bx→Hp→α→β→Prop} {σ:St} {B:Bx} {H:Hp} {r:R α} {k:α→Sto→R (Fl×List Sl)} {Dn:ZfB} (h:wpS X σ B H (r.bind k) Dn) :
    wpR X σ Rel B H r (fun b H1=>∃B1 θ1 a,ExtE B B1 H H1∧Good X.cl B1 θ1 H1∧Rel B1 H1 a b∧wpS X σ B1 H1 (k a θ1) Dn):=by
  cases r with
  | ok a θ'=>exact fun B1 H1 b E g q=>⟨B1,θ',a,E,g,q,wpS.trans h E.toExtS⟩
  | ex c θ'=>exact h
  | bad=>exact h
theorem Zf0 {σ:St} {H:Hp} {B:Bx} {θ:Sto} {ρ:List Sl} {f:EM} {k:D→Sto→R (Fl×List Sl)} {Dn:ZfB} (F:Frm X.cl B θ ρ σ H) (h:wpS X σ B H ((f ρ θ).bind k) Dn) :
    tM X f σ H (fun v H1=>∃B1 θ1 d,ExtE B B1 H H1∧Frm X.cl B1 θ1 ρ σ H1∧RepV B1 H1 d v∧wpS X σ B1 H1 (k d θ1) Dn):=
  ⟨B,θ,ρ,F,(wpS.bind (Rel:=RepV) h).mono fun v H1 ⟨B1,θ1,d,E,G,r,w⟩=>⟨B1,θ1,d,E,F.ext E G,r,w⟩⟩
theorem Zqd {σ:St} {H:Hp} {B:Bx} {θ:Sto} {ρ:List Sl} {f:TMr} {k:Bool→Sto→R (Fl×List Sl)} {Dn:ZfB} (F:Frm X.cl B θ ρ σ H) (h:wpS X σ B H ((f ρ θ).bind k) Dn) :
    tMT X f σ H (fun c H1=>∃B1 θ1,ExtE B B1 H H1∧Frm X.cl B1 θ1 ρ σ H1∧wpS X σ B1 H1 (k c θ1) Dn):=
  ⟨B,θ,ρ,F,(wpS.bind (Rel:=EqB) h).mono fun v H1 ⟨B1,θ1,d,E,G,r,w⟩=>by cases (show d=v from r); exact ⟨B1,θ1,E,F.ext E G,w⟩⟩
theorem Zef {σ:St} {B:Bx} {H:Hp} {θ:Sto} {ρ:List Sl} {fl:Fl} {Dn:ZfB} (F:Frm X.cl B θ ρ σ H) (h:wpS X σ B H (.ok (fl,ρ) θ) Dn):ZtF Dn B σ H fl:=h B H σ (ExtS.refl B H) F
def ZN:SM:=fun ρ θ=>.ok (.nx,ρ) θ
def ZhP (r:R (Fl×List Sl)) (k:SM):R (Fl×List Sl):=r.bind fun p θ=>match p with
  | (.nx,ρ)=>k ρ θ
  | p=>.ok p θ
def Zq (f g:SM):SM:=fun ρ θ=>ZhP (f ρ θ) g
theorem Zz:MSs X [] ZN:=PSs.imp Zsn fun D σ H h=>by
  obtain ⟨B,θ,ρ,F,w⟩:=h
  exact Zef F w
theorem wpS.seq {σ:St} {B:Bx} {H:Hp} {r:R (Fl×List Sl)} {g:SM} {Dn:ZfB} (w:wpS X σ B H (ZhP r g) Dn):wpS X σ B H r { Dn with nx:=tMS X g Dn }:=by
  cases r with
  | ex c θ'=>exact w
  | bad=>exact w
  | ok p θ'=>
    obtain ⟨fl,ρ'⟩:=p
    intro B' H' σ' E F
    cases fl with
    | nx=>exact ⟨B',θ',ρ',F,wpS.trans w E⟩
    | bk=>exact w B' H' σ' E F
    | ct=>exact w B' H' σ' E F
    | rt d=>exact w B' H' σ' E F
theorem Zg {st:Stmt} {rest:List Stmt} {f g:SM} (h1:MS X st f) (h2:MSs X rest g):MSs X (st::rest) (Zq f g):=PSs.imp (Zqo h1 h2) fun D σ H h=>by
  obtain ⟨B,θ,ρ,F,w⟩:=h
  exact ⟨B,θ,ρ,F,wpS.seq w⟩
theorem Zj {st:Stmt} {f:SM} (h1:MS X st f):MSs X [st] f:=Zsm h1
def ZsN:SM:=fun _ _=>.bad
theorem ZqV {st:Stmt}:MS X st ZsN:=fun _ _ _ _ _ _ h=>by obtain ⟨_,_,_,_,w⟩:=h; exact w.elim
def zS (f:EM):SM:=fun ρ θ=>(f ρ θ).bind fun _ θ=>.ok (.nx,ρ) θ
theorem Z0 {e:Expr} {f:EM} {pos:Pos} (he:ME X e f) (hs:swapsWith e none pos.line X.env=pure false:=by rfl):MS X (.Expr e pos) (zS f):=PS.imp (Znc he hs) fun D σ H h=>by
  obtain ⟨B,θ,ρ,F,w⟩:=h
  refine Z3 (Zf0 F w) ?_
  rintro v H1 ⟨B1,θ1,d,E1,F1,rd,w1⟩
  exact Zef F1 w1
def ZO (f:EM):SM:=fun ρ θ=>(f ρ θ).bind fun d θ=>.ok (.rt d,ρ) θ
theorem Zw {e:Expr} {f:EM} {pos:Pos} (he:ME X e f):MS X (.Return (some e) pos) (ZO f):=PS.imp (Zuv he) fun D σ H h=>by
  obtain ⟨B,θ,ρ,F,w⟩:=h
  refine Z3 (Zf0 F w) ?_
  rintro v H1 ⟨B1,θ1,d,E1,F1,rd,w1⟩
  exact Zef F1 w1 v rd
def Zgg:SM:=fun ρ θ=>.ok (.rt .non,ρ) θ
theorem Zeo {pos:Pos}:MS X (.Return none pos) Zgg:=PS.imp Zso fun D σ H h=>by
  obtain ⟨B,θ,ρ,F,w⟩:=h
  exact Zef F w .non rfl
def mIf (t:TMr) (f g:SM):SM:=fun ρ θ=>(t ρ θ).bind fun k θ=>if k=true then f ρ θ else g ρ θ
theorem ZL {c:Expr} {a b:List Stmt} {t:TMr} {f g:SM} {pos:Pos} (hc:MT X c t) (ha:MSs X a f) (hb:MSs X b g):MS X (.If c a b pos) (mIf t f g):=PS.imp (Zwm hc ha hb) fun D σ H h=>by
  obtain ⟨B,θ,ρ,F,w⟩:=h
  refine ZdQ (Zqd F w) ?_
  rintro k H1 ⟨B1,θ1,E1,F1,w1⟩
  cases k with
  | true=>rw [if_pos rfl] at w1 ⊢; exact ⟨B1,θ1,ρ,F1,w1⟩
  | false=>rw [if_neg Bool.false_ne_true] at w1 ⊢; exact ⟨B1,θ1,ρ,F1,w1⟩
theorem Frm.set {B:Bx} {θ:Sto} {ρ:List Sl} {σ:St} {H:Hp} (F:Frm X.cl B θ ρ σ H) (i:Nat) {d:D} {v:V} (r:RepV B H d v):Frm X.cl B θ (ρ.set i (.val d)) (σ.set i (some v)) H:=by
  have oth:∀(j:Nat) (s:Sl),(ρ.set i (Sl.val d))[j]?=some s→(j=i∧s=.val d∧j < σ.length)∨(j≠i∧ρ[j]?=some s):=fun j s e=>by
    by_cases q:j=i
    · subst q
      have hl:j < ρ.length:=by
        have:=(List.getElem?_eq_some_iff.mp e).1
        simpa using this
      rw [List.getElem?_set_self hl] at e
      cases e
      exact .inl ⟨rfl,rfl,by rw [←F.len]; exact hl⟩
    · rw [List.getElem?_set_ne (Ne.symm q)] at e
      exact .inr ⟨q,e⟩
  refine ⟨F.good,by simp [F.len],fun j e h=>?_,fun j xs h=>?_,fun j k xs ys a hne h1 h2 h3=>?_⟩
  · rcases oth j _ h with ⟨rfl,z,hl⟩ | ⟨q,z⟩
    · cases z; exact ⟨v,by rw [List.getElem?_set_self hl],r⟩
    · rw [List.getElem?_set_ne (Ne.symm q)]; exact F.val j e z
  · rcases oth j _ h with ⟨rfl,z,hl⟩ | ⟨q,z⟩
    · cases z
    · rw [List.getElem?_set_ne (Ne.symm q)]; exact F.own j xs z
  · rcases oth j _ h1 with ⟨_,z,_⟩ | ⟨q1,z1⟩
    · cases z
    · rcases oth k _ h2 with ⟨_,z,_⟩ | ⟨q2,z2⟩
      · cases z
      · rw [List.getElem?_set_ne (Ne.symm q1)] at h3
        rw [List.getElem?_set_ne (Ne.symm q2)]
        exact F.ne j k xs ys a hne z1 z2 h3
def ZP (i:Nat) (f:EM):SM:=fun ρ θ=>(f ρ θ).bind fun d θ=>.ok (.nx,ρ.set i (.val d)) θ
theorem ZC (i:Nat) {x:Str} {e:Expr} {f:EM} {pos pos':Pos} (hN:X.N.Nodup) (he:ME X e f) (hi:X.N[i]?=some x:=by rfl) (hx:Loc X.env.scope x:=by first | exact Or.inl rfl | exact Or.inr rfl)
    (hs:swapsWith e (some (.Name x pos')) pos.line X.env=pure false:=by rfl) (hf:X.fn x=true∨X.env.scope.names.lookup x=some .local:=by first | exact .inl rfl | exact .inr rfl):MS X (.Assign [.Name x pos'] e pos) (ZP i f):=
  PS.imp (Zmr hN hi hx he hs hf) fun D σ H h=>by
  obtain ⟨B,θ,ρ,F,w⟩:=h
  refine Z3 (Zf0 F w) ?_
  rintro v H1 ⟨B1,θ1,d,E1,F1,rd,w1⟩
  exact w1 B1 H1 _ (ExtS.refl _ _) (F1.set i rd)
theorem ZqU (i:Nat) {x y:Str} {px py pos spos:Pos} {iter elt:Expr} {scope:Scope} {N':List Str} {src:List Nat} {sc:Scope} {N:List Str} {fi:IM} {fe:EM} (hnd:X.N.Nodup) (S:Za9 scope sc x N N' src) (hsc:X.env.scope=sc) (hN:X.N=N) (hi:MI X (.Name x px) iter fi)
    (helt:∀(cl:List (Str×Addr)) (C:Addr) (s₀:Shared) (H₀:Hp) (fp:List Addr),ME (X.comp scope N' cl C s₀ H₀ fp) elt fe) (hi':X.N[i]?=some y:=by rfl)
    (hsw:swapsWith (.ListComp elt [⟨.Name x px,iter,[],0⟩] scope pos) (some (.Name y py)) spos.line X.env=pure true:=by rfl)
    (hy:X.env.scope.names.lookup y=some .local:=by rfl) (hcm:X.calm=true:=by rfl) (hs:∀v,foldedSetIterable iter X.env v=pure v:=by intro _; rfl) :
    MS X (.Assign [.Name y py] (.ListComp elt [⟨.Name x px,iter,[],0⟩] scope pos) spos) (ZP i (ZeH fi src fe)):=
  PS.imp (Zwl (te:=tM X fe) hnd hi' S hsc hN hi (fun cl C s₀ H₀ fp=>helt cl C s₀ H₀ fp) hsw hy hcm hs) fun D σ H h=>by
  obtain ⟨B,θ,ρ,F,w⟩:=h
  refine Zm5 σ H _ (Z3 (Zf0 F w) ?_)
  rintro v H1 ⟨B1,θ1,d,E1,F1,rd,w1⟩
  exact w1 B1 H1 _ (ExtS.refl _ _) (F1.set i rd)
end
end
end L2.MM
namespace L2.MM
open PySem PySem.Spec PyProof.Rows PySem.SeqAt
noncomputable section
variable {X:Cx}
def ZfF (k:SM):Fl×List Sl→Sto→R (Fl×List Sl)
  | (.nx,ρ),θ=>k ρ θ
  | (.ct,ρ),θ=>k ρ θ
  | (.bk,ρ),θ=>.ok (.nx,ρ) θ
  | (.rt d,ρ),θ=>.ok (.rt d,ρ) θ
theorem wpS.loop {σ:St} {B:Bx} {H:Hp} {r:R (Fl×List Sl)} {k:SM} {Dn:ZfB} (w:wpS X σ B H (r.bind (ZfF k)) Dn) :
    wpS X σ B H r { Dn with nx:=fun σ' H'=>∃B' θ' ρ',ExtS B B' H H'∧Frm X.cl B' θ' ρ' σ' H'∧wpS X σ' B' H' (k ρ' θ') Dn,ct:=fun σ' H'=>∃B' θ' ρ',ExtS B B' H H'∧Frm X.cl B' θ' ρ' σ' H'∧wpS X σ' B' H' (k ρ' θ') Dn,bk:=Dn.nx }:=by
  cases r with
  | ex c θ'=>exact w
  | bad=>exact w
  | ok p θ'=>
    obtain ⟨fl,ρ'⟩:=p
    intro B' H' σ' E F
    cases fl with
    | nx=>exact ⟨B',θ',ρ',E,F,wpS.trans w E⟩
    | ct=>exact ⟨B',θ',ρ',E,F,wpS.trans w E⟩
    | bk=>exact w B' H' σ' E F
    | rt d=>exact w B' H' σ' E F
abbrev TgM:=D→List Sl→Option (List Sl)
def tMG (X:Cx) (g:TgM):TG:=fun v σ H Q=>∃B θ ρ d ρ',Frm X.cl B θ ρ σ H∧RepV B H d v∧g d ρ=some ρ'∧∀σ',Frm X.cl B θ ρ' σ' H→Q σ' H
def MG (X:Cx) (tg:Expr) (g:TgM):Prop:=PG X tg (tMG X g)
theorem PG.imp {tg:Expr} {t t':TG} (h:PG X tg t) (hi:∀v σ H Q,t' v σ H Q→t v σ H Q):PG X tg t':=fun pins s σ H v u Q I r q=>h pins s σ H v u Q I r (hi v σ H Q q)
def gNm (i:Nat):TgM:=fun d ρ=>some (ρ.set i (.val d))
theorem Zfq (i:Nat) {x:Str} {pos:Pos} (hN:X.N.Nodup) (hi:X.N[i]?=some x:=by rfl) (hx:Loc X.env.scope x:=by first | exact Or.inl rfl | exact Or.inr rfl) (hf:X.fn x=true∨X.env.scope.names.lookup x=some .local:=by first | exact .inl rfl | exact .inr rfl):MG X (.Name x pos) (gNm i):=
  PG.imp (Zf5 hN hi hx hf) fun v σ H Q h=>by
  obtain ⟨B,θ,ρ,d,ρ',F,r,e,q⟩:=h
  cases e
  exact q _ (F.set i r)
open Classical in
def forL (S:Src) (all:List D) (tg:TgM) (body:SM):List D→SM
  | []=>fun ρ θ=>if S.items θ=some all then .ok (.nx,ρ) θ else .bad
  | x::r=>fun ρ θ=>if S.items θ=some all then (match tg x ρ with
    | none=>.bad
    | some ρ1=>(body ρ1 θ).bind (ZfF (forL S all tg body r))) else .bad
def ZeP (fi:IM) (tg:TgM) (body:SM):SM:=fun ρ θ=>(fi ρ θ).bind fun S θ=>match S.items θ with
  | some xs=>forL S xs tg body xs ρ θ
  | none=>.bad
open Classical in
theorem ZgO {tg iter:Expr} {body:List Stmt} {fi:IM} {g:TgM} {fb:SM} {pos:Pos} (hp:PassesOwn (model X.prog X.w) X.A X.env X.xe) (hi:MI X tg iter fi) (hg:MG X tg g) (hb:MSs X body fb) (hc:X.calm=true:=by rfl)
    (hs:∀x,foldedSetIterable iter X.env x=pure x:=by intro _; rfl):MS X (.For tg iter body [] pos) (ZeP fi g fb):=
  PS.imp (Zqq hp hc hi hg hb hs) fun Dn σ H h=>by
  obtain ⟨B,θ,ρ,F,w⟩:=h
  refine ⟨B,θ,ρ,F,(wpS.bind (Rel:=SrcRep X.K) w).mono ?_⟩
  rintro J H1 ⟨B1,θ1,S,E1,G1,rJ,w1⟩
  split at w1
  · rename_i xs e1
    refine ⟨fun i m σ H=>∃B θ ρ,Frm X.cl B θ ρ σ H∧SrcRep X.K B H S J∧m=xs.length-i∧i≤xs.length∧wpS X σ B H (forL S xs g fb (xs.drop i) ρ θ) Dn,⟨xs.length,B1,θ1,ρ,F.ext E1 G1,rJ,rfl,Nat.zero_le _,w1⟩,?_⟩
    rintro i m σ2 H2 ⟨B2,θ2,ρ2,F2,rJ2,rfl,hi2,w2⟩
    by_cases hlt:i<xs.length
    · rw [List.drop_eq_getElem_cons hlt] at w2
      unfold forL at w2
      split at w2
      · rename_i e2
        obtain ⟨g1,g2⟩:=(Zjs F2.good rJ2 e2).1 i xs[i] (List.getElem?_eq_getElem hlt)
        split at w2
        · exact w2.elim
        · rename_i ρ3 e3
          refine .inr ⟨g1,fun σ' H'=>∃B' θ' ρ',ExtS B2 B' H2 H'∧Frm X.cl B' θ' ρ' σ' H'∧wpS X σ' B' H' (forL S xs g fb (xs.drop (i+1)) ρ' θ') Dn,?_,fun x H' hy=>?_⟩
          · rintro σ' H' ⟨B',θ',ρ',E',F',w'⟩
            exact ⟨xs.length-(i+1),by omega,B',θ',ρ',F',rJ2.ext E',rfl,hlt,w'⟩
          · obtain ⟨rfl,rx⟩:=g2 x H' hy
            refine ⟨B2,θ2,ρ2,xs[i],ρ3,F2,rx,e3,fun σ' F'=>⟨B2,θ2,ρ3,F',?_⟩⟩
            have w3:=wpS.loop w2
            exact wpS.trans w3 (ExtS.refl _ _)
      · exact w2.elim
    · have e:i=xs.length:=by omega
      subst e
      rw [List.drop_length] at w2
      unfold forL at w2
      split at w2
      · rename_i e2
        exact .inl ⟨(Zjs F2.good rJ2 e2).2,Zef F2 w2⟩
      · exact w2.elim
  · exact w1.elim
def ZcL (t:TMr) (body:SM):Nat→SM
  | 0=>ZsN
  | n+1=>fun ρ θ=>(t ρ θ).bind fun k θ=>if k=true then (body ρ θ).bind (ZfF (ZcL t body n)) else .ok (.nx,ρ) θ
theorem Zh3 (n:Nat) {c:Expr} {body:List Stmt} {t:TMr} {fb:SM} {pos:Pos} (hp:PassesOwn (model X.prog X.w) X.A X.env X.xe) (hc:MT X c t) (hb:MSs X body fb):MS X (.While c body [] pos) (ZcL t fb n):=
  PS.imp (Zqp hp hc hb) fun Dn σ H h=>by
  obtain ⟨B,θ,ρ,F,w⟩:=h
  refine ⟨fun m σ H=>∃B θ ρ,Frm X.cl B θ ρ σ H∧wpS X σ B H (ZcL t fb m ρ θ) Dn,⟨n,B,θ,ρ,F,w⟩,?_⟩
  rintro m σ2 H2 ⟨B2,θ2,ρ2,F2,w2⟩
  cases m with
  | zero=>exact w2.elim
  | succ m=>
    refine ZdQ (Zqd F2 w2) ?_
    rintro k H3 ⟨B3,θ3,E3,F3,w3⟩
    cases k with
    | true=>
      rw [if_pos rfl] at w3 ⊢
      refine ⟨_,?_,⟨B3,θ3,ρ2,F3,wpS.loop w3⟩⟩
      rintro σ' H' ⟨B',θ',ρ',E',F',w'⟩
      exact ⟨m,Nat.lt_succ_self _,B',θ',ρ',F',w'⟩
    | false=>
      rw [if_neg Bool.false_ne_true] at w3 ⊢
      exact Zef F3 w3
theorem Frm.setOwn {cl:Mo} {B:Bx} {θ:Sto} {ρ:List Sl} {σ:St} {H:Hp} (F:Frm cl B θ ρ σ H) (i:Nat) {p:Addr} (hp:H p=none) {xs:List D} {vs:List V} (r:RepL B H xs vs) :
    ExtS B { B with os:=p::B.os } H (upd H p (.lst vs))∧Frm cl { B with os:=p::B.os } θ (ρ.set i (.own xs)) (σ.set i (some (.ref p))) (upd H p (.lst vs)):=by
  have E0:=Zc3 F.good hp (.lst vs)
  have G0:=Ze6 F.good hp (.lst vs)
  have ok:=F.good.okNone hp
  have E:ExtS B { B with os:=p::B.os } H (upd H p (.lst vs)):=⟨E0.n,E0.m,E0.fr,E0.keep,E0.sm,fun a h=>by
    rcases List.mem_cons.mp h with rfl | h
    · exact .inr hp
    · exact .inl h,rfl,rfl⟩
  refine ⟨E,?_⟩
  have E1:ExtS B { B with os:=p::B.os } H (upd H p (.lst vs)):=E
  have G:Good cl { B with os:=p::B.os } θ (upd H p (.lst vs)):=⟨G0.len,G0.inj,fun j c e=>(F.good.cel j c e).ext E fun u q=>by rw [ZS (zo q hp)]; exact q,fun j hj=>⟨(G0.cF j hj).1,fun z=>by
      rcases List.mem_cons.mp z with z | z
      · exact ok.1 j hj z
      · exact (G0.cF j hj).2 z⟩,G0.Fs,fun a z=>by
      rcases List.mem_cons.mp z with rfl | z
      · rw [zE]; simp
      · exact G0.oS a z,fun a z=>by
      rcases List.mem_cons.mp z with rfl | z
      · exact ok.2.1
      · exact G0.oF a z,G0.kc⟩
  have oth:∀(j:Nat) (s:Sl),(ρ.set i (Sl.own xs))[j]?=some s→(j=i∧s=.own xs∧j < σ.length)∨(j≠i∧ρ[j]?=some s):=fun j s e=>by
    by_cases q:j=i
    · subst q
      have hl:j < ρ.length:=by
        have:=(List.getElem?_eq_some_iff.mp e).1
        simpa using this
      rw [List.getElem?_set_self hl] at e
      cases e
      exact .inl ⟨rfl,rfl,by rw [←F.len]; exact hl⟩
    · rw [List.getElem?_set_ne (Ne.symm q)] at e
      exact .inr ⟨q,e⟩
  have old:∀j ys,ρ[j]?=some (Sl.own ys)→∀a,σ[j]?=some (some (V.ref a))→a≠p:=fun j ys h a e z=>by
    obtain ⟨a',us,q1,q2,q3,q4⟩:=F.own j ys h
    rw [e] at q1
    cases q1
    rw [z,hp] at q3
    cases q3
  refine ⟨G,by simp [F.len],fun j d h=>?_,fun j ys h=>?_,fun j k ys zs a hne h1 h2 h3=>?_⟩
  · rcases oth j _ h with ⟨_,z,_⟩ | ⟨q,z⟩
    · cases z
    · rw [List.getElem?_set_ne (Ne.symm q)]
      obtain ⟨v,q1,q2⟩:=F.val j d z
      exact ⟨v,q1,q2.ext E⟩
  · rcases oth j _ h with ⟨rfl,z,hl⟩ | ⟨q,z⟩
    · cases z
      exact ⟨p,vs,by rw [List.getElem?_set_self hl],List.mem_cons_self,zE,r.ext E⟩
    · rw [List.getElem?_set_ne (Ne.symm q)]
      obtain ⟨a,us,q1,q2,q3,q4⟩:=F.own j ys z
      exact ⟨a,us,q1,List.mem_cons_of_mem _ q2,by rw [ZS (zo q3 hp)]; exact q3,q4.ext E⟩
  · rcases oth j _ h1 with ⟨rfl,z1,hl⟩ | ⟨q1,z1⟩
    · rcases oth k _ h2 with ⟨rfl,z2,_⟩ | ⟨q2,z2⟩
      · exact absurd rfl hne
      · rw [List.getElem?_set_self hl] at h3
        cases h3
        rw [List.getElem?_set_ne (Ne.symm q2)]
        exact fun z=>old k zs z2 _ z rfl
    · rw [List.getElem?_set_ne (Ne.symm q1)] at h3
      rcases oth k _ h2 with ⟨rfl,z2,hl⟩ | ⟨q2,z2⟩
      · rw [List.getElem?_set_self hl]
        intro z
        cases z
        exact old j ys z1 _ h3 rfl
      · rw [List.getElem?_set_ne (Ne.symm q2)]
        exact F.ne j k ys zs a hne z1 z2 h3
def Zgf (i:Nat) (f:AM):SM:=fun ρ θ=>(f ρ θ).bind fun xs θ=>if xs.length≤BIG then .ok (.nx,ρ.set i (.own xs)) θ else .bad
theorem Zqe {σ:St} {H:Hp} {B:Bx} {θ:Sto} {ρ:List Sl} {f:AM} {k:List D→Sto→R (Fl×List Sl)} {Dn:ZfB} (F:Frm X.cl B θ ρ σ H) (h:wpS X σ B H ((f ρ θ).bind k) Dn) :
    tMA X f σ H (fun v H1=>∃B1 θ1 d,ExtE B B1 H H1∧Frm X.cl B1 θ1 ρ σ H1∧RepL B1 H1 d v∧wpS X σ B1 H1 (k d θ1) Dn):=
  ⟨B,θ,ρ,F,(wpS.bind (Rel:=RepL) h).mono fun v H1 ⟨B1,θ1,d,E,G,r,w⟩=>⟨B1,θ1,d,E,F.ext E G,r,w⟩⟩
theorem ZgN (i:Nat) {x:Str} {es:List Expr} {f:AM} {pos pos' lpos:Pos} (hN:X.N.Nodup) (he:MA X es f) (hi:X.N[i]?=some x:=by rfl) (hx:Loc X.env.scope x:=by first | exact Or.inl rfl | exact Or.inr rfl)
    (hs:swapsWith (.List es lpos) (some (.Name x pos')) pos.line X.env=pure false:=by rfl) (hf:X.fn x=true∨X.env.scope.names.lookup x=some .local:=by first | exact .inl rfl | exact .inr rfl):MS X (.Assign [.Name x pos'] (.List es lpos) pos) (Zgf i f):=
  PS.imp (Zmr hN hi hx (Zqw he) hs hf) fun D σ H h=>by
  obtain ⟨B,θ,ρ,F,w⟩:=h
  refine Zb6 (Zqe F w) ?_
  rintro vs H1 ⟨B1,θ1,xs,E1,F1,rd,w1⟩
  split at w1
  · rename_i hz
    refine ⟨by rw [rd.len]; exact Zas hz,fun p hp=>?_⟩
    obtain ⟨E2,F2⟩:=F1.setOwn i hp rd
    exact w1 _ _ _ E2 F2
  · exact w1.elim
theorem Frm.updOwn {cl:Mo} {B:Bx} {θ:Sto} {ρ:List Sl} {σ:St} {H:Hp} (F:Frm cl B θ ρ σ H) {i:Nat} {xs ys:List D} {us:List V} {a:Addr} (h:ρ[i]?=some (Sl.own xs)) (ha:σ[i]?=some (some (.ref a))) (r:RepL B H ys us) :
    ExtS B B H (upd H a (.lst us))∧Frm cl B θ (ρ.set i (.own ys)) σ (upd H a (.lst us)):=by
  obtain ⟨a',vs,q1,q2,q3,q4⟩:=F.own i xs h
  rw [ha] at q1
  cases q1
  have hc:∀j,j<B.n→B.m j≠a:=fun j hj z=>(F.good.cF j hj).2 (by rw [z]; exact q2)
  have E:ExtS B B H (upd H a (.lst us)):=⟨Nat.le_refl _,fun _ _=>rfl,fun i h h'=>absurd h' (Nat.not_lt.mpr h),fun b o e _ hb=>by rw [ZS (fun z=>hb (by rw [z]; exact q2))]; exact e,fun b e=>by
    by_cases q:b=a
    · rw [q,zE]; simp
    · rw [ZS q]; exact e,fun _ h=>.inl h,rfl,rfl⟩
  have hl:i < ρ.length:=(List.getElem?_eq_some_iff.mp h).1
  have oth:∀(j:Nat) (s:Sl),(ρ.set i (Sl.own ys))[j]?=some s→(j=i∧s=.own ys)∨(j≠i∧ρ[j]?=some s):=fun j s e=>by
    by_cases q:j=i
    · subst q
      rw [List.getElem?_set_self hl] at e
      cases e
      exact .inl ⟨rfl,rfl⟩
    · rw [List.getElem?_set_ne (Ne.symm q)] at e
      exact .inr ⟨q,e⟩
  refine ⟨E,⟨⟨F.good.len,F.good.inj,fun j c e=>(F.good.cel j c e).ext E fun u q=>by
      have hj:j<B.n:=by rw [←F.good.len]; exact (List.getElem?_eq_some_iff.mp e).1
      rw [ZS (hc j hj)]; exact q,F.good.cF,fun b z=>E.sm b (F.good.Fs b z),fun b z=>E.sm b (F.good.oS b z),F.good.oF,F.good.kc⟩,by simp [F.len],fun j d e=>?_,fun j zs e=>?_,fun j k zs ws b hne h1 h2 h3=>?_⟩⟩
  · rcases oth j _ e with ⟨_,z⟩ | ⟨_,z⟩
    · cases z
    · obtain ⟨v,p1,p2⟩:=F.val j d z
      exact ⟨v,p1,p2.ext E⟩
  · rcases oth j _ e with ⟨rfl,z⟩ | ⟨q,z⟩
    · cases z
      exact ⟨a,us,ha,q2,zE,r.ext E⟩
    · obtain ⟨b,ws,p1,p2,p3,p4⟩:=F.own j zs z
      refine ⟨b,ws,p1,p2,?_,p4.ext E⟩
      rw [ZS (fun z'=>F.ne i j xs zs a (Ne.symm q) h z ha (by rw [←z']; exact p1))]
      exact p3
  · have o1:∃zs',ρ[j]?=some (Sl.own zs'):=by
      rcases oth j _ h1 with ⟨rfl,_⟩ | ⟨_,z⟩
      · exact ⟨xs,h⟩
      · exact ⟨_,z⟩
    have o2:∃ws',ρ[k]?=some (Sl.own ws'):=by
      rcases oth k _ h2 with ⟨rfl,_⟩ | ⟨_,z⟩
      · exact ⟨xs,h⟩
      · exact ⟨_,z⟩
    obtain ⟨zs',o1⟩:=o1
    obtain ⟨ws',o2⟩:=o2
    exact F.ne j k zs' ws' b hne o1 o2 h3
def Zdy (i:Nat) (f:EM):SM:=fun ρ θ=>(f ρ θ).bind fun d θ=>match ρ[i]? with
  | some (Sl.own xs)=>if xs.length<BIG then .ok (.nx,ρ.set i (.own (xs++[d]))) θ else .bad
  | _=>.bad
theorem ZgP (i:Nat) {x:Str} {e:Expr} {f:EM} {p apos pos pos':Pos} (he:ME X e f) (hN:X.N[i]?=some x:=by rfl) (hv:Vis X.env.scope x:=by first | exact Or.inl rfl | exact Or.inr (Or.inl rfl) | exact Or.inr (Or.inr rfl))
    (hd:(x == ("__debug__":Str))=false:=by decide) (hcd:(x == ("__classdict__":Str))=false:=by decide)
    (hpe:∀{to:TE},PE X (.Name x p) to→PE X (.Call (.Attribute (.Name x p) "append" apos) [e] [] pos) (tBM X.K "list" Zna to (Ztp (tM X f) Zud)))
    (hs:swapsWith (.Call (.Attribute (.Name x p) "append" apos) [e] [] pos) none pos'.line X.env=pure false:=by rfl):MS X (.Expr (.Call (.Attribute (.Name x p) "append" apos) [e] [] pos) pos') (Zdy i f):=
  PS.imp (Znc (hpe (ZhW hN hv hd hcd)) hs) fun D σ H h=>by
  obtain ⟨B,θ,ρ,F,w⟩:=h
  have own:∃xs,ρ[i]?=some (Sl.own xs):=by
    unfold Zdy at w
    cases q:f ρ θ with
    | bad=>rw [q] at w; exact w.elim
    | ex c θ'=>rw [q] at w; exact False.elim w
    | ok d θ'=>
      rw [q] at w
      simp only [R.bind_ok] at w
      split at w
      · rename_i xs e; exact ⟨xs,e⟩
      · exact w.elim
  obtain ⟨xs,hx⟩:=own
  obtain ⟨a,vs,q1,q2,q3,q4⟩:=F.own i xs hx
  refine ⟨.ref a,q1,.inl ⟨rfl,vs,SqL.of q3⟩,?_⟩
  refine Z3 (Zf0 F w) ?_
  rintro y H1 ⟨B1,θ1,d,E1,F1,rd,w1⟩
  rw [hx] at w1
  simp only at w1
  split at w1
  · rename_i hz
    obtain ⟨a',us,p1,p2,p3,p4⟩:=F1.own i xs hx
    rw [q1] at p1
    cases p1
    refine ⟨a,us,y,rfl,rfl,p3,by rw [p4.len]; exact Nat.lt_of_lt_of_le hz (Zas (Nat.le_refl _)),?_⟩
    obtain ⟨E2,F2⟩:=F1.updOwn hx q1 (p4.app (show RepL B1 H1 [d] [y] from ⟨y,[],rfl,rd,rfl⟩))
    exact w1 _ _ _ E2 F2
  · exact w1.elim
def Zc1 (i:Nat) (f:SM):SM:=fun ρ θ=>match ρ[i]? with
  | some (Sl.own xs)=>f (ρ.set i (.val (.lst xs))) θ
  | _=>f ρ θ
theorem Zmn {i:Nat} {f:SM} {D:ZfB} {σ:St} {H:Hp} (h:tMS X (Zc1 i f) D σ H):tMS X f D σ H:=by
  obtain ⟨B,θ,ρ,F,w⟩:=h
  unfold Zc1 at w
  split at w
  · rename_i xs hx
    obtain ⟨a,vs,q1,q2,q3,q4⟩:=F.own i xs hx
    let B':Bx:={ B with os:=B.os.filter fun b=>decide (b≠a) }
    have sub:∀b,b∈B'.os→b∈B.os∧b≠a:=fun b hb=>by
      have:=List.mem_filter.mp hb
      exact ⟨this.1,of_decide_eq_true this.2⟩
    have E:ExtS B B' H H:=⟨Nat.le_refl _,fun _ _=>rfl,fun i h h'=>absurd h' (Nat.not_lt.mpr h),fun _ _ e _ _=>e,fun _ e=>e,fun b hb=>.inl (sub b hb).1,rfl,rfl⟩
    have hc:∀j,j<B.n→B.m j≠a:=fun j hj z=>(F.good.cF j hj).2 (by rw [z]; exact q2)
    have G:Good X.cl B' θ H:=⟨F.good.len,F.good.inj,fun j c e=>(F.good.cel j c e).ext E fun _ q=>q,fun j hj=>⟨(F.good.cF j hj).1,fun z=>(F.good.cF j hj).2 (sub _ z).1⟩,F.good.Fs,fun b z=>F.good.oS b (sub b z).1,fun b z=>F.good.oF b (sub b z).1,F.good.kc⟩
    have rv:RepV B' H (.lst xs) (.ref a):=⟨a,vs,rfl,q3,⟨hc,F.good.oF a q2,fun z=>(sub a z).2 rfl⟩,q4.ext E⟩
    have hl:i < ρ.length:=(List.getElem?_eq_some_iff.mp hx).1
    have oth:∀(j:Nat) (s:Sl),(ρ.set i (Sl.val (.lst xs)))[j]?=some s→(j=i∧s=.val (.lst xs))∨(j≠i∧ρ[j]?=some s):=fun j s e=>by
      by_cases q:j=i
      · subst q
        rw [List.getElem?_set_self hl] at e
        cases e
        exact .inl ⟨rfl,rfl⟩
      · rw [List.getElem?_set_ne (Ne.symm q)] at e
        exact .inr ⟨q,e⟩
    refine ⟨B',θ,_,⟨G,by simp [F.len],fun j d e=>?_,fun j ys e=>?_,fun j k ys zs b hne h1 h2 h3=>?_⟩,wpS.trans w E⟩
    · rcases oth j _ e with ⟨rfl,z⟩ | ⟨_,z⟩
      · cases z; exact ⟨_,q1,rv⟩
      · obtain ⟨v,p1,p2⟩:=F.val j d z
        exact ⟨v,p1,p2.ext E⟩
    · rcases oth j _ e with ⟨_,z⟩ | ⟨q,z⟩
      · cases z
      · obtain ⟨b,ws,p1,p2,p3,p4⟩:=F.own j ys z
        refine ⟨b,ws,p1,List.mem_filter.mpr ⟨p2,decide_eq_true fun z'=>?_⟩,p3,p4.ext E⟩
        subst z'
        exact F.ne i j xs ys b (Ne.symm q) hx z q1 p1
    · rcases oth j _ h1 with ⟨_,z⟩ | ⟨_,z1⟩
      · cases z
      · rcases oth k _ h2 with ⟨_,z⟩ | ⟨_,z2⟩
        · cases z
        · exact F.ne j k ys zs b hne z1 z2 h3
  · exact ⟨B,θ,ρ,F,w⟩
theorem ZdX (i:Nat) {st:Stmt} {f:SM} (h:MS X st f):MS X st (Zc1 i f):=PS.imp h fun _ _ _ q=>Zmn q
def Zeh (n:Nat) (ds:List D):List Sl:=ds.map Sl.val++List.replicate (n-ds.length) Sl.no
def ZR (np nn:Nat) (fb:SM):GM:=fun ds θ=>if ds.length=np then (fb (Zeh nn ds) θ).bind fun p θ=>match p.1 with
  | .nx=>.ok .non θ
  | .rt d=>.ok d θ
  | _=>.bad
  else .bad
def spM (X:Mo) (f:GM):Sp:=fun vs H Q E=>∃B θ ds,B.os=[]∧Good X B θ H∧RepL B H ds vs∧(match f ds θ with
  | .ok d θ'=>∀B' H' v,ExtE B B' H H'→Good X B' θ' H'→RepV B' H' d v→Q v H'
  | .ex c θ'=>False
  | .bad=>False)
def Zo (P:Program) (w:World) (K:PySem.W.Frag) (mg:Str→Option Value) (base:Heap) (k:Nat) (x:Str) (f:GM):Prop:=∃ps,Def P w K mg base k x ps (spM ⟨Zaf mg,K⟩ f)
theorem ZnY {cl:Mo} {B:Bx} {θ:Sto} {H:Hp} {ds:List D} {vs:List V} {N:List Str} {nn:Nat} (G:Good cl B θ H) (r:RepL B H ds vs) (hn:N.length=nn):Frm cl B θ (Zeh nn ds) (ZeG N vs) H:=by
  subst hn
  have hl:=r.len
  have key:∀(i:Nat) (s:Sl),(Zeh N.length ds)[i]?=some s→s=.no∨∃d,s=.val d∧∃v,(ZeG N vs)[i]?=some (some v)∧RepV B H d v:=fun i s e=>by
    unfold Zeh at e
    by_cases q:i<ds.length
    · rw [List.getElem?_append_left (by simpa using q),List.getElem?_map,List.getElem?_eq_getElem q] at e
      cases e
      obtain ⟨v,h1,h2⟩:=r.get (List.getElem?_eq_getElem q)
      refine .inr ⟨_,rfl,v,?_,h2⟩
      unfold ZeG
      rw [List.getElem?_append_left (by simpa [hl] using q),List.getElem?_map,h1]
      rfl
    · rw [List.getElem?_append_right (by simpa using q)] at e
      exact .inl (List.eq_of_mem_replicate (List.mem_of_getElem? e))
  refine ⟨G,by simp [Zeh,ZeG,hl],fun i d e=>?_,fun i xs e=>?_,fun i j xs ys a _ e _=>?_⟩
  · rcases key i _ e with z | ⟨d',z,v',h1,h2⟩
    · cases z
    · cases z; exact ⟨v',h1,h2⟩
  · rcases key i _ e with z | ⟨d',z,_⟩<;>cases z
  · rcases key i _ e with z | ⟨d',z,_⟩<;>cases z
theorem mfn {P:Program} {w:World} {K:PySem.W.Frag} {mg:Str→Option Value} {base:Heap} {x qual:Str} {st:Stmt} {N ps:List Str} {k:Nat} {fb:SM} {f:Addr} {fd:FuncData} (F:Fun K x qual st f fd) (S:Zs N ps (Zi st)) (np nn:Nat) (hp:ps.length=np) (hn:N.length=nn)
    (hbody:∀(cdv:Value) (A:Around) (outer:List Env) (s:Shared) (H:Hp) (E:XK),Room k (A.deeper (envOfC qual (Zi st) s.heap.objs.size f cdv))→MSs (Zij CX0 P w K mg base N qual (Zi st) f cdv A outer s H E).nox (Zp st) fb) :
    FnOk P w K mg base CX0 (k+1) f fd ps (spM ⟨Zaf mg,K⟩ (ZR np nn fb)):=by
  refine F.ok S ?_ ?_
  · rintro vs H Q E ⟨B,θ,ds,_,_,r,q⟩
    unfold ZR at q
    split at q
    · rename_i h
      split at h
      · rename_i hl; rw [r.len,hl,hp]
      · cases h
    · exact q.elim
    · exact q.elim
  · intro cdv A outer s H vs Q E hr h
    obtain ⟨B,θ,ds,hos,G,r,q⟩:=h
    refine ⟨tMS (Zij CX0 P w K mg base N qual (Zi st) f cdv A outer s H E).nox fb,hbody cdv A outer s H E hr,B,θ,Zeh nn ds,ZnY G r hn,?_⟩
    unfold ZR at q
    by_cases hl:ds.length=np
    · rw [if_pos hl] at q
      cases e:fb (Zeh nn ds) θ with
      | bad=>rw [e] at q; exact q.elim
      | ex c θ'=>rw [e] at q; exact q.elim
      | ok p θ'=>
        rw [e] at q
        obtain ⟨fl,ρ'⟩:=p
        intro B' H' σ' E' F'
        have hos':∀a,a∈B.os→False:=fun a ha=>by rw [hos] at ha; cases ha
        let B2:Bx:={ B' with os:=[] }
        have E2:ExtE B B2 H H':=⟨⟨E'.n,E'.m,E'.fr,E'.keep,E'.sm,fun a ha=>(nomatch ha),E'.F,E'.ks⟩,hos.symm,fun a o ha=>(hos' a ha).elim⟩
        have E3:ExtS B' B2 H' H':=⟨Nat.le_refl _,fun _ _=>rfl,fun i h h'=>absurd h' (Nat.not_lt.mpr h),fun _ _ e _ _=>e,fun _ e=>e,fun b hb=>(nomatch hb),rfl,rfl⟩
        have G2:Good ⟨Zaf mg,K⟩ B2 θ' H':=⟨F'.good.len,F'.good.inj,fun j c e=>(F'.good.cel j c e).ext E3 fun _ q=>q,fun j hj=>⟨(F'.good.cF j hj).1,fun z=>nomatch z⟩,F'.good.Fs,fun b z=>(nomatch z),fun b z=>(nomatch z),F'.good.kc⟩
        cases fl with
        | nx=>exact q B2 H' .non E2 G2 rfl
        | rt d=>exact fun v rv=>q B2 H' v E2 G2 (rv.ext E3)
        | bk=>exact q.elim
        | ct=>exact q.elim
    · rw [if_neg hl] at q
      exact q.elim
theorem ZW {P:Program} {w:World} {K:PySem.W.Frag} {mg:Str→Option Value} {base:Heap} {x:Str} {st:Stmt} {N ps:List Str} {k:Nat} {fb:SM} (D0:Zn K mg x st ps) (S:Zs N ps (Zi st)) (np nn:Nat) (hp:ps.length=np) (hn:N.length=nn)
    (hbody:∀(f:Addr) (cdv:Value) (A:Around) (outer:List Env) (s:Shared) (H:Hp) (E:XK),Room k (A.deeper (envOfC x (Zi st) s.heap.objs.size f cdv))→MSs (Zij CX0 P w K mg base N x (Zi st) f cdv A outer s H E).nox (Zp st) fb):Zo P w K mg base (k+1) x (ZR np nn fb):=by
  obtain ⟨f,fd,F,b,m⟩:=D0
  exact ⟨ps,f,fd,mfn F S np nn hp hn (hbody f),b,F.kp,m⟩
def Bx.inC (B:Bx):Bx:={ B with F:=fun a=>B.F a∨a∈B.os,os:=[] }
theorem inC_ok {B:Bx} {a:Addr}:B.inC.ok a↔B.ok a:=by
  constructor
  · rintro ⟨h1,h2,h3⟩
    exact ⟨h1,fun z=>h2 (.inl z),fun z=>h2 (.inr z)⟩
  · rintro ⟨h1,h2,h3⟩
    exact ⟨h1,fun z=>z.elim h2 h3,fun z=>nomatch z⟩
mutual
theorem RepV.same {B B':Bx} {H:Hp} (hn:B'.n=B.n) (hm:B'.m=B.m) (hk:B'.ks=B.ks) (ho:∀a,B.ok a→B'.ok a):∀{d:D} {v:V},RepV B H d v→RepV B' H d v
  | .non,_,h=>h
  | .bl _,_,h=>h
  | .int _,_,h=>h
  | .str _,_,h=>h
  | .ty _,_,h=>h
  | .scr _,_,h=>by
    obtain ⟨a,e,h⟩:=h
    refine ⟨a,e,?_⟩
    rcases h with ⟨o,h,k⟩ | h
    · exact .inl ⟨o,h,ho a k⟩
    · exact .inr (by rw [hk]; exact h)
  | .tup _,_,h=>by obtain ⟨a,vs,e,h,k,l⟩:=h; exact ⟨a,vs,e,h,ho a k,RepL.same hn hm hk ho l⟩
  | .lst _,_,h=>by obtain ⟨a,vs,e,h,k,l⟩:=h; exact ⟨a,vs,e,h,ho a k,RepL.same hn hm hk ho l⟩
  | .ref l,_,h=>⟨by rw [hn]; exact h.1,by rw [hm]; exact h.2⟩
theorem RepL.same {B B':Bx} {H:Hp} (hn:B'.n=B.n) (hm:B'.m=B.m) (hk:B'.ks=B.ks) (ho:∀a,B.ok a→B'.ok a):∀{ds:List D} {vs:List V},RepL B H ds vs→RepL B' H ds vs
  | [],_,h=>h
  | _::_,_,h=>by obtain ⟨v,r,e,hv,hr⟩:=h; exact ⟨v,r,e,RepV.same hn hm hk ho hv,RepL.same hn hm hk ho hr⟩
end
theorem RepKV.same {κ:Type} {B B':Bx} {H:Hp} (hn:B'.n=B.n) (hm:B'.m=B.m) (hk:B'.ks=B.ks) (ho:∀a,B.ok a→B'.ok a):∀{ks:List (κ×D)} {vs:List (κ×V)},RepKV B H ks vs→RepKV B' H ks vs
  | _,_,.nil=>.nil
  | _,_,.cons h t=>.cons ⟨h.1,RepV.same hn hm hk ho h.2⟩ (RepKV.same hn hm hk ho t)
theorem CellOk.same {cl:Mo} {B B':Bx} {H:Hp} {a:Addr} {c:Cell} (hn:B'.n=B.n) (hm:B'.m=B.m) (hk:B'.ks=B.ks) (ho:∀a,B.ok a→B'.ok a) (k:CellOk cl B H a c):CellOk cl B' H a c:=by
  cases c with
  | lst xs=>obtain ⟨vs,e,r⟩:=k; exact ⟨vs,e,r.same hn hm hk ho⟩
  | dK kvs=>obtain ⟨vs,e,r⟩:=k; exact ⟨vs,e,r.same hn hm hk ho⟩
  | dT kvs=>obtain ⟨vs,e,r⟩:=k; exact ⟨vs,e,r.same hn hm hk ho⟩
  | ins C fs=>obtain ⟨dx,vs,e,r⟩:=k; exact ⟨dx,vs,e,r.same hn hm hk ho⟩
theorem Zrj {cl:Mo} {B:Bx} {θ:Sto} {H:Hp} (G:Good cl B θ H):Good cl B.inC θ H:=
  ⟨G.len,G.inj,fun i c e=>CellOk.same (B:=B) (B':=B.inC) rfl rfl rfl (fun a=>inC_ok.mpr) (G.cel i c e),fun i hi=>⟨fun z=>z.elim (G.cF i hi).1 (G.cF i hi).2,fun z=>nomatch z⟩,fun a z=>z.elim (G.Fs a) (G.oS a),fun a z=>(nomatch z),fun a z=>(nomatch z),G.kc⟩
theorem Zwt {cl:Mo} {B B':Bx} {θ θ':Sto} {H H':Hp} (G:Good cl B θ H) (E:ExtE B.inC B' H H') (G':Good cl B' θ' H') :
    ExtE B { B' with F:=B.F,os:=B.os } H H'∧Good cl { B' with F:=B.F,os:=B.os } θ' H'∧∀d v,RepV B' H' d v→RepV { B' with F:=B.F,os:=B.os } H' d v:=by
  have hF:B'.F=fun a=>B.F a∨a∈B.os:=E.F
  have ho:∀a,B'.ok a→Bx.ok { B' with F:=B.F,os:=B.os } a:=fun a ⟨h1,h2,h3⟩=>by
    rw [hF] at h2
    exact ⟨h1,fun z=>h2 (.inl z),fun z=>h2 (.inr z)⟩
  have keep:∀a o,H a=some o→(∀i,i<B.n→B.m i≠a)→H' a=some o:=fun a o h k=>E.keep a o h k (fun z=>nomatch z)
  refine ⟨⟨⟨E.n,E.m,E.fr,fun a o h k _=>keep a o h k,E.sm,fun a h=>.inl h,rfl,E.ks⟩,rfl,fun a o _ k h=>keep a o h k⟩,⟨G'.len,G'.inj,fun i c e=>CellOk.same (B:=B') (B':={ B' with F:=B.F,os:=B.os }) rfl rfl rfl ho (G'.cel i c e),fun i hi=>?_,fun a z=>E.sm a (G.Fs a z),fun a z=>E.sm a (G.oS a z),G.oF,G'.kc⟩,fun d v r=>RepV.same (B:=B') (B':={ B' with F:=B.F,os:=B.os }) rfl rfl rfl ho r⟩
  have:=(G'.cF i hi).1
  rw [hF] at this
  exact ⟨fun z=>this (.inl z),fun z=>this (.inr z)⟩
theorem ZnC {f:GM} {σ:St} {B:Bx} {θ:Sto} {H:Hp} {ds:List D} {vs:List V} {Q:VK} {E:XK} (G:Good X.cl B θ H) (r:RepL B H ds vs) (w:wpR X σ RepV B H (f ds θ) Q):spM X.cl f vs H Q E:=by
  refine ⟨B.inC,θ,ds,rfl,Zrj G,RepL.same (B:=B) (B':=B.inC) rfl rfl rfl (fun a=>inC_ok.mpr) r,?_⟩
  cases e:f ds θ with
  | bad=>rw [e] at w; exact w
  | ex c θ'=>rw [e] at w; exact w
  | ok d θ'=>
    rw [e] at w
    intro B' H' v E' G' rv
    obtain ⟨h1,h2,h3⟩:=Zwt G E' G'
    exact w _ H' v h1 h2 (h3 d v rv)
theorem Zh {k j:Nat} {x:Str} {f:GM} {p pos:Pos} {e:Expr} {es:List Expr} {fs:AM} (D0:Zo X.prog X.w X.K X.mg X.base k x f) (hr:Room j X.A) (hj:k≤j) (ha:MA X (e::es) fs) (hg:Gl X x:=by rfl) (hdb:(x == ("__debug__":Str))=false:=by decide)
    (he:starEach (e::es) X.env=(false,eval e X.env)::starEach es X.env:=by rfl) (hpl:(backTo pos (starEach es X.env)).any (·.1)=false:=by rfl):ME X (.Call (.Name x p) (e::es) [] pos) (mCB f fs):=by
  obtain ⟨ps,D0⟩:=D0
  refine PE.imp (ZqC D0 hr hj ha hg hdb he hpl) fun σ H Q h=>?_
  obtain ⟨B,θ,ρ,F,w⟩:=h
  refine Zb6 (ZhT F w) ?_
  rintro vs H1 ⟨B1,θ1,ds,E1,F1,rd,w1⟩
  rw [List.append_nil]
  exact ZnC F1.good rd w1
end
end L2.MM
namespace L2.MM
open PySem PySem.Spec PyProof.Rows PySem.SeqAt
noncomputable section
def Zm7 (K:PySem.W.Frag):Sp:=fun vs H Q _=>∃(a:Addr) (ns:List Int),vs=[.ref a]∧Zs9 H∧SqL K H a (ns.map V.int)∧ns.length≤63∧∀H',Q (.bl true) H'
theorem ZsQ {P:Program} {w:World} {K:PySem.W.Frag} {mg:Str→Option Value} {base:Heap} {k:Nat} {f:Addr} {fd:FuncData} {ps:List Str} {g:GM} (h:∀ns:List Int,ns.length≤63→∃θ',g [.scr ns] []=.ok (.bl true) θ')
    (F:FnOk P w K mg base CX0 k f fd ps (spM ⟨Zaf mg,K⟩ g)):FnOk P w K mg base CX0 k f fd ps (Zm7 K):=by
  refine F.imp ?_
  rintro vs H Q E ⟨a,ns,rfl,hO,hS,hl,q⟩
  obtain ⟨θ',e⟩:=h ns hl
  refine ⟨⟨0,fun _=>0,fun _=>False,[],KL K⟩,[],[.scr ns],rfl,⟨rfl,fun i j hi=>absurd hi (Nat.not_lt_zero _),fun i c h=>by simp at h,fun i hi=>absurd hi (Nat.not_lt_zero _),fun a h=>h.elim,fun a h=>(nomatch h),fun a h=>(nomatch h),fun a ns h=>h⟩,?_,?_⟩
  · refine ⟨.ref a,[],rfl,⟨a,rfl,?_⟩,rfl⟩
    rcases hS with (h1 | ⟨o,h1⟩) | h1
    · rcases hO a with z | ⟨o,xs,z⟩
      · rw [z] at h1; cases h1
      · rw [z] at h1; cases h1
    · exact .inl ⟨o,h1,fun i hi=>absurd hi (Nat.not_lt_zero _),fun z=>z,fun z=>(nomatch z)⟩
    · exact .inr h1
  · rw [e]
    intro B' H' v _ _ rv
    cases (show v=V.bl true from rv)
    exact q H'
end
end L2.MM
namespace L2.MM
open PySem PySem.Spec PyProof.Rows PySem.SeqAt
noncomputable section
section
variable {i j k:Nat} {ρ:List Sl} {θ:Sto} {f g h:EM} {fs:AM} {t u:TMr}
@[simp] theorem ZpS:Zd i ρ θ=match ρ[i]? with | some (Sl.val d)=>.ok d θ | _=>.bad:=nr rfl
@[simp] theorem x_c {d:D}:mC d ρ θ=.ok d θ:=nr rfl
@[simp] theorem ZtO {o:OM}:mOp o f g ρ θ=(f ρ θ).bind fun x θ=>(g ρ θ).bind fun y θ=>o x y θ:=nr rfl
@[simp] theorem Zzn:ZI f ρ θ=(f ρ θ).bind fun x θ=>match x with | .bl k=>.ok k θ | _=>.bad:=nr rfl
@[simp] theorem ZAF:Zae f ρ θ=(f ρ θ).bind fun x θ=>match Zhq θ x with | some k=>.ok k θ | none=>.bad:=nr rfl
@[simp] theorem ZAT:ZfA t u ρ θ=(t ρ θ).bind fun k θ=>if k=true then u ρ θ else .ok false θ:=nr rfl
@[simp] theorem ZBk:mOr t u ρ θ=(t ρ θ).bind fun k θ=>if k=true then .ok true θ else u ρ θ:=nr rfl
@[simp] theorem ZAJ:Zeq t ρ θ=(t ρ θ).bind fun k θ=>.ok (!k) θ:=nr rfl
def Zvd (g:Sto→R D):D→Sto→R D
  | .bl true,θ=>g θ
  | .bl false,θ=>.ok (.bl false) θ
  | _,_=>.bad
def orK (g:Sto→R D):D→Sto→R D
  | .bl true,θ=>.ok (.bl true) θ
  | .bl false,θ=>g θ
  | _,_=>.bad
@[simp] theorem ZxA {g:Sto→R D} {k:Bool}:Zvd g (.bl k) θ=if k=true then g θ else .ok (.bl false) θ:=by cases k<;>rfl
@[simp] theorem Zz5 {g:Sto→R D} {k:Bool}:orK g (.bl k) θ=if k=true then .ok (.bl true) θ else g θ:=by cases k<;>rfl
@[simp] theorem Zzz:ZcG f g ρ θ=(f ρ θ).bind (Zvd (g ρ)):=by
  show (f ρ θ).bind _=_
  congr 1
  funext x θ
  cases x<;>first | rfl | (rename_i b; cases b<;>rfl)
@[simp] theorem ZAI:ZlL f g ρ θ=(f ρ θ).bind (orK (g ρ)):=by
  show (f ρ θ).bind _=_
  congr 1
  funext x θ
  cases x<;>first | rfl | (rename_i b; cases b<;>rfl)
@[simp] theorem ZwI {p:Prop} [Decidable p] {m:Bool}:(if p then R.ok (D.bl m) θ else R.ok (D.bl false) θ)=R.ok (D.bl (decide p && m)) θ:=by by_cases h:p<;>simp [h]
@[simp] theorem Zxq {p:Prop} [Decidable p] {m:Bool}:(if p then R.ok (D.bl true) θ else R.ok (D.bl m) θ)=R.ok (D.bl (decide p || m)) θ:=by by_cases h:p<;>simp [h]
@[simp] theorem ZvA {p:Prop} [Decidable p] {m:Bool}:(if p then R.ok m θ else R.ok false θ)=R.ok (decide p && m) θ:=by by_cases h:p<;>simp [h]
@[simp] theorem ZwH {p:Prop} [Decidable p] {m:Bool}:(if p then R.ok true θ else R.ok m θ)=R.ok (decide p || m) θ:=by by_cases h:p<;>simp [h]
@[simp] theorem Zzt:Zns f ρ θ=(f ρ θ).bind fun x θ=>match Zhq θ x with | some k=>.ok (.bl (!k)) θ | none=>.bad:=nr rfl
@[simp] theorem ZAK:ZAa f ρ θ=(f ρ θ).bind fun x θ=>match x with | .int i=>.ok (.int (-i)) θ | _=>.bad:=nr rfl
@[simp] theorem ZAN:Zgh t f g ρ θ=(t ρ θ).bind fun k θ=>if k=true then f ρ θ else g ρ θ:=nr rfl
@[simp] theorem Zxe {o o':OM}:Zer o o' f g h ρ θ=(f ρ θ).bind fun x θ=>(g ρ θ).bind fun y θ=>(o x y θ).bind (Zvd fun θ=>(h ρ θ).bind fun w θ=>o' y w θ):=by
  show (f ρ θ).bind _=_
  congr 1
  funext x θ
  congr 1
  funext y θ
  congr 1
  funext z θ
  cases z<;>first | rfl | (rename_i b; cases b<;>rfl)
@[simp] theorem ZpW:Zk ρ θ=.ok [] θ:=nr rfl
@[simp] theorem Zmc:Zc f fs ρ θ=(f ρ θ).bind fun x θ=>(fs ρ θ).bind fun xs θ=>.ok (x::xs) θ:=nr rfl
@[simp] theorem ZAE:Zak fs ρ θ=(fs ρ θ).bind fun xs θ=>if xs.length≤BIG then .ok (.tup xs) θ else .bad:=nr rfl
@[simp] theorem ZvM:Zb5 fs ρ θ=(fs ρ θ).bind fun xs θ=>if xs.length≤BIG then .ok (.lst xs) θ else .bad:=nr rfl
@[simp] theorem ZvS {o:GM}:mCB o fs ρ θ=(fs ρ θ).bind fun xs θ=>o xs θ:=nr rfl
@[simp] theorem Zla:zh ρ θ=.ok none θ:=nr rfl
@[simp] theorem ZpV:zO f ρ θ=(f ρ θ).bind fun x θ=>match x with | .int i=>.ok (some i) θ | _=>.bad:=nr rfl
@[simp] theorem ZvI {lo hi:PM}:mSl f lo hi ρ θ=(f ρ θ).bind fun x θ=>(lo ρ θ).bind fun l θ=>(hi ρ θ).bind fun h θ=>match ZcM θ x l h with
  | some d=>.ok d θ
  | none=>.bad:=nr rfl
@[simp] theorem ZAG {lo hi st:PM}:ZsM f lo hi st ρ θ=(f ρ θ).bind fun x θ=>(lo ρ θ).bind fun l θ=>(hi ρ θ).bind fun h θ=>(st ρ θ).bind fun s θ=>match Zav θ x with
  | some xs=>if s≠some 0∧(ZdU xs l h s).length≤BIG then .ok (.lst (ZdU xs l h s)) θ else .bad
  | none=>.bad:=nr rfl
@[simp] theorem ZBm:mIn f ρ θ=(f ρ θ).bind fun d θ=>match seqOf θ d with | some _=>.ok (.seq d) θ | none=>.bad:=nr rfl
@[simp] theorem Zzr:ZcW fs ρ θ=(fs ρ θ).bind fun ds θ=>match ds with
  | [.int j]=>if -1000000≤j∧j≤1000000 then .ok (.rng 0 j.toNat) θ else .bad
  | _=>.bad:=by
  unfold ZcW; exact nr rfl
variable {a b:SM} {Fl':Fl×List Sl}
@[simp] theorem Zzo:ZN ρ θ=.ok (.nx,ρ) θ:=nr rfl
@[simp] theorem ZAS:ZsN ρ θ=.bad:=nr rfl
@[simp] theorem Zvi {ρ':List Sl}:ZhP (.ok (.nx,ρ') θ) a=a ρ' θ:=nr rfl
@[simp] theorem Zvh {ρ':List Sl} {d:D}:ZhP (.ok (.rt d,ρ') θ) a=.ok (.rt d,ρ') θ:=nr rfl
@[simp] theorem ZAH:Zq a b ρ θ=ZhP (a ρ θ) b:=nr rfl
@[simp] theorem Zzx:zS f ρ θ=(f ρ θ).bind fun _ θ=>.ok (.nx,ρ) θ:=nr rfl
@[simp] theorem ZiK:ZO f ρ θ=(f ρ θ).bind fun d θ=>.ok (.rt d,ρ) θ:=nr rfl
@[simp] theorem Zzs:Zgg ρ θ=.ok (.rt .non,ρ) θ:=nr rfl
@[simp] theorem ZBn:mIf t a b ρ θ=(t ρ θ).bind fun k θ=>if k=true then a ρ θ else b ρ θ:=nr rfl
@[simp] theorem ZvK:ZP i f ρ θ=(f ρ θ).bind fun d θ=>.ok (.nx,ρ.set i (.val d)) θ:=nr rfl
@[simp] theorem ZvJ:Zgf i fs ρ θ=(fs ρ θ).bind fun xs θ=>if xs.length≤BIG then .ok (.nx,ρ.set i (.own xs)) θ else .bad:=nr rfl
@[simp] theorem ZvR:Zdy i f ρ θ=(f ρ θ).bind fun d θ=>match ρ[i]? with
  | some (Sl.own xs)=>if xs.length<BIG then .ok (.nx,ρ.set i (.own (xs++[d]))) θ else .bad
  | _=>.bad:=nr rfl
@[simp] theorem ZvQ:Zc1 i a ρ θ=match ρ[i]? with | some (Sl.own xs)=>a (ρ.set i (.val (.lst xs))) θ | _=>a ρ θ:=nr rfl
@[simp] theorem Zfn {ρ':List Sl}:ZfF a (.nx,ρ') θ=a ρ' θ:=nr rfl
@[simp] theorem ZAO {d:D}:gNm i d ρ=some (ρ.set i (.val d)):=nr rfl
@[simp] theorem ZAR {np nn:Nat} {ds:List D}:ZR np nn a ds θ=if ds.length=np then (a (Zeh nn ds) θ).bind fun p θ=>match p.1 with | .nx=>.ok .non θ | .rt d=>.ok d θ | _=>.bad else .bad:=nr rfl
@[simp] theorem Zw9 {n:Nat} {ds:List D}:Zeh n ds=ds.map Sl.val++List.replicate (n-ds.length) Sl.no:=nr rfl
@[simp] theorem Zg9 {xs:List D}:seqOf θ (.tup xs)=some xs:=nr rfl
@[simp] theorem Zvg {b:Bool}:Zhq θ (.bl b)=some b:=nr rfl
@[simp] theorem ZtN {ns:List Int}:Zhq θ (.scr ns)=some (!(ns.map D.int).isEmpty):=nr rfl
@[simp] theorem ZtQ {xs:List D}:look θ (.lst xs)=.lst xs:=nr rfl
@[simp] theorem ZtR {n:Int}:look θ (.int n)=.int n:=nr rfl
@[simp] theorem Zvj {n:Bool}:look θ (.bl n)=.bl n:=nr rfl
@[simp] theorem ZtP {n:Str}:look θ (.str n)=.str n:=nr rfl
@[simp] theorem ZpX {xs:List D} {n:Int}:ixM (.lst xs) (.int n) θ=match atI xs n with | some d=>.ok d θ | none=>.bad:=nr rfl
@[simp] theorem ZfW {xs:List D} {n:Int}:ixM (.tup xs) (.int n) θ=match atI xs n with | some d=>.ok d θ | none=>.bad:=nr rfl
@[simp] theorem ZvO {xs:List Int} {n:Int}:ixM (.scr xs) (.int n) θ=match atI (xs.map D.int) n with | some d=>.ok d θ | none=>.bad:=nr rfl
@[simp] theorem ZvN {xs:List D}:Zes [.lst xs] θ=.ok (.int xs.length) θ:=nr rfl
@[simp] theorem ZnO {xs:List D}:Zes [.tup xs] θ=.ok (.int xs.length) θ:=nr rfl
@[simp] theorem Zvk {xs:List Int}:Zes [.scr xs] θ=.ok (.int (xs.map D.int).length) θ:=nr rfl
@[simp] theorem ZvH {xs:List D}:ZnU [.lst xs] θ=match Zgm xs with | some ns=>.ok (.int ns.sum) θ | none=>.bad:=nr rfl
@[simp] theorem Zta {xs:List D}:Zou [.lst xs] θ=match ZjN xs with | some ns=>.ok (.bl (ns.all id)) θ | none=>.bad:=nr rfl
@[simp] theorem ZAL {m n:Int}:ZlH [.int m,.int n] θ=.ok (.int (if n<m then n else m)) θ:=nr rfl
@[simp] theorem Zzu {m n k:Int}:ZlH [.int m,.int n,.int k] θ=.ok (.int (if n<m then (if k<n then k else n) else (if k<m then k else m))) θ:=nr rfl
@[simp] theorem ZAM {m n:Int}:ZsL [.int m,.int n] θ=.ok (.int (if n > m then n else m)) θ:=nr rfl
@[simp] theorem Zzw {k:Bool}:Zrd [.bl k] θ=.ok (.int (if k then 1 else 0)) θ:=nr rfl
@[simp] theorem ZpT {xs:List D} {lo hi:Option Int}:ZcM θ (.tup xs) lo hi=if HT.sIx xs.length 0 lo=0∧HT.sIx xs.length xs.length hi=xs.length then none else some (.tup (Zaw xs lo hi)):=nr rfl
@[simp] theorem ZpU {xs:List D} {lo hi:Option Int}:ZcM θ (.lst xs) lo hi=some (.lst (Zaw xs lo hi)):=nr rfl
@[simp] theorem ZBl {x:D}:isM x .non θ=.ok (.bl (Zb1 x)) θ:=nr rfl
@[simp] theorem Zxb {x:D}:ZgT x .non θ=.ok (.bl (!Zb1 x)) θ:=nr rfl
@[simp] theorem ZvP {x y:Bool}:ZgT (.bl x) (.bl y) θ=.ok (.bl (!(x == y))) θ:=nr rfl
end
mutual
def pl:Nat→D→Bool
  | _,.non=>true
  | _,.bl _=>true
  | _,.int _=>true
  | _,.str x=>PyData.strOk x
  | k+1,.tup xs=>pls k xs
  | k+1,.lst xs=>pls k xs
  | _,_=>false
def pls:Nat→List D→Bool
  | _,[]=>true
  | k,d::r=>pl k d && pls k r
end
mutual
def noB:D→Bool
  | .bl _=>false
  | .tup xs=>ZeO xs
  | .lst xs=>ZeO xs
  | _=>true
def ZeO:List D→Bool
  | []=>true
  | d::r=>noB d && ZeO r
end
mutual
theorem Znf:∀(k:Nat) (d:D),pl k d=true→plain d=true∧(dat d).canLay0=true∧(dat d).depth≤k
  | _,.non,_=>⟨rfl,rfl,Nat.zero_le _⟩
  | _,.bl _,_=>⟨rfl,rfl,Nat.zero_le _⟩
  | _,.int _,_=>⟨rfl,rfl,Nat.zero_le _⟩
  | k,.str x,h=>⟨rfl,by cases k<;>simpa [pl,dat,PyData.canLay0] using h,Nat.zero_le _⟩
  | k+1,.tup xs,h=>by
    obtain ⟨a,b,c⟩:=Zmt k xs (by simpa [pl] using h)
    exact ⟨a,b,by simp only [dat,PyData.depth]; omega⟩
  | k+1,.lst xs,h=>by
    obtain ⟨a,b,c⟩:=Zmt k xs (by simpa [pl] using h)
    exact ⟨a,b,by simp only [dat,PyData.depth]; omega⟩
  | 0,.tup xs,h=>by simp [pl] at h
  | 0,.lst xs,h=>by simp [pl] at h
  | 0,.ty _,h=>by simp [pl] at h
  | 0,.scr _,h=>by simp [pl] at h
  | 0,.ref _,h=>by simp [pl] at h
  | _+1,.ty _,h=>by simp [pl] at h
  | _+1,.scr _,h=>by simp [pl] at h
  | _+1,.ref _,h=>by simp [pl] at h
theorem Zmt:∀(k:Nat) (ds:List D),pls k ds=true→Zb7 ds=true∧PyData.canLayAll0 (Ze8 ds)=true∧PyData.depthAll (Ze8 ds)≤k
  | _,[],_=>⟨rfl,rfl,Nat.zero_le _⟩
  | k,d::r,h=>by
    have h':pl k d=true∧pls k r=true:=by simpa [pls] using h
    obtain ⟨a,b,c⟩:=Znf k d h'.1
    obtain ⟨a',b',c'⟩:=Zmt k r h'.2
    exact ⟨by simp [Zb7,a,a'],by simp [Ze8,PyData.canLayAll0,b,b'],by simp only [Ze8,PyData.depthAll]; omega⟩
end
mutual
theorem Znp:∀(d e:D),noB d=true→noB e=true→noMix (dat d) (dat e)=true:=fun d e p q=>by
  cases d with
  | bl _=>simp [noB] at p
  | tup xs=>
    cases e with
    | bl _=>simp [noB] at q
    | tup ys=>simp only [dat,noMix]; exact Zh2 xs ys p q
    | _=>simp [dat,noMix]
  | lst xs=>
    cases e with
    | bl _=>simp [noB] at q
    | lst ys=>simp only [dat,noMix]; exact Zh2 xs ys p q
    | _=>simp [dat,noMix]
  | _=>cases e<;>simp_all [noB,dat,noMix]
theorem Zh2:∀(ds es:List D),ZeO ds=true→ZeO es=true→noMixAll (Ze8 ds) (Ze8 es)=true
  | [],[],_,_=>rfl
  | [],_::_,_,_=>rfl
  | _::_,[],_,_=>rfl
  | d::ds,e::es,p,q=>by
    have p':noB d=true∧ZeO ds=true:=by simpa [ZeO] using p
    have q':noB e=true∧ZeO es=true:=by simpa [ZeO] using q
    simp only [Ze8,noMixAll,Bool.and_eq_true]
    exact ⟨Znp d e p'.1 q'.1,Zh2 ds es p'.2 q'.2⟩
end
theorem ZiR {k:Nat} {d:D} (h:pl k d=true) (hk:k≤64):shaped (dat d)=true:=by
  obtain ⟨_,b,c⟩:=Znf k d h
  unfold shaped
  rw [b,decide_eq_true (by omega)]
  rfl
theorem Zdk {x y:D} (h1:pl 9 x=true) (h2:pl 9 y=true) (h3:noB x=true) (h4:noB y=true):Zjn x y:=
  ⟨(Znf _ _ h1).1,(Znf _ _ h2).1,ZiR h1 (by decide),ZiR h2 (by decide),Znp x y h3 h4⟩
theorem Zva {a b:Bool}:Zjn (.bl a) (.bl b):=⟨rfl,rfl,rfl,rfl,rfl⟩
section
open Classical
theorem Zig {x y:D} {θ:Sto} (h:Zjn (look θ x) (look θ y)):eqM x y θ=.ok (.bl (decide (look θ x=look θ y))) θ:=if_pos h
theorem ZfL {x y:D} {θ:Sto} (h:Zjn (look θ x) (look θ y)):neM x y θ=.ok (.bl (!decide (look θ x=look θ y))) θ:=if_pos h
end
@[simp] theorem Zwn (k:Nat) (ns:List Int):pls k (ns.map D.int)=true:=by
  induction ns with
  | nil=>rfl
  | cons n r ih=>simp only [List.map_cons,pls,ih,Bool.and_true]; cases k<;>rfl
@[simp] theorem Zvy (ns:List Int):ZeO (ns.map D.int)=true:=by
  induction ns with
  | nil=>rfl
  | cons n r ih=>simp only [List.map_cons,ZeO,ih,Bool.and_true]; rfl
@[simp] theorem ZtB (ns ms:List Int):(ns.map D.int=ms.map D.int)↔ns=ms:=by
  constructor
  · intro h
    have:∀(ns ms:List Int),ns.map D.int=ms.map D.int→ns=ms:=fun ns=>by
      induction ns with
      | nil=>intro ms h; cases ms with
        | nil=>rfl
        | cons _ _=>cases h
      | cons n r ih=>intro ms h; cases ms with
        | nil=>cases h
        | cons m s=>simp at h; rw [h.1,ih s h.2]
    exact this ns ms h
  · intro h; rw [h]
@[simp] theorem ZAt (a b:Int) (θ:Sto):eqM (.int a) (.int b) θ=.ok (.bl (decide (a=b))) θ:=by
  rw [Zig (Zdk rfl rfl rfl rfl)]
  simp
@[simp] theorem Zz6 (a b:Int) (θ:Sto):neM (.int a) (.int b) θ=.ok (.bl (!decide (a=b))) θ:=by
  rw [ZfL (Zdk rfl rfl rfl rfl)]
  simp
@[simp] theorem ZA0 (a b:Bool) (θ:Sto):neM (.bl a) (.bl b) θ=.ok (.bl (!decide (a=b))) θ:=by
  rw [ZfL (x:=.bl a) (y:=.bl b) Zva]
  simp
@[simp] theorem ZsZ (a b:List Int) (θ:Sto):eqM (.lst (a.map D.int)) (.lst (b.map D.int)) θ=.ok (.bl (decide (a=b))) θ:=by
  rw [Zig (Zdk (by simp [pl]) (by simp [pl]) (by simp [noB]) (by simp [noB]))]
  simp
@[simp] theorem ZsG (a b:List Int) (θ:Sto):neM (.lst (a.map D.int)) (.lst (b.map D.int)) θ=.ok (.bl (!decide (a=b))) θ:=by
  rw [ZfL (Zdk (by simp [pl]) (by simp [pl]) (by simp [noB]) (by simp [noB]))]
  simp
end
end L2.MM
namespace L2.MM
open PySem PySem.Spec PyProof.Rows PySem.SeqAt My
noncomputable section
@[simp] theorem ZrO:BIG=100000:=nr rfl
def il (ns:List Int):D:=.lst (ns.map D.int)
def itp (ns:List Int):D:=.tup (ns.map D.int)
section
variable {θ:Sto} {a b ns ms:List Int} {i j:Int}
@[simp] theorem ZwY:D.lst (ns.map D.int)=il ns:=nr rfl
theorem Zdj:D.lst []=il []:=rfl
@[simp] theorem ZBe (x:Int):D.lst [.int x]=il [x]:=nr rfl
@[simp] theorem ZwX (x y:Int):D.lst [.int x,.int y]=il [x,y]:=nr rfl
@[simp] theorem ZBd (x y z w:Int):D.lst [.int x,.int y,.int z,.int w]=il [x,y,z,w]:=nr rfl
@[simp] theorem ZBc (x y z w v:Int):D.lst [.int x,.int y,.int z,.int w,.int v]=il [x,y,z,w,v]:=nr rfl
@[simp] theorem ZBb (x y z w v u:Int):D.lst [.int x,.int y,.int z,.int w,.int v,.int u]=il [x,y,z,w,v,u]:=nr rfl
@[simp] theorem ZBa (x y z w v u t:Int):D.lst [.int x,.int y,.int z,.int w,.int v,.int u,.int t]=il [x,y,z,w,v,u,t]:=nr rfl
@[simp] theorem ZwM:Zav θ (il a)=some (a.map D.int):=nr rfl
@[simp] theorem ZwL:seqOf θ (il a)=some (a.map D.int):=nr rfl
@[simp] theorem Zrf:ZK (il a) (il b) θ=if a.length+b.length≤BIG then .ok (il (a++b)) θ else .bad:=by
  unfold il
  rw [ZrK]
  simp [il]
theorem ZhE (h:a.length+b.length≤100000):ZK (il a) (il b) θ=.ok (il (a++b)) θ:=by
  rw [Zrf,if_pos h]
@[simp] theorem ZAf:Zes [il a] θ=.ok (.int a.length) θ:=by
  unfold il; rw [ZvN]; simp
@[simp] theorem ZAd:Zes [itp a] θ=.ok (.int a.length) θ:=by
  unfold itp; rw [ZnO]; simp
theorem ZnL {α β:Type} (f:α→β) (xs:List α) (n:Int):atI (xs.map f) n=(atI xs n).map f:=by
  unfold L2.atI
  rw [List.length_map]
  cases ixN xs.length n with
  | none=>rfl
  | some k=>simp
theorem ZwN:ixM (il a) (.int i) θ=match atI a i with | some z=>.ok (.int z) θ | none=>.bad:=by
  unfold il
  rw [ZpX,ZnL]
  cases atI a i<;>rfl
theorem Zvc {α:Type} {xs:List α} {n:Nat} {x:α} (h:xs[n]?=some x):atI xs (n:Int)=some x:=ZeD h
theorem ZrH {xs:List Int} {i:Int} (h0:0≤i) (h:i<xs.length):atI xs i=some (xs.getD i.toNat 0):=by
  have c:i=((i.toNat:Nat):Int):=by omega
  rw [c]
  refine ZeD ?_
  have d:i.toNat<xs.length:=by omega
  rw [List.getD_eq_getElem?_getD,Int.toNat_natCast,List.getElem?_eq_getElem d]
  rfl
def gt (a:List Int) (i:Nat):Int:=a.getD i 0
theorem ZaZ (h0:0≤i) (h:i<a.length):ixM (il a) (.int i) θ=.ok (.int (gt a i.toNat)) θ:=by rw [ZwN,ZrH h0 h]; rfl
@[simp] theorem ZAh {x:Int} {r:List Int}:ixM (il (x::r)) (.int 0) θ=.ok (.int x) θ:=ZaZ (a:=x::r) (i:=0) (by decide) (by rw [List.length_cons]; omega)
@[simp] theorem ZAg {x y:Int} {r:List Int}:ixM (il (x::y::r)) (.int 1) θ=.ok (.int y) θ:=ZaZ (a:=x::y::r) (i:=1) (by decide) (by rw [List.length_cons,List.length_cons]; omega)
@[simp high] theorem ZBr {x:D} {r:List D}:ixM (.tup (x::r)) (.int 0) θ=.ok x θ:=by
  rw [ZfW,show (0:Int)=((0:Nat):Int) from rfl,ZeD (j:=0) (v:=x) rfl]
@[simp high] theorem ZBq {x y:D} {r:List D}:ixM (.tup (x::y::r)) (.int 1) θ=.ok y θ:=by
  rw [ZfW,show (1:Int)=((1:Nat):Int) from rfl,ZeD (j:=1) (v:=y) rfl]
@[simp high] theorem ZBp {x y z:D} {r:List D}:ixM (.tup (x::y::z::r)) (.int 2) θ=.ok z θ:=by
  rw [ZfW,show (2:Int)=((2:Nat):Int) from rfl,ZeD (j:=2) (v:=z) rfl]
@[simp high] theorem ZBo {x y z w:D} {r:List D}:ixM (.tup (x::y::z::w::r)) (.int 3) θ=.ok w θ:=by
  rw [ZfW,show (3:Int)=((3:Nat):Int) from rfl,ZeD (j:=3) (v:=w) rfl]
theorem Zrx {α β:Type} (f:α→β) (xs:List α) (lo hi:Option Int):Zaw (xs.map f) lo hi=(Zaw xs lo hi).map f:=by
  unfold Zaw
  rw [List.length_map,List.map_take,List.map_drop]
@[simp] theorem ZlT {lo hi:Option Int}:ZcM θ (il a) lo hi=some (il (Zaw a lo hi)):=by
  unfold il; rw [ZpU,Zrx]
@[simp] theorem Zxt:Zhe [il a] θ=.ok (il a) θ:=nr rfl
@[simp] theorem Zxr:Zhe [itp a] θ=.ok (il a) θ:=nr rfl
@[simp] theorem ZwK:ZfK [il a] θ=.ok (itp a) θ:=nr rfl
@[simp] theorem ZAe:ZnU [il a] θ=.ok (.int a.sum) θ:=by unfold il; rw [ZvH,Zrc]
@[simp] theorem ZA4 {n:String}:Zhh [il a,.ty n] θ=match isT .lst n with | some b=>.ok (.bl b) θ | none=>.bad:=nr rfl
@[simp] theorem ZA5:eqM (il a) (il b) θ=.ok (.bl (decide (a=b))) θ:=ZsZ a b θ
@[simp] theorem Zny:neM (il a) (il b) θ=.ok (.bl (!decide (a=b))) θ:=ZsG a b θ
@[simp] theorem ZAc {k:Int}:Zba (itp a) (.int k) θ=if a.isEmpty=false∧0≤k∧k<1000∧(a.length:Int)*k≤1000 then .ok (itp (List.replicate k.toNat a).flatten) θ else .bad:=by
  unfold itp
  rw [ZqQ,List.length_map]
  have:(List.replicate k.toNat (a.map D.int)).flatten=(List.replicate k.toNat a).flatten.map D.int:=by
    rw [List.map_flatten,List.map_replicate]
  rw [this]
  simp
theorem ZgH {α β:Type} (f:α→β) (xs:List α) (lo hi st:Option Int):ZdU (xs.map f) lo hi st=(ZdU xs lo hi st).map f:=by
  unfold ZdU
  rw [List.length_map,List.map_filterMap]
  congr
  funext k
  simp
theorem Zh5:∀{ns ms:List Int},ns.map V.int=ms.map V.int→ns=ms
  | [],[],_=>rfl
  | [],_::_,h=>by cases h
  | _::_,[],h=>by cases h
  | _::_,_::_,h=>by simp at h; rw [h.1,Zh5 h.2]
@[simp] theorem Ztv (ns:List Int):ZdU ns none none (some 2)=ZeI ns:=Zh5 (by
  have:=Zon ns
  rw [show ZeV (ns.map V.int) none none (some 2)=ZdU (ns.map V.int) none none (some 2) from rfl,ZgH] at this
  exact this)
@[simp] theorem Zuz (ns:List Int):ZdU ns (some 1) none (some 2)=ZhZ ns:=Zh5 (by
  have:=Zrw ns
  rw [show ZeV (ns.map V.int) (some 1) none (some 2)=ZdU (ns.map V.int) (some 1) none (some 2) from rfl,ZgH] at this
  exact this)
end
theorem Zjx {n d:Nat} {k:Int} (h:0≤k):HT.sIx n d (some k)=min k.toNat n:=by
  have c:k=((k.toNat:Nat):Int):=by omega
  rw [c]
  exact HT.sIx_nat n d k.toNat
theorem Zcc {α:Type} (xs:List α) {k:Int} (h:0≤k):Zaw xs none (some k)=xs.take k.toNat:=by
  unfold Zaw
  rw [HT.sIx_none,Zjx h,List.drop_zero,Nat.sub_zero,←List.take_take,List.take_length]
theorem ZbL {α:Type} (xs:List α) {k:Int} (h:0≤k):Zaw xs (some k) none=xs.drop k.toNat:=by
  unfold Zaw
  rw [HT.sIx_none,Zjx h]
  by_cases q:k.toNat≤xs.length
  · rw [Nat.min_eq_left q,List.take_of_length_le]
    rw [List.length_drop]
    exact Nat.le_refl _
  · rw [Nat.min_eq_right (by omega),List.drop_length,List.drop_eq_nil_of_le (by omega)]
    simp
theorem ZhG {α:Type} (xs:List α) {k l:Int} (h:0≤k) (h':0≤l):Zaw xs (some k) (some l)=(xs.drop k.toNat).take (l.toNat-k.toNat):=by
  unfold Zaw
  rw [Zjx h,Zjx h']
  by_cases q:k.toNat≤xs.length
  · rw [Nat.min_eq_left q]
    by_cases r:l.toNat≤xs.length
    · rw [Nat.min_eq_left r]
    · rw [Nat.min_eq_right (by omega),List.take_of_length_le (by rw [List.length_drop]; exact Nat.le_refl _),List.take_of_length_le (by rw [List.length_drop]; omega)]
  · rw [Nat.min_eq_right (a:=k.toNat) (by omega),List.drop_length,List.drop_eq_nil_of_le (i:=k.toNat) (by omega)]
    simp
section
variable {θ:Sto} {ρ:List Sl}
@[simp] theorem Zc5 {lo:Int} {n:Nat}:(Src.rng lo n).items θ=some ((List.range n).map fun (i:Nat)=>D.int (lo+(i:Int))):=nr rfl
@[simp] theorem ZnZ {d:D}:(Src.seq d).items θ=seqOf θ d:=nr rfl
open Classical in
theorem ZgX {S:Src} {all:List D} {elt:D→Sto→R D} {θ:Sto} (f:D→D) (hS:S.items θ=some all):∀(xs acc:List D),(∀x∈xs,elt x θ=.ok (f x) θ)→(acc.length+xs.length≤BIG)→Zhj S all elt xs acc θ=.ok (.lst (acc++xs.map f)) θ
  | [],acc,_,hl=>by
    unfold Zhj
    rw [if_pos ⟨hS,by simpa using hl⟩]
    simp
  | x::r,acc,h,hl=>by
    unfold Zhj
    rw [if_pos hS,h x List.mem_cons_self]
    rw [R.bind_ok,ZgX f hS r (acc++[f x]) (fun y hy=>h y (List.mem_cons_of_mem _ hy)) (by simp at hl ⊢; omega)]
    simp
theorem ZgQ {fi:IM} {src:List Nat} {elt:EM} {lo:Int} {n:Nat} {θ':Sto} (f:Int→D) (hi:fi ρ θ=.ok (.rng lo n) θ') (hn:n≤BIG) (he:∀i:Nat,i<n→elt (Ze5 src ρ (.int (lo+i))) θ'=.ok (f (lo+i)) θ') :
    ZeH fi src elt ρ θ=.ok (.lst ((List.range n).map fun (i:Nat)=>f (lo+i))) θ':=by
  unfold ZeH
  rw [hi,R.bind_ok]
  simp only [Zc5]
  rw [if_pos (by simpa using hn),ZgX (fun d=>match d with | .int k=>f k | d=>d) rfl]
  · simp
  · intro x hx
    obtain ⟨i,hi,rfl⟩:=List.mem_map.mp hx
    exact he i (List.mem_range.mp hi)
  · simpa using hn
theorem Zi5 {fi:IM} {src:List Nat} {elt:EM} {d:D} {xs:List D} {θ':Sto} (f:D→D) (hi:fi ρ θ=.ok (.seq d) θ') (hd:seqOf θ' d=some xs) (hn:xs.length≤BIG) (he:∀x∈xs,elt (Ze5 src ρ x) θ'=.ok (f x) θ') :
    ZeH fi src elt ρ θ=.ok (.lst (xs.map f)) θ':=by
  unfold ZeH
  rw [hi,R.bind_ok]
  simp only [ZnZ,hd]
  rw [if_pos hn,ZgX (S:=.seq d) f hd xs [] he (by simpa using hn)]
  simp
@[simp] theorem ZwJ {src:List Nat} {x:D}:Ze5 src ρ x=Sl.val x::src.map fun (j:Nat)=>match ρ[j]? with | some (Sl.val d)=>Sl.val d | _=>Sl.no:=nr rfl
open Classical in
theorem for_rng {lo:Int} {n:Nat} {all:List D} {tg:TgM} {body:SM} (st:Nat→List Sl) (hs:∀i ρ1,i<n→tg (.int (lo+i)) (st i)=some ρ1→body ρ1 θ=.ok (.nx,st (i+1)) θ) (ht:∀i,i<n→∃ρ1,tg (.int (lo+i)) (st i)=some ρ1) (hall:all=(List.range n).map fun (i:Nat)=>D.int (lo+(i:Int))) :
    forL (.rng lo n) all tg body all (st 0) θ=.ok (.nx,st n) θ:=by
  subst hall
  have key:∀m,m≤n→forL (.rng lo n) ((List.range n).map fun (i:Nat)=>D.int (lo+(i:Int))) tg body (((List.range n).map fun (i:Nat)=>D.int (lo+(i:Int))).drop (n-m)) (st (n-m)) θ=.ok (.nx,st n) θ:=fun m=>by
    induction m with
    | zero=>
      intro _
      rw [Nat.sub_zero,List.drop_eq_nil_of_le (by simp)]
      simp [forL]
    | succ m ih=>
      intro hm
      have hlt:n-(m+1)<n:=by omega
      rw [List.drop_eq_getElem_cons (by simpa using hlt)]
      obtain ⟨ρ1,h1⟩:=ht (n-(m+1)) hlt
      have h2:=hs (n-(m+1)) ρ1 hlt h1
      have e:n-(m+1)+1=n-m:=by omega
      simp only [List.getElem_map,List.getElem_range,forL,Zc5,if_true,h1]
      rw [h2,R.bind_ok,Zfn,e]
      exact ih (by omega)
  have:=key n (Nat.le_refl _)
  rw [Nat.sub_self,List.drop_zero] at this
  exact this
end
end
end L2.MM
namespace L2.MM
open PySem PySem.Spec PyProof.Rows PySem.SeqAt
noncomputable section
variable {X:Cx}
def ZaL (f:Str) (v:D):List (Str×D)→List (Str×D)
  | []=>[(f,v)]
  | (g,x)::r=>if g=f then (g,v)::r else (g,x)::ZaL f v r
theorem RepKV.put {B:Bx} {H:Hp} {f:Str} {d:D} {v:V} (q:RepV B H d v):∀{fs:List (Str×D)} {vs:List (Str×V)},RepKV B H fs vs→RepKV B H (ZaL f d fs) (ZdT f v vs)
  | _,_,.nil=>.cons ⟨rfl,q⟩ .nil
  | (g,x)::fs,(g',y)::vs,.cons h t=>by
    obtain ⟨h1,h2⟩:=h
    cases (show g=g' from h1)
    unfold ZaL ZdT
    by_cases e:g=f
    · rw [if_pos e,if_pos e]; exact .cons ⟨rfl,q⟩ t
    · rw [if_neg e,if_neg e]; exact .cons ⟨rfl,h2⟩ (RepKV.put q t)
theorem RepKV.len {κ:Type} {B:Bx} {H:Hp}:∀{fs:List (κ×D)} {vs:List (κ×V)},RepKV B H fs vs→vs.length=fs.length
  | _,_,.nil=>rfl
  | _,_,.cons _ t=>by rw [List.length_cons,List.length_cons,RepKV.len t]
theorem RepKV.get {B:Bx} {H:Hp} {f:Str} {d:D}:∀{fs:List (Str×D)} {vs:List (Str×V)},RepKV B H fs vs→fs.lookup f=some d→∃v,vs.lookup f=some v∧RepV B H d v
  | _,_,.nil,h=>by cases h
  | (g,x)::fs,(g',y)::vs,.cons h t,e=>by
    obtain ⟨h1,h2⟩:=h
    cases (show g=g' from h1)
    rw [List.lookup_cons] at e ⊢
    cases q:f == g with
    | true=>rw [q] at e; cases e; exact ⟨y,rfl,h2⟩
    | false=>rw [q] at e; exact RepKV.get t e
def Ze4 (θ:Sto):D→Option (Nat×Str×List (Str×D))
  | .ref l=>match θ[l]? with
    | some (.ins C fs)=>some (l,C,fs)
    | _=>none
  | _=>none
theorem ZlS {cl:Mo} {B:Bx} {θ:Sto} {H:Hp} (G:Good cl B θ H) {d:D} {v:V} {l:Nat} {C:Str} {fs:List (Str×D)} (r:RepV B H d v) (h:Ze4 θ d=some (l,C,fs)) :
    l<B.n∧v=.ref (B.m l)∧∃dx vs,H (B.m l)=some (.ins (cl.cl C) dx vs)∧RepKV B H fs vs:=by
  cases d with
  | ref k=>
    simp only [Ze4] at h
    split at h
    · rename_i C' fs' e
      cases h
      obtain ⟨hl,rfl⟩:=r
      obtain ⟨dx,vs,h1,h2⟩:=G.cel _ _ e
      exact ⟨hl,rfl,dx,vs,h1,h2⟩
    · cases h
  | _=>cases h
def zK (cs:List Str) (f:Str):D→Sto→R D:=fun d θ=>match Ze4 θ d with
  | some (_,C,fs)=>if cs.contains C=true then (match fs.lookup f with
    | some v=>.ok v θ
    | none=>.bad) else .bad
  | none=>.bad
def ZM (cs:List Str) (f:Str) (fe:EM):EM:=fun ρ θ=>(fe ρ θ).bind (zK cs f)
def ZtM (X:Cx) (f:Str) (C:Str):Prop:=Cls X.K (X.cl.cl C)∧NoAttr X.K (X.cl.cl C) f
theorem Zv {P:Str→Prop} {a:Str} (h:P a):∀C,[a].contains C=true→P C:=fun C hc=>by
  have:C=a:=by simpa using hc
  rw [this]; exact h
theorem Zr {cs:List Str} {f:Str} {e:Expr} {fe:EM} {pos:Pos} (hc:∀C,cs.contains C=true→ZtM X f C) (he:ME X e fe) (hb:attributeBase e f X.env (eval e X.env)=eval e X.env:=by rfl):ME X (.Attribute e f pos) (ZM cs f fe):=by
  refine PE.imp (ZuJ he hb) fun σ H Q h=>?_
  obtain ⟨B,θ,ρ,F,w⟩:=h
  refine Z3 (step F w) ?_
  rintro v H1 ⟨B1,θ1,d,E1,F1,rd,w1⟩
  unfold zK at w1
  split at w1
  · rename_i l C fs e1
    split at w1
    · rename_i hC
      split at w1
      · rename_i y ey
        obtain ⟨hl,rfl,dx,vs,h1,h2⟩:=ZlS F1.good rd e1
        obtain ⟨u,h3,h4⟩:=h2.get ey
        exact ⟨_,_,dx,vs,u,rfl,h1,(hc C hC).1,(hc C hC).2,h3,ZQ F1.good h4 w1⟩
      · exact w1.elim
    · exact w1.elim
  · exact w1.elim
def zg (cs:List Str) (f:Str) (y d:D) (θ:Sto):Option Sto:=match Ze4 θ d with
  | some (l,C,fs)=>if cs.contains C=true∧fs.length<1000 then some (θ.set l (.ins C (ZaL f y fs))) else none
  | none=>none
def ZJ (cs:List Str) (f:Str) (fe fv:EM):SM:=fun ρ θ=>(fv ρ θ).bind fun y θ=>(fe ρ θ).bind fun d θ=>match zg cs f y d θ with
  | some θ'=>.ok (.nx,ρ) θ'
  | none=>.bad
theorem ZA {cs:List Str} {f:Str} {o value:Expr} {fe fv:EM} {pos pos':Pos} (hc:∀C,cs.contains C=true→ZtM X f C) (he:ME X o fe) (hv:ME X value fv) (hs:swapsWith value (some (.Attribute o f pos')) pos.line X.env=pure false:=by rfl) :
    MS X (.Assign [.Attribute o f pos'] value pos) (ZJ cs f fe fv):=
  PS.imp (Zuw he hv hs) fun D σ H h=>by
  obtain ⟨B,θ,ρ,F,w⟩:=h
  refine Z3 (Zf0 F w) ?_
  rintro y H1 ⟨B1,θ1,dy,E1,F1,ry,w1⟩
  refine Z3 (Zf0 F1 w1) ?_
  rintro v H2 ⟨B2,θ2,d,E2,F2,rd,w2⟩
  unfold zg at w2
  cases e1:Ze4 θ2 d with
  | none=>rw [e1] at w2; exact w2.elim
  | some q=>
    obtain ⟨l,C,fs⟩:=q
    rw [e1] at w2
    simp only at w2
    by_cases hC:cs.contains C=true∧fs.length<1000
    · rw [if_pos hC] at w2
      obtain ⟨hl,rfl,dx,vs,h1,h2⟩:=ZlS F2.good rd e1
      refine ⟨_,_,dx,vs,rfl,h1,(hc C hC.1).1,(hc C hC.1).2,by rw [h2.len]; exact hC.2,?_⟩
      have E3:=ZhF F2.good hl (.ins (X.cl.cl C) dx (ZdT f y vs))
      have G3:=Zic F2.good hl (o:=.ins (X.cl.cl C) dx (ZdT f y vs)) (c:=.ins C (ZaL f dy fs)) ⟨dx,_,zE,(h2.put (ry.ext E2.toExtS)).ext E3.toExtS⟩
      exact w2 _ _ _ E3.toExtS (F2.ext E3 G3)
    · rw [if_neg hC] at w2
      exact w2.elim
structure MMk (P:Program) (w:World) (K:PySem.W.Frag) (mg:Str→Option Value) (base:Heap) (k:Nat) (C:Str) (f:GM):Prop where
  ex:∃(fI:Addr) (fd:FuncData) (ps:List Str),Mk K (Zaf mg C) fI∧FnOk P w K mg base CX0 k fI fd ps (spM ⟨Zaf mg,K⟩ f)∧Binds K fd ps []
  mg:mg C=some (.ref (Zaf mg C))
def mkG (C:Str) (f:GM):GM:=fun vs θ=>(f (.ref θ.length::vs) (θ++[.ins C []])).bind fun v θ'=>match v with
  | .non=>.ok (.ref θ.length) θ'
  | _=>.bad
theorem wpR.made {σ:St} {B:Bx} {θ:Sto} {H:Hp} {C:Str} {f:GM} {ds:List D} {vs:List V} {Q:VK} {E:XK} (G:Good X.cl B θ H) (r:RepL B H ds vs) (w:wpR X σ RepV B H (mkG C f ds θ) Q) :
    ∀x dx,H x=none→H dx=none→dx≠x→spM X.cl f (.ref x::(vs++[])) (upd (upd H dx (.own x)) x (.ins (X.cl.cl C) dx [])) (fun v H2=>v=.non∧Q (.ref x) H2) E:=by
  intro x dx hx hdx ne
  have E1:=Zc3 G hdx (.own x)
  have G1:=Ze6 G hdx (.own x)
  have hx1:upd H dx (.own x) x=none:=by rw [ZS (Ne.symm ne)]; exact hx
  have E2:=Ze7 G1 hx1 (.ins (X.cl.cl C) dx [])
  have G2:Good X.cl (B.push x) (θ++[.ins C []]) _:=ZgV G1 hx1 (o:=.ins (X.cl.cl C) dx []) (c:=.ins C []) ⟨dx,[],zE,.nil⟩
  have rx:RepV (B.push x) (upd (upd H dx (.own x)) x (.ins (X.cl.cl C) dx [])) (.ref θ.length) (.ref x):=⟨by rw [G.len]; exact Nat.lt_succ_self _,by rw [G.len]; show V.ref x=V.ref (if B.n=B.n then x else B.m B.n); rw [if_pos rfl]⟩
  rw [List.append_nil]
  refine ZnC (σ:=σ) G2 (show RepL _ _ (.ref θ.length::ds) (.ref x::vs) from ⟨_,_,rfl,rx,r.ext (E1.trans E2).toExtS⟩) ?_
  have w1:=wpR.trans w (E1.trans E2)
  refine (wpR.bind (Rel:=RepV) w1).mono ?_
  rintro v H3 ⟨B3,θ3,d,E3,G3,rd,w3⟩
  cases d with
  | non=>exact ⟨rd,ZQ G3 (rx.ext E3.toExtS) w3⟩
  | _=>exact w3.elim
theorem ZsK {k j:Nat} {x:Str} {f:GM} {p pos:Pos} {e:Expr} {es:List Expr} {fs:AM} (M:MMk X.prog X.w X.K X.mg X.base k x f) (hr:Room j X.A) (hj:k+1≤j) (ha:MA X (e::es) fs) (hg:Gl X x:=by rfl) (hdb:(x == ("__debug__":Str))=false:=by decide)
    (he:starEach (e::es) X.env=(false,eval e X.env)::starEach es X.env:=by rfl) (hpl:(backTo pos (starEach es X.env)).any (·.1)=false:=by rfl):ME X (.Call (.Name x p) (e::es) [] pos) (mCB (mkG x f) fs):=by
  obtain ⟨fI,fd,ps,m,F0,b⟩:=M.ex
  refine PE.imp (Zst m F0 (hr.mono hj) hg M.mg b .nil ZqE ha hdb he hpl) fun σ H Q h=>?_
  obtain ⟨B,θ,ρ,F,w⟩:=h
  refine Zb6 (ZhT F w) ?_
  rintro vs H1 ⟨B1,θ1,ds,E1,F1,rd,w1⟩
  exact wpR.made F1.good rd w1
theorem ZlK {k j:Nat} {x:Str} {f:GM} {p pos:Pos} (M:MMk X.prog X.w X.K X.mg X.base k x f) (hr:Room j X.A) (hj:k+1≤j) (hg:Gl X x:=by rfl) (hdb:(x == ("__debug__":Str))=false:=by decide):ME X (.Call (.Name x p) [] [] pos) (mCB (mkG x f) Zk):=by
  obtain ⟨fI,fd,ps,m,F0,b⟩:=M.ex
  refine PE.imp (Zqv m F0 (hr.mono hj) hg M.mg b .nil ZqE hdb) fun σ H Q h=>?_
  obtain ⟨B,θ,ρ,F,w⟩:=h
  exact wpR.made (ds:=[]) (vs:=[]) F.good (show RepL B H [] [] from rfl) w
structure ZBi (P:Program) (w:World) (K:PySem.W.Frag) (mg:Str→Option Value) (base:Heap) (k:Nat) (C m:Str) (f:GM):Prop where
  ex:∃(fa:Addr) (fd:FuncData) (ps:List Str),ZAB K (Zaf mg C) m fa∧FnOk P w K mg base CX0 k fa fd ps (spM ⟨Zaf mg,K⟩ f)∧Binds K fd ps []
  cl:Cls K (Zaf mg C)
instance {C C':Str} {gs:List (Str×D)} {m:Str}:Decidable (C'=C∧gs.lookup m=none):=by
  cases h:gs.lookup m with
  | none=>exact if e:C'=C then isTrue ⟨e,rfl⟩ else isFalse fun z=>e z.1
  | some _=>exact isFalse fun z=>nomatch z.2
theorem mmk {P:Program} {w:World} {K:PySem.W.Frag} {mg:Str→Option Value} {base:Heap} {x qual:Str} {st:Stmt} {N ps:List Str} {k:Nat} {fb:SM} {f:Addr} {fd:FuncData} {C:Str} (F:Fun K x qual st f fd) (S:Zs N ps (Zi st)) (np nn:Nat) (hp:ps.length=np) (hn:N.length=nn) (b:Binds K fd ps []) (M:Mk K (Zaf mg C) f) (hm:mg C=some (.ref (Zaf mg C)))
    (hbody:∀(cdv:Value) (A:Around) (outer:List Env) (s:Shared) (H:Hp) (E:XK),Room k (A.deeper (envOfC qual (Zi st) s.heap.objs.size f cdv))→MSs (Zij CX0 P w K mg base N qual (Zi st) f cdv A outer s H E).nox (Zp st) fb):MMk P w K mg base (k+1) C (ZR np nn fb):=
  ⟨⟨f,fd,ps,M,mfn F S np nn hp hn hbody,b⟩,hm⟩
def ZmE:EM:=fun _ θ=>.ok (.ref θ.length) (θ++[.dK []])
theorem Zq1 {pos:Pos}:ME X (.Dict [] [] pos) ZmE:=by
  refine PE.imp ZqA fun σ H Q h=>?_
  obtain ⟨B,θ,ρ,F,w⟩:=h
  intro p hp
  have G:=F.good
  exact w (B.push p) _ _ (Ze7 G hp _) (ZgV G hp ⟨[],zE,.nil⟩) ⟨by rw [G.len]; exact Nat.lt_succ_self _,by rw [G.len]; show V.ref p=V.ref (if B.n=B.n then p else B.m B.n); rw [if_pos rfl]⟩
section
variable {ρ:List Sl} {θ:Sto} {fe fv fo:EM} {cs:List Str} {f:Str}
@[simp] theorem ZAP:ZM cs f fe ρ θ=(fe ρ θ).bind (zK cs f):=nr rfl
@[simp] theorem Zzq:ZJ cs f fe fv ρ θ=(fv ρ θ).bind fun y θ=>(fe ρ θ).bind fun d θ=>match zg cs f y d θ with
  | some θ'=>.ok (.nx,ρ) θ'
  | none=>.bad:=nr rfl
@[simp] theorem Zxd:ZmE ρ θ=.ok (.ref θ.length) (θ++[.dK []]):=nr rfl
end
end
end L2.MM
namespace L2.MM
open PySem PySem.Spec PyProof.Rows PySem.SeqAt
def Mk0 (K:PySem.W.Frag) (mg:Str→Option Value) (C qual:Str) (st:Stmt) (ps:List Str):Prop:=
  ∃(f:Addr) (fd:FuncData),Fun K "__init__" qual st f fd∧Binds K fd ps []∧Mk K (Zaf mg C) f∧mg C=some (.ref (Zaf mg C))
theorem ZnB {mg:Str→Option Value} {x:Str} {a:Addr} (h:mg x=some (.ref a)):Zaf mg x=a:=by unfold Zaf; rw [h]
theorem mk0 {P:Program} {w:World} {K:PySem.W.Frag} {mg:Str→Option Value} {base:Heap} {qual:Str} {st:Stmt} {N ps:List Str} {k:Nat} {fb:SM} {C:Str} (D:Mk0 K mg C qual st ps) (S:Zs N ps (Zi st)) (np nn:Nat) (hp:ps.length=np) (hn:N.length=nn)
    (hbody:∀(f:Addr) (cdv:Value) (A:Around) (outer:List Env) (s:Shared) (H:Hp) (E:XK),Room k (A.deeper (envOfC qual (Zi st) s.heap.objs.size f cdv))→MSs (Zij CX0 P w K mg base N qual (Zi st) f cdv A outer s H E).nox (Zp st) fb):MMk P w K mg base (k+1) C (ZR np nn fb):=by
  obtain ⟨f,fd,F,b,M,hm⟩:=D
  exact mmk F S np nn hp hn b M hm (hbody f)
end L2.MM
namespace My
open PySem L2 L2.MM
noncomputable section
def Zgw:SM:=(ZcL (ZI (mOp gtM (Zd 1) (mC (.int 65535)))) (ZP 1 (mOp ZK (mOp zD (Zd 1) (mC (.int 65536))) (mOp Zdt (Zd 1) (mC (.int 65536))))) 200)
def Ziv:SM:=(Zq (ZP 1 (mOp ZK (mOp Zba (mC (.int 256)) (mCB ZnU (Zc (ZsM (Zd 0) zh zh (zO (mC (.int 2)))) Zk))) (mCB ZnU (Zc (ZsM (Zd 0) (zO (mC (.int 1))) zh (zO (mC (.int 2)))) Zk))))
  (Zq Zgw
  (ZO (Zd 1))))
def Zdf:GM:=ZR 1 2 Ziv
def Zin:SM:=(ZO (mOp ZeS (mC (.int 65535)) (mCB Zdf (Zc (Zd 0) Zk))))
def ZeW:GM:=ZR 1 1 Zin
def ZnH:SM:=(ZO (Zgh (ZI (mOp neM (mOp Zw5 (Zd 0) (Zd 1)) (mC (.int 0)))) (mC (.int 1)) (mC (.int 0))))
def ZfC:GM:=ZR 2 2 ZnH
def Zis:SM:=(Zq (ZP 1 (mOp ixM (Zd 0) (mC (.int 4))))
  (ZO (mOp ZK (mOp ZK (mCB Zes (Zc (mOp ixM (Zd 0) (mC (.int 7))) Zk)) (mCB ZfC (Zc (Zd 1) (Zc (mC (.int 2)) Zk)))) (mCB ZfC (Zc (Zd 1) (Zc (mC (.int 1)) Zk))))))
def ZcD:GM:=ZR 1 2 Zis
def Zd9:SM:=(ZO (mOp Zba (mC (.int 16)) (mOp Zdt (Zd 0) (mC (.int 4)))))
def zZ:GM:=ZR 1 1 Zd9
def ZfH:SM:=(ZO (Zb5 (Zc (mOp zD (mOp Zdt (Zd 0) (mC (.int 256))) (mC (.int 256))) (Zc (mOp zD (Zd 0) (mC (.int 256))) Zk))))
def zp:GM:=ZR 1 1 ZfH
def Zfj:SM:=(ZO (mOp ZK (mCB zp (Zc (mOp Zdt (Zd 0) (mC (.int 65536))) Zk)) (mCB zp (Zc (Zd 0) Zk))))
def Zbv:GM:=ZR 1 1 Zfj
def Zch:SM:=(Zq (ZP 1 (mOp ZK (mCB zp (Zc (mOp ixM (Zd 0) (mC (.int 0))) Zk)) (mCB zp (Zc (mOp ixM (Zd 0) (mC (.int 1))) Zk))))
  (Zq (ZP 2 (mOp ZK (mCB Zbv (Zc (mOp ixM (Zd 0) (mC (.int 2))) Zk)) (mCB Zbv (Zc (mOp ixM (Zd 0) (mC (.int 3))) Zk))))
  (Zq (ZP 3 (Zgh (ZI (mOp eqM (mOp ixM (Zd 0) (mC (.int 6))) (mC (.int 0)))) (mC (.int 20)) (mC (.int 24))))
  (ZO (mOp ZK (mOp ZK (mOp ZK (Zd 1) (Zd 2)) (Zb5 (Zc (mCB zZ (Zc (Zd 3) Zk)) (Zc (mOp ixM (Zd 0) (mC (.int 4))) Zk)))) (mCB zp (Zc (mOp ixM (Zd 0) (mC (.int 5))) Zk)))))))
def zY:GM:=ZR 1 4 Zch
def ZdE:SM:=(ZO (Zgh (ZI (mOp eqM (Zd 0) (mC (.int 0)))) (Zb5 Zk) (mOp ZK (Zb5 (Zc (mC (.int 2)) (Zc (mC (.int 4)) Zk))) (mCB zp (Zc (Zd 0) Zk)))))
def Za3:GM:=ZR 1 1 ZdE
def ZnG:SM:=(Zq (ZP 1 (mCB zY (Zc (Zd 0) Zk)))
  (Zq (ZP 2 (mOp ZK (mOp ZK (Zb5 (Zc (mC (.int 0)) (Zc (mC (.int 0)) Zk))) (mCB Za3 (Zc (mOp ixM (Zd 0) (mC (.int 6))) Zk))) (mCB Zhe (Zc (mOp ixM (Zd 0) (mC (.int 7))) Zk))))
  (ZO (mOp ZK (mOp ZK (Zd 1) (mCB zp (Zc (mCB ZeW (Zc (mOp ZK (mOp ZK (Zd 1) (Zb5 (Zc (mC (.int 0)) (Zc (mC (.int 0)) Zk)))) (Zd 2)) Zk)) Zk))) (Zd 2)))))
def Zlx:GM:=ZR 1 3 ZnG
def Zhl:SM:=(ZO (mOp Zba (mOp Zdt (mOp ixM (Zd 0) (mC (.int 12))) (mC (.int 16))) (mC (.int 4))))
def Zbu:GM:=ZR 1 1 Zhl
def Zim:SM:=(ZO (mOp ZK (mOp Zba (mC (.int 256)) (mOp ixM (Zd 0) (Zd 1))) (mOp ixM (Zd 0) (mOp ZK (Zd 1) (mC (.int 1))))))
def Zan:GM:=ZR 2 2 Zim
def Zce:SM:=(ZO (ZcG (mOp eqM (mCB ZfC (Zc (mOp ixM (Zd 0) (mC (.int 13))) (Zc (mC (.int 2)) Zk))) (mC (.int 1))) (ZcG (mOp eqM (mOp ixM (Zd 0) (mC (.int 20))) (mC (.int 2))) (ZcG (mOp eqM (mOp ixM (Zd 0) (mC (.int 21))) (mC (.int 4))) (mOp geM (mCB Zan (Zc (Zd 0) (Zc (mC (.int 22)) Zk))) (mC (.int 4)))))))
def zX:GM:=ZR 1 1 Zce
def Zby:SM:=(ZO (ZcG (mOp geM (mCB Zes (Zc (Zd 0) Zk)) (mC (.int 20))) (ZcG (mOp inM (mOp ixM (Zd 0) (mC (.int 12))) (Zak (Zc (mCB zZ (Zc (mC (.int 20)) Zk)) (Zc (mCB zZ (Zc (mC (.int 24)) Zk)) Zk)))) (ZcG (mOp leM (mOp ixM (Zd 0) (mC (.int 13))) (mC (.int 31))) (ZcG (Zer leM leM (mC (.int 0)) (mOp ZeS (mCB Zes (Zc (Zd 0) Zk)) (mCB Zbu (Zc (Zd 0) Zk))) (mC (.int 16))) (ZcG (mOp eqM (mCB Zan (Zc (Zd 0) (Zc (mC (.int 18)) Zk))) (mC (.int 0))) (ZcG (ZlL (mOp eqM (mCB Zbu (Zc (Zd 0) Zk)) (mC (.int 20))) (mCB zX (Zc (Zd 0) Zk))) (mOp eqM (mCB Zdf (Zc (Zd 0) Zk)) (mC (.int 65535))))))))))
def Zap:GM:=ZR 1 1 Zby
def Zhm:SM:=(ZO (mOp ZK (mOp Zba (mC (.int 65536)) (mCB Zan (Zc (Zd 0) (Zc (Zd 1) Zk)))) (mCB Zan (Zc (Zd 0) (Zc (mOp ZK (Zd 1) (mC (.int 2))) Zk)))))
def Zc7:GM:=ZR 2 2 Zhm
def ZgY:SM:=(mIf (Zeq (Zae (mCB Zap (Zc (Zd 0) Zk)))) ZsN ZN)
def ZjP:SM:=(Zq ZgY
  (Zq (ZP 1 (mCB Zbu (Zc (Zd 0) Zk)))
  (Zq (ZP 2 (Zgh (ZI (mOp eqM (Zd 1) (mC (.int 24)))) (mCB Zan (Zc (Zd 0) (Zc (mC (.int 22)) Zk))) (mC (.int 0))))
  (Zq (ZP 3 (Zak (Zc (mCB Zan (Zc (Zd 0) (Zc (mC (.int 0)) Zk))) (Zc (mCB Zan (Zc (Zd 0) (Zc (mC (.int 2)) Zk))) Zk))))
  (Zq (ZP 4 (Zak (Zc (mCB Zc7 (Zc (Zd 0) (Zc (mC (.int 4)) Zk))) (Zc (mCB Zc7 (Zc (Zd 0) (Zc (mC (.int 8)) Zk))) Zk))))
  (ZO (mOp ZK (mOp ZK (Zd 3) (Zd 4)) (Zak (Zc (mOp ixM (Zd 0) (mC (.int 13))) (Zc (mCB Zan (Zc (Zd 0) (Zc (mC (.int 14)) Zk))) (Zc (Zd 2) (Zc (mCB ZfK (Zc (mSl (Zd 0) (zO (Zd 1)) zh) Zk)) Zk))))))))))))
def ZiY:GM:=ZR 1 5 ZjP
def ZfU:SM:=(mIf (Zae (Zd 0)) (ZO (mOp ixM (Zd 0) (mOp zD (Zd 1) (mCB Zes (Zc (Zd 0) Zk))))) ZN)
def Ziz:SM:=(Zq ZfU
  (ZO (mC (.int 0))))
def ZgR:GM:=ZR 2 2 Ziz
def ZnJ:SM:=(Zq (ZP 2 (mOp zD (mOp ZK (mCB ZgR (Zc (Zd 0) (Zc (Zd 1) Zk))) (mOp Zba (mC (.int 104729)) (mOp ZK (Zd 1) (mC (.int 1))))) (mC (.int 4294967291))))
  (Zq (ZP 2 (mOp zD (mOp Zba (Zd 2) (mC (.int 48271))) (mC (.int 4294967279))))
  (ZO (mOp zD (mOp ZK (mOp Zba (mOp Zdt (Zd 2) (mC (.int 64))) (mC (.int 69621))) (Zd 2)) (mC (.int 4294967231))))))
def zP:GM:=ZR 2 3 ZnJ
def ZnI:SM:=(ZO (Zb5 (Zc (mOp Zdt (Zd 0) (mC (.int 256))) (Zc (mOp zD (Zd 0) (mC (.int 256))) Zk))))
def Zbo:GM:=ZR 1 1 ZnI
def Zgy:SM:=(ZeP (ZcW (Zc (mCB Zes (Zc (Zd 0) Zk)) Zk)) (gNm 2) (ZP 1 (mOp ZK (Zd 1) (mOp Zba (mOp ixM (Zd 0) (Zd 2)) (mOp ixM (Zb5 (Zc (mC (.int 256)) (Zc (mC (.int 1)) Zk))) (mOp zD (Zd 2) (mC (.int 2))))))))
def Zgx:SM:=(ZcL (ZI (mOp gtM (Zd 1) (mC (.int 65535)))) (ZP 1 (mOp ZK (mOp zD (Zd 1) (mC (.int 65536))) (mOp Zdt (Zd 1) (mC (.int 65536))))) 200)
def Ziy:SM:=(Zq (ZP 1 (mC (.int 0)))
  (Zq Zgy
  (Zq Zgx
  (ZO (Zd 1)))))
def Zbp:GM:=ZR 1 3 Ziy
def Zfm:SM:=(ZeP (mIn (mSl (Zd 0) (zO (mC (.int 2))) (zO (mC (.int 4))))) (gNm 2) (ZP 1 (mOp ZK (mOp ZK (Zd 1) (mCB Zbo (Zc (mOp Zdt (Zd 2) (mC (.int 65536))) Zk))) (mCB Zbo (Zc (mOp zD (Zd 2) (mC (.int 65536))) Zk)))))
def Zfl:SM:=(mIf (ZI (mOp gtM (mOp ixM (Zd 0) (mC (.int 6))) (mC (.int 0)))) (ZP 1 (mOp ZK (mOp ZK (Zd 1) (Zb5 (Zc (mC (.int 2)) (Zc (mC (.int 4)) Zk)))) (mCB Zbo (Zc (mOp ixM (Zd 0) (mC (.int 6))) Zk)))) ZN)
def Zg6:SM:=(Zq (ZP 1 (mOp ZK (mCB Zbo (Zc (mOp ixM (Zd 0) (mC (.int 0))) Zk)) (mCB Zbo (Zc (mOp ixM (Zd 0) (mC (.int 1))) Zk))))
  (Zq Zfm
  (Zq (ZP 1 (mOp ZK (mOp ZK (mOp ZK (Zd 1) (Zb5 (Zc (mOp ixM (Zb5 (Zc (mC (.int 80)) (Zc (mC (.int 96)) Zk))) (mCB Zrd (Zc (mOp gtM (mOp ixM (Zd 0) (mC (.int 6))) (mC (.int 0))) Zk))) (Zc (mOp ixM (Zd 0) (mC (.int 4))) Zk)))) (mCB Zbo (Zc (mOp ixM (Zd 0) (mC (.int 5))) Zk))) (Zb5 (Zc (mC (.int 0)) (Zc (mC (.int 0)) (Zc (mC (.int 0)) (Zc (mC (.int 0)) Zk)))))))
  (Zq Zfl
  (Zq (ZP 1 (mOp ZK (Zd 1) (mCB Zhe (Zc (mOp ixM (Zd 0) (mC (.int 7))) Zk))))
  (ZO (mOp ZK (mOp ZK (mSl (Zd 1) zh (zO (mC (.int 16)))) (mCB Zbo (Zc (mOp ZeS (mC (.int 65535)) (mCB Zbp (Zc (Zd 1) Zk))) Zk))) (mSl (Zd 1) (zO (mC (.int 18))) zh))))))))
def ZaO:GM:=ZR 1 3 Zg6
def Zec:SM:=(mIf (ZI (mOp eqM (Zd 3) (mC (.int 0)))) (ZP 3 (mOp ZK (mC (.int 4)) (mOp zD (mCB zP (Zc (Zd 0) (Zc (mOp ZK (Zd 1) (mC (.int 2))) Zk))) (mC (.int 65532))))) ZN)
def Zc8:SM:=(mIf (ZfA (ZI (mOp eqM (mOp zD (mOp Zdt (Zd 2) (mC (.int 2))) (mC (.int 2))) (mC (.int 1)))) (ZI (mOp gtM (mOp zD (mCB zP (Zc (Zd 0) (Zc (mOp ZK (Zd 1) (mC (.int 1))) Zk))) (mC (.int 3))) (mC (.int 0))))) (Zq (ZP 3 (mOp ixM (Zb5 (Zc (mC (.int 4)) (Zc (mC (.int 5)) (Zc (mC (.int 16)) (Zc (mC (.int 536)) (Zc (mC (.int 65535)) (Zc (mC (.int 0)) Zk))))))) (mOp zD (mCB zP (Zc (Zd 0) (Zc (mOp ZK (Zd 1) (mC (.int 3))) Zk))) (mC (.int 6)))))
    Zec) ZN)
def Zfz:SM:=(mIf (ZI (mOp eqM (mOp zD (Zd 6) (mC (.int 3))) (mC (.int 0)))) (ZP 6 (mOp ixM (Zb5 (Zc (mC (.int 0)) (Zc (mC (.int 1)) (Zc (mC (.int 4294967295)) (Zc (mC (.int 4294967294)) (Zc (mC (.int 2147483648)) (Zc (mC (.int 65535)) (Zc (mC (.int 65536)) Zk)))))))) (mOp zD (mOp Zdt (Zd 6) (mC (.int 3))) (mC (.int 7))))) ZN)
def Zg7:SM:=(ZeP (ZcW (Zc (mC (.int 2)) Zk)) (gNm 5) (Zq (ZP 6 (mCB zP (Zc (Zd 0) (Zc (mOp ZK (mOp ZK (Zd 1) (mC (.int 4))) (Zd 5)) Zk))))
    (Zq Zfz
    (Zdy 4 (Zd 6)))))
def Zfy:SM:=(mIf (ZI (mOp eqM (Zd 8) (mC (.int 7)))) (ZP 8 (mOp zD (mCB zP (Zc (Zd 0) (Zc (mOp ZK (Zd 1) (mC (.int 8))) Zk))) (mC (.int 17)))) ZN)
def Zfx:SM:=(mIf (ZI (mOp eqM (mOp zD (mCB zP (Zc (Zd 0) (Zc (mOp ZK (Zd 1) (mC (.int 27))) Zk))) (mC (.int 5))) (mC (.int 0)))) (ZP 9 (mOp Zba (Zak (Zc (mC (.int 255)) Zk)) (Zd 8))) ZN)
def ZnK:SM:=(Zq (ZP 2 (mOp zD (mCB zP (Zc (Zd 0) (Zc (Zd 1) Zk))) (mC (.int 32))))
  (Zq (ZP 3 (mC (.int 0)))
  (Zq Zc8
  (Zq (Zgf 4 Zk)
  (Zq Zg7
  (Zq (ZP 7 (Zak (Zc (mOp zD (mCB zP (Zc (Zd 0) (Zc (mOp ZK (Zd 1) (mC (.int 6))) Zk))) (mC (.int 65536))) Zk)))
  (Zq (ZP 7 (mOp ZK (Zd 7) (Zak (Zc (mOp zD (mCB zP (Zc (Zd 0) (Zc (mOp ZK (Zd 1) (mC (.int 7))) Zk))) (mC (.int 65536))) Zk))))
  (Zq (ZP 8 (mOp ixM (Zb5 (Zc (mC (.int 0)) (Zc (mC (.int 1)) (Zc (mC (.int 15)) (Zc (mC (.int 16)) (Zc (mC (.int 7)) Zk)))))) (mOp zD (mCB zP (Zc (Zd 0) (Zc (mOp ZK (Zd 1) (mC (.int 9))) Zk))) (mC (.int 5)))))
  (Zq Zfy
  (Zq (ZP 9 (mCB ZfK (Zc (ZeH (ZcW (Zc (Zd 8) Zk)) [0,1] (mOp zD (mOp Zdt (mCB zP (Zc (Zd 1) (Zc (mOp ZK (mOp ZK (Zd 2) (mC (.int 10))) (Zd 0)) Zk))) (mC (.int 7))) (mC (.int 256)))) Zk)))
  (Zq Zfx
  (Zq (ZP 10 (mOp zD (mCB zP (Zc (Zd 0) (Zc (mOp ZK (Zd 1) (mC (.int 28))) Zk))) (mC (.int 65536))))
  (Zc1 4 (ZO (mOp ZK (Zd 7) (Zak (Zc (mOp ixM (Zd 4) (mC (.int 0))) (Zc (mOp ixM (Zd 4) (mC (.int 1))) (Zc (Zd 2) (Zc (Zd 10) (Zc (Zd 3) (Zc (Zd 9) Zk))))))))))))))))))))))
def Zhg:GM:=ZR 2 11 ZnK
end
end My
namespace My
open PySem L2 L2.MM
noncomputable section
def cell (ns:List Int) (k:Int):Int:=if ns.length=0 then 0 else ns.getD (k % (ns.length:Int)).toNat 0
def mix (ns:List Int) (k:Int):Int:=
  ((cell ns k+104729*(k+1)) % 4294967291*48271 % 4294967279/64*69621+(cell ns k+104729*(k+1)) % 4294967291*48271 % 4294967279) % 4294967231
theorem Zh4 (ns:List Int) (k:Int):0≤mix ns k∧mix ns k<4294967231:=by
  unfold mix; omega
theorem Zs6 {ns:List Int} {k:Int} (h:0<ns.length):atI (ns.map D.int) (k % (ns.length:Int))=some (.int (cell ns k)):=by
  have a:=Int.emod_nonneg k (show (ns.length:Int)≠0 by omega)
  have b:=Int.emod_lt_of_pos k (show (0:Int)<ns.length by omega)
  have c:(k % (ns.length:Int))=(((k % (ns.length:Int)).toNat:Nat):Int):=by omega
  rw [c]
  refine ZeD ?_
  have d:(k % (ns.length:Int)).toNat<ns.length:=by omega
  rw [List.getElem?_map,List.getElem?_eq_getElem d]
  unfold cell
  rw [if_neg (by omega),List.getD_eq_getElem?_getD,List.getElem?_eq_getElem d]
  rfl
@[simp] theorem ZzH (ns:List Int) (k:Int) (θ:Sto):ZgR [.scr ns,.int k] θ=.ok (.int (cell ns k)) θ:=by
  by_cases h:ns.length=0
  · have:ns=[]:=List.eq_nil_of_length_eq_zero h
    subst this
    simp [ZgR,Ziz,ZfU,cell]
  · have h1:ns.isEmpty=false:=by cases ns with
      | nil=>exact absurd rfl h
      | cons _ _=>rfl
    have h2:0<ns.length:=by omega
    simp [ZgR,Ziz,ZfU,h1,h2,Zs6 (k:=k) h2]
@[simp] theorem ZAU (ns:List Int) (k:Int) (θ:Sto):zP [.scr ns,.int k] θ=.ok (.int (mix ns k)) θ:=by
  simp [zP,ZnJ,ZdN,mix]
@[simp] theorem Ztd (k:Int) (θ:Sto):Zbo [.int k] θ=.ok (il [k/256,k % 256]) θ:=by
  simp [Zbo,ZnI]
theorem Zhx {t:TMr} {body:SM} {n:Nat} {ρ:List Sl} {θ:Sto}:ZcL t body (n+1) ρ θ=(t ρ θ).bind fun k θ=>if k=true then (body ρ θ).bind (ZfF (ZcL t body n)) else .ok (.nx,ρ) θ:=rfl
abbrev ZtD:TMr:=ZI (mOp gtM (Zd 1) (mC (.int 65535)))
abbrev ZtE:SM:=ZP 1 (mOp ZK (mOp zD (Zd 1) (mC (.int 65536))) (mOp Zdt (Zd 1) (mC (.int 65536))))
theorem ZmK (t:Int) (x:Sl) (r:List Sl) (θ:Sto):ZtD (x::.val (.int t)::r) θ=.ok (decide (65535<t)) θ:=by simp
theorem Zrl (t:Int) (x:Sl) (r:List Sl) (θ:Sto):ZtE (x::.val (.int t)::r) θ=.ok (.nx,x::.val (.int (t % 65536+t/65536))::r) θ:=by simp
theorem Zr6 {t:Int} (n:Nat) (h0:0≤t) (h1:t<4294967296) (x:Sl) (r:List Sl) (θ:Sto):ZcL ZtD ZtE (n+3) (x::.val (.int t)::r) θ=.ok (.nx,x::.val (.int (Zal t))::r) θ:=by
  rw [Zhx,ZmK,R.bind_ok]
  by_cases c1:65535<t
  · have s1:=Zjb c1
    rw [if_pos (by simpa using c1),Zrl,R.bind_ok,Zfn]
    have hu:t % 65536+t/65536≤131070:=by omega
    generalize t % 65536+t/65536=u at s1 hu
    rw [Zhx,ZmK,R.bind_ok]
    by_cases c2:65535<u
    · have s2:=Zjb c2
      rw [if_pos (by simpa using c2),Zrl,R.bind_ok,Zfn]
      have hv:u % 65536+u/65536≤65535:=by omega
      generalize u % 65536+u/65536=v at s2 hv
      rw [Zhx,ZmK,R.bind_ok,if_neg (by simp; omega),←s1.1,←s2.1,ZfQ s2.2.1 hv]
    · rw [if_neg (by simpa using c2),←s1.1,ZfQ s1.2.1 (by omega)]
  · rw [if_neg (by simpa using c1),ZfQ h0 (by omega)]
theorem ZiQ {t:Int} (h0:0≤t) (h1:t<4294967296) (x:Sl) (r:List Sl) (θ:Sto):ZcL (ZI (mOp gtM (Zd 1) (mC (.int 65535)))) (ZP 1 (mOp ZK (mOp zD (Zd 1) (mC (.int 65536))) (mOp Zdt (Zd 1) (mC (.int 65536))))) 200 (x::.val (.int t)::r) θ=.ok (.nx,x::.val (.int (Zal t))::r) θ:=Zr6 197 h0 h1 x r θ
def Byt (ns:List Int):Prop:=(∀z∈ns,0≤z∧z≤255)∧ns.length≤1000
theorem ZmT:∀{ns:List Int} {m:Nat},(∀z∈ns,0≤z∧z≤255)→ns.length≤2*m→zm ns≤65535*m
  | [],m,_,_=>by simp [zm]; omega
  | [a],m,h,hl=>by
    have:=h a (by simp)
    simp [zm] at hl ⊢
    omega
  | a::b::r,m,h,hl=>by
    have h1:=h a (by simp)
    have h2:=h b (by simp)
    obtain ⟨m,rfl⟩:∃k,m=k+1:=⟨m-1,by simp at hl; omega⟩
    have:=ZmT (ns:=r) (m:=m) (fun z hz=>h z (by simp [hz])) (by simp at hl; omega)
    simp [zm]
    omega
theorem Byt.sum {ns:List Int} (h:Byt ns):0≤zm ns∧zm ns<4294967296:=by
  refine ⟨ZmS fun z hz=>(h.1 z hz).1,?_⟩
  have:=ZmT (m:=500) h.1 (by have:=h.2; omega)
  omega
theorem Zli {ns:List Int} (h:Byt ns) (θ:Sto):Zdf [il ns] θ=.ok (.int (Zal (zm ns))) θ:=by
  have l1:=Zjc ns
  have l2:=Zlz ns
  have l3:=h.2
  have hs:=h.sum
  have e:=ZmU ns
  simp [Zdf,Ziv,Zgw,ZgH,ZdN,show (ZeI ns).length≤100000 by omega,show (ZhZ ns).length≤100000 by omega,e]
  rw [ZiQ hs.1 hs.2]
  simp
theorem Zp4 {ns:List Int} (h:Byt ns) (θ:Sto):ZeW [il ns] θ=.ok (.int (65535-Zal (zm ns))) θ:=by
  simp [ZeW,Zin,Zli h]
theorem Zfo {ns:List Int} (h:Byt ns) (θ:Sto):Zbp [il ns] θ=.ok (.int (Zal (zm ns))) θ:=by
  have hs:=h.sum
  have l3:=h.2
  let st:Nat→List Sl:=fun i=>[.val (il ns),.val (.int (wpre ns i)),if i=0 then .no else .val (.int ((i:Int)-1))]
  have loop:=for_rng (θ:=θ) (lo:=0) (n:=ns.length) (tg:=gNm 2) (body:=ZP 1 (mOp ZK (Zd 1) (mOp Zba (mOp ixM (Zd 0) (Zd 2)) (mOp ixM (Zb5 (Zc (mC (.int 256)) (Zc (mC (.int 1)) Zk))) (mOp zD (Zd 2) (mC (.int 2))))))) st ?_ (fun i hi=>⟨_,rfl⟩) rfl
  · have b1:(ns.length:Int)≤1000000:=by omega
    have b2 : -1000000≤(ns.length:Int):=by omega
    have b3:ns.length≤1000000:=by omega
    have l0:st 0=[.val (il ns),.val (.int 0),.no]:=rfl
    rw [l0] at loop
    simp [Zbp,Ziy,Zgy,Zgx,ZeP,b1,b2,b3]
    simp at loop
    rw [loop]
    simp [st]
    rw [Zlc,ZiQ hs.1 hs.2]
    simp
  · intro i ρ1 hi e
    have e':ρ1=[.val (il ns),.val (.int (wpre ns i)),.val (.int (0+(i:Int)))]:=by
      simp [st] at e
      simp [←e]
    subst e'
    have g1:ixM (il ns) (.int (0+(i:Int))) θ=.ok (.int (ns.getD i 0)) θ:=by
      rw [ZaZ (by omega) (by omega)]
      simp [gt]
    have g2:ixM (il [256,1]) (.int ((0+(i:Int)) % 2)) θ=.ok (.int (if i % 2=0 then 256 else 1)) θ:=by
      rw [ZaZ (by omega) (by simp; omega)]
      by_cases q:i % 2=0
      · rw [show ((0+(i:Int)) % 2).toNat=0 by omega,if_pos q]; rfl
      · rw [show ((0+(i:Int)) % 2).toNat=1 by omega,if_neg q]; rfl
    have cm:ZdN (ns.getD i 0) (if i % 2=0 then 256 else 1):=.inr (by split<;>decide)
    simp only [ZvK,ZtO,ZpS,ZvM,Zmc,x_c,ZpW,List.getElem?_cons_succ,List.getElem?_cons_zero,R.bind_ok,g1]
    simp only [List.length_cons,List.length_nil,ZwX,ZrO,ZjB,if_pos (show (0:Int)<2 by decide),R.bind_ok,g2,ZqS,if_pos cm,ZrL,if_pos (show 0+1+1≤100000 by decide)]
    simp [st,wpre]
end
end My
namespace My
open PySem L2 L2.MM
noncomputable section
structure Seg where
  src:Int
  goal:Int
  num:Int
  ans:Int
  flags:Int
  win:Int
  most:Int
  data:List Int
def Seg.d (s:Seg):D:=.tup [.int s.src,.int s.goal,.int s.num,.int s.ans,.int s.flags,.int s.win,.int s.most,itp s.data]
structure Seg.Ok (s:Seg):Prop where
  src:0≤s.src∧s.src≤65535
  goal:0≤s.goal∧s.goal≤65535
  num:0≤s.num∧s.num≤4294967295
  ans:0≤s.ans∧s.ans≤4294967295
  flags:0≤s.flags∧s.flags≤31
  win:0≤s.win∧s.win≤65535
  most:s.most=0∨(4≤s.most∧s.most≤65535∧s.flags/2 % 2=1)
  data:(∀z∈s.data,0≤z∧z≤255)∧s.data.length≤16
section
variable {s:Seg} {θ:Sto}
@[simp] theorem d0:ixM s.d (.int 0) θ=.ok (.int s.src) θ:=nr rfl
@[simp] theorem d1:ixM s.d (.int 1) θ=.ok (.int s.goal) θ:=nr rfl
@[simp] theorem d2:ixM s.d (.int 2) θ=.ok (.int s.num) θ:=nr rfl
@[simp] theorem d3:ixM s.d (.int 3) θ=.ok (.int s.ans) θ:=nr rfl
@[simp] theorem d4:ixM s.d (.int 4) θ=.ok (.int s.flags) θ:=nr rfl
@[simp] theorem d5:ixM s.d (.int 5) θ=.ok (.int s.win) θ:=nr rfl
@[simp] theorem d6:ixM s.d (.int 6) θ=.ok (.int s.most) θ:=nr rfl
@[simp] theorem d7:ixM s.d (.int 7) θ=.ok (itp s.data) θ:=nr rfl
end
def two (k:Int):List Int:=[k/256 % 256,k % 256]
def ZlX (k:Int):List Int:=two (k/65536)++two k
def hd (s:Seg):Int:=if s.most=0 then 80 else 96
def ZaY (s:Seg):List Int:=two s.src++two s.goal++(ZlX s.num++ZlX s.ans)++[hd s,s.flags]++two s.win
def ZcV (m:Int):List Int:=if m=0 then [] else [2,4]++two m
def behind (s:Seg):List Int:=[0,0]++ZcV s.most++s.data
def putL (s:Seg):List Int:=ZaY s++two (65535-Zal (zm (ZaY s++[0,0]++behind s)))++behind s
@[simp] theorem Ztc (k:Int) (θ:Sto):zp [.int k] θ=.ok (il (two k)) θ:=by
  simp [zp,ZfH,two]
@[simp] theorem two_len (k:Int):(two k).length=2:=rfl
@[simp] theorem ZwV (k:Int):(ZlX k).length=4:=rfl
@[simp] theorem ZvG (s:Seg):(ZaY s).length=16:=rfl
@[simp] theorem Zr5 (k:Int) (θ:Sto):Zbv [.int k] θ=.ok (il (ZlX k)) θ:=by
  simp [Zbv,Zfj,ZlX]
@[simp] theorem Zp9 (k:Int) (θ:Sto):zZ [.int k] θ=.ok (.int (16*(k/4))) θ:=by
  simp [zZ,Zd9,ZdN]
@[simp] theorem Zox (k:Int) (θ:Sto):Za3 [.int k] θ=.ok (il (ZcV k)) θ:=by
  by_cases h:k=0<;>simp [Za3,ZdE,ZcV,h,Zdj]
@[simp] theorem Zxk (s:Seg) (θ:Sto):zY [s.d] θ=.ok (il (ZaY s)) θ:=by
  by_cases h:s.most=0<;>simp [zY,Zch,ZaY,hd,h]
theorem Zi3 (m:Int):(ZcV m).length≤4:=by unfold ZcV; split<;>simp
theorem Zeu (k:Int):∀z∈two k,0≤z∧z≤255:=by
  intro z hz
  simp [two] at hz
  rcases hz with rfl | rfl<;>omega
theorem Zl6 (k:Int):∀z∈ZlX k,0≤z∧z≤255:=by
  intro z hz
  rcases List.mem_append.mp hz with h | h
  · exact Zeu _ z h
  · exact Zeu _ z h
theorem ZbN {a b:List Int} (h1:∀z∈a,0≤z∧z≤255) (h2:∀z∈b,0≤z∧z≤255):∀z∈a++b,0≤z∧z≤255:=fun z hz=>(List.mem_append.mp hz).elim (h1 z) (h2 z)
theorem Zje {s:Seg} (h:0≤s.flags∧s.flags≤255):∀z∈ZaY s,0≤z∧z≤255:=by
  refine ZbN (ZbN (ZbN (ZbN (Zeu _) (Zeu _)) (ZbN (Zl6 _) (Zl6 _))) ?_) (Zeu _)
  intro z hz
  simp at hz
  rcases hz with rfl | rfl
  · unfold hd; split<;>omega
  · exact h
theorem ZrE (m:Int):∀z∈ZcV m,0≤z∧z≤255:=by
  unfold ZcV
  split
  · intro z hz; simp at hz
  · refine ZbN ?_ (Zeu _)
    intro z hz
    simp at hz
    omega
theorem Zik {s:Seg} (h:∀z∈s.data,0≤z∧z≤255):∀z∈behind s,0≤z∧z≤255:=by
  refine ZbN (ZbN ?_ (ZrE _)) h
  intro z hz
  simp at hz
  omega
theorem Zdl (s:Seg):(behind s).length≤6+s.data.length:=by
  have:=Zi3 s.most
  simp [behind]
  omega
structure Seg.Put (s:Seg):Prop where
  flags:0≤s.flags∧s.flags≤255
  data:(∀z∈s.data,0≤z∧z≤255)∧s.data.length≤100
theorem Seg.Ok.put {s:Seg} (h:s.Ok):s.Put:=⟨⟨h.flags.1,by have:=h.flags.2; omega⟩,h.data.1,by have:=h.data.2; omega⟩
theorem Seg.Put.byt {s:Seg} (h:s.Put):Byt (ZaY s++[0,0]++behind s):=by
  refine ⟨ZbN (ZbN (Zje h.flags) ?_) (Zik h.data.1),?_⟩
  · intro z hz
    simp at hz
    omega
  · have:=Zdl s
    have:=h.data.2
    simp
    omega
theorem ZvX {s:Seg} (h:s.Put) (θ:Sto):Zlx [s.d] θ=.ok (il (putL s)) θ:=by
  have b:=h.byt
  have l1:=Zi3 s.most
  have l2:=h.data.2
  have l3:=Zdl s
  have e1:0::0::(ZcV s.most++s.data)=behind s:=rfl
  have e2:=Zp4 b θ
  simp only [List.append_assoc,List.cons_append,List.nil_append] at e2
  simp (disch:=first | done | (simp; done) | omega | (simp; omega)) [Zlx,ZnG,ZhE,-Zrf,e1,e2]
  simp [putL,show 18+(behind s).length≤100000 by omega]
theorem ZhK {a b c:List Int} (ha:a.length % 2=0) (hb:b.length % 2=0):zm (a++b++c)=zm a+zm b+zm c:=by
  rw [ZhL (by rw [List.length_append]; omega),ZhL ha]
theorem Zql {s:Seg} (h:s.Put):Zal (zm (putL s))=65535:=by
  have b:=h.byt
  have w0:=b.sum
  have e1:zm (putL s)=zm (ZaY s)+zm (two (65535-Zal (zm (ZaY s++[0,0]++behind s))))+zm (behind s):=ZhK (by simp) (by simp)
  have e2:zm (ZaY s++[0,0]++behind s)=zm (ZaY s)+zm [0,0]+zm (behind s):=ZhK (by simp) (by simp)
  have e3:zm [0,0]=0:=by simp [zm]
  have f:=ZjJ w0.1
  have e4:zm (two (65535-Zal (zm (ZaY s++[0,0]++behind s))))=256*((65535-Zal (zm (ZaY s++[0,0]++behind s)))/256)+(65535-Zal (zm (ZaY s++[0,0]++behind s))) % 256:=by
    have:=f.2.1
    have:=f.1
    simp only [zm,two]
    omega
  have c:=ZmJ w0.1
  rw [e1,e4]
  rw [e3] at e2
  have:zm (ZaY s)+(256*((65535-Zal (zm (ZaY s++[0,0]++behind s)))/256)+(65535-Zal (zm (ZaY s++[0,0]++behind s))) % 256)+zm (behind s)=zm (ZaY s++[0,0]++behind s)+(256*((65535-Zal (zm (ZaY s++[0,0]++behind s)))/256)+(65535-Zal (zm (ZaY s++[0,0]++behind s))) % 256):=by omega
  rw [this]
  exact c
theorem Zf4 {s:Seg} (h:s.Put):Byt (putL s):=by
  refine ⟨ZbN (ZbN (Zje h.flags) (Zeu _)) (Zik h.data.1),?_⟩
  have:=Zdl s
  have:=h.data.2
  simp [putL]
  omega
theorem Znb {s:Seg}:(putL s).length=(if s.most=0 then 20 else 24)+s.data.length:=by
  unfold putL behind ZcV
  by_cases h:s.most=0<;>simp [h]<;>omega
theorem Zmq (s:Seg):∃x y,putL s=[s.src/256 % 256,s.src % 256,s.goal/256 % 256,s.goal % 256,s.num/65536/256 % 256,s.num/65536 % 256,s.num/256 % 256,s.num % 256,
    s.ans/65536/256 % 256,s.ans/65536 % 256,s.ans/256 % 256,s.ans % 256,hd s,s.flags,s.win/256 % 256,s.win % 256,x,y,0,0]++(ZcV s.most++s.data):=⟨_,_,rfl⟩
@[simp] theorem ZcB {a:List Int} {i:Int} (h0:0≤i) (h:i+1<a.length) (θ:Sto):Zan [il a,.int i] θ=.ok (.int (256*gt a i.toNat+gt a (i+1).toNat)) θ:=by
  simp [Zan,Zim,ZaZ (θ:=θ) h0 (show i<a.length by omega),ZaZ (θ:=θ) (show 0≤i+1 by omega) h,ZdN]
@[simp] theorem ZiP {a:List Int} {i:Int} (h0:0≤i) (h:i+3<a.length) (θ:Sto):Zc7 [il a,.int i] θ=.ok (.int (65536*(256*gt a i.toNat+gt a (i+1).toNat)+(256*gt a (i+2).toNat+gt a (i+2+1).toNat))) θ:=by
  simp [Zc7,Zhm,ZcB (θ:=θ) h0 (show i+1<a.length by omega),ZcB (θ:=θ) (show 0≤i+2 by omega) (show i+2+1<a.length by omega),ZdN]
@[simp] theorem ZiN {a:List Int} (h:12<a.length) (θ:Sto):Zbu [il a] θ=.ok (.int (gt a 12/16*4)) θ:=by
  have:=ZaZ (a:=a) (θ:=θ) (i:=12) (by decide) (by omega)
  simp [Zbu,Zhl,this,ZdN]
def bit (f k:Int):Int:=if Builtin.bitAnd f k=0 then 0 else 1
@[simp] theorem ZAV (f k:Int) (θ:Sto):ZfC [.int f,.int k] θ=.ok (.int (bit f k)) θ:=by
  by_cases h:Builtin.bitAnd f k=0<;>simp [ZfC,ZnH,bit,h]
theorem Zs4:∀n:Fin 32,bit (n.val:Int) 1=(n.val:Int) % 2∧bit (n.val:Int) 2=(n.val:Int)/2 % 2∧bit (n.val:Int) 4=(n.val:Int)/4 % 2∧bit (n.val:Int) 8=(n.val:Int)/8 % 2∧bit (n.val:Int) 16=(n.val:Int)/16 % 2:=by decide
theorem ZrG {f:Int} (h:0≤f∧f≤31):bit f 1=f % 2∧bit f 2=f/2 % 2∧bit f 4=f/4 % 2∧bit f 8=f/8 % 2∧bit f 16=f/16 % 2:=by
  have:=Zs4 ⟨f.toNat,by omega⟩
  simp only at this
  rw [show ((f.toNat:Nat):Int)=f by omega] at this
  exact this
theorem Zp7 (s:Seg) (θ:Sto):ZcD [s.d] θ=.ok (.int (s.data.length+bit s.flags 2+bit s.flags 1)) θ:=by
  simp [ZcD,Zis]
def at2 (a:List Int) (i:Nat):Int:=256*gt a i+gt a (i+1)
def at4 (a:List Int) (i:Nat):Int:=65536*at2 a i+at2 a (i+2)
def longOk (a:List Int):Bool:=decide (bit (gt a 13) 2=1) && (decide (gt a 20=2) && (decide (gt a 21=4) && decide (4≤at2 a 22)))
def Za4 (a:List Int):Int:=gt a 12/16*4
def zI (a:List Int):Bool:=decide (20≤a.length) && (decide (gt a 12=80∨gt a 12=96) && (decide (gt a 13≤31) && (decide (0≤(a.length:Int)-Za4 a∧(a.length:Int)-Za4 a≤16) &&
  (decide (at2 a 18=0) && ((decide (Za4 a=20) || longOk a) && decide (Zal (zm a)=65535))))))
theorem Zt2 {a:List Int} (h:24≤a.length) (θ:Sto):zX [il a] θ=.ok (.bl (longOk a)) θ:=by
  have g:=fun (i:Int) (h0:0≤i) (h1:i<a.length)=>ZaZ (a:=a) (θ:=θ) (i:=i) h0 h1
  have g13:=g 13 (by decide) (by omega)
  have g20:=g 20 (by decide) (by omega)
  have g21:=g 21 (by decide) (by omega)
  have g22:=ZcB (a:=a) (i:=22) (by decide) (by omega) θ
  simp only [show (13:Int).toNat=13 from rfl,show (20:Int).toNat=20 from rfl,show (21:Int).toNat=21 from rfl,show (22:Int).toNat=22 from rfl,show (22+1:Int).toNat=23 from rfl] at g13 g20 g21 g22
  unfold longOk at2
  simp [zX,Zce,g13,g20,g21,g22]
theorem ZsS (x y z:Int) (θ:Sto):inM (.int x) (.tup [.int y,.int z]) θ=.ok (.bl (decide (x=y∨x=z))) θ:=by
  have e:inD θ (.int x) (.tup [.int y,.int z])=some (decide (y=x) || (decide (z=x) || false)):=rfl
  have e2:(decide (y=x) || (decide (z=x) || false))=decide (x=y∨x=z):=by
    rw [Bool.eq_iff_iff]
    simp only [Bool.or_eq_true,decide_eq_true_eq,Bool.false_eq_true,or_false]
    constructor
    · rintro (h | h)
      · exact .inl h.symm
      · exact .inr h.symm
    · rintro (h | h)
      · exact .inl h.symm
      · exact .inr h.symm
  unfold inM
  rw [e,e2]
theorem ZbQ {a:List Int} (h:Byt a) (θ:Sto):Zap [il a] θ=.ok (.bl (zI a)) θ:=by
  by_cases c1:20≤a.length
  · have g:=fun (i:Int) (h0:0≤i) (h1:i<a.length)=>ZaZ (a:=a) (θ:=θ) (i:=i) h0 h1
    have g12:=g 12 (by decide) (by omega)
    have g13:=g 13 (by decide) (by omega)
    have g18:=ZcB (a:=a) (i:=18) (by decide) (by omega) θ
    have gh:=ZiN (a:=a) (by omega) θ
    have gf:=Zli h θ
    have c1':(20:Int)≤a.length:=by omega
    simp only [show (12:Int).toNat=12 from rfl,show (13:Int).toNat=13 from rfl,show (18:Int).toNat=18 from rfl,show (18+1:Int).toNat=19 from rfl] at g12 g13 g18
    by_cases c2:gt a 12=80
    · rw [c2] at g12 gh
      simp [Zap,Zby,zI,Za4,at2,c1,c1',g12,g13,g18,gh,gf,ZsS,c2]<;>rfl
    · by_cases c3:gt a 12=96
      · rw [c3] at g12 gh
        by_cases c4:24≤a.length
        · have gl:=Zt2 c4 θ
          simp [Zap,Zby,zI,Za4,at2,c1,c1',g12,g13,g18,gh,gf,ZsS,c3,gl]<;>rfl
        · have c5:¬(24:Int)≤(a.length:Int):=by omega
          simp [Zap,Zby,zI,Za4,at2,c1,c1',g12,g13,g18,gh,gf,ZsS,c3,c5]<;>rfl
      · simp [Zap,Zby,zI,Za4,at2,c1,c1',g12,g13,g18,gh,gf,ZsS,c2,c3]
  · have c1':¬(20:Int)≤a.length:=by omega
    simp [Zap,Zby,zI,c1,c1']
def Zbc (a:List Int):Seg:=⟨at2 a 0,at2 a 2,at4 a 4,at4 a 8,gt a 13,at2 a 14,if Za4 a=24 then at2 a 22 else 0,a.drop (Za4 a).toNat⟩
theorem Zdz {a:List Int} (h:zI a=true):20≤a.length∧((Za4 a=20)∨(Za4 a=24∧24≤a.length∧longOk a=true))∧(a.length:Int)-Za4 a≤16∧gt a 13≤31:=by
  unfold zI at h
  simp only [Bool.and_eq_true,decide_eq_true_eq,Bool.or_eq_true] at h
  obtain ⟨h1,h2,h3,h4,h5,h6,h7⟩:=h
  refine ⟨h1,?_,h4.2,h3⟩
  rcases h2 with h2 | h2
  · left; unfold Za4; rw [h2]; rfl
  · right
    have e:Za4 a=24:=by unfold Za4; rw [h2]; rfl
    refine ⟨e,by have:=h4.1; rw [e] at this; omega,?_⟩
    rcases h6 with h6 | h6
    · rw [e] at h6; cases h6
    · exact h6
theorem Zlh {a:List Int} (h:Byt a) (hr:zI a=true) (θ:Sto):ZiY [il a] θ=.ok (Zbc a).d θ:=by
  obtain ⟨l1,l2,l3,l4⟩:=Zdz hr
  have ir:=ZbQ h θ
  rw [hr] at ir
  have gh:=ZiN (a:=a) (by omega) θ
  have g13:=ZaZ (a:=a) (θ:=θ) (i:=13) (by decide) (by omega)
  have q0:=ZcB (a:=a) (i:=0) (by decide) (by omega) θ
  have q2:=ZcB (a:=a) (i:=2) (by decide) (by omega) θ
  have q14:=ZcB (a:=a) (i:=14) (by decide) (by omega) θ
  have q4:=ZiP (a:=a) (i:=4) (by decide) (by omega) θ
  have q8:=ZiP (a:=a) (i:=8) (by decide) (by omega) θ
  simp only [show (13:Int).toNat=13 from rfl,show (0:Int).toNat=0 from rfl,show (0+1:Int).toNat=1 from rfl,show (2:Int).toNat=2 from rfl,show (2+1:Int).toNat=3 from rfl,show (14:Int).toNat=14 from rfl,show (14+1:Int).toNat=15 from rfl,
    show (4:Int).toNat=4 from rfl,show (4+1:Int).toNat=5 from rfl,show (4+2:Int).toNat=6 from rfl,show (4+2+1:Int).toNat=7 from rfl,show (8:Int).toNat=8 from rfl,show (8+1:Int).toNat=9 from rfl,show (8+2:Int).toNat=10 from rfl,show (8+2+1:Int).toNat=11 from rfl] at g13 q0 q2 q14 q4 q8
  have gh':Zbu [il a] θ=.ok (.int (Za4 a)) θ:=gh
  have ps:∀x:Int,0≤x→Zaw a (some x) none=a.drop x.toNat:=fun x hx=>ZbL a hx
  rcases l2 with e | ⟨e,l5,_⟩
  · simp [ZiY,ZjP,ZgY,ir,gh',e,g13,q0,q2,q4,q8,q14,ps,Zbc,Seg.d,at2,at4]
  · have q22:=ZcB (a:=a) (i:=22) (by decide) (by omega) θ
    simp only [show (22:Int).toNat=22 from rfl,show (22+1:Int).toNat=23 from rfl] at q22
    simp [ZiY,ZjP,ZgY,ir,gh',e,g13,q0,q2,q4,q8,q14,q22,ps,Zbc,Seg.d,at2,at4]
end
end My
namespace My
open PySem L2 L2.MM
noncomputable section
theorem Zqk (s:Seg):gt (putL s) 12=hd s∧gt (putL s) 13=s.flags∧at2 (putL s) 18=0∧at2 (putL s) 0=256*(s.src/256 % 256)+s.src % 256∧at2 (putL s) 2=256*(s.goal/256 % 256)+s.goal % 256∧
    at4 (putL s) 4=65536*(256*(s.num/65536/256 % 256)+s.num/65536 % 256)+(256*(s.num/256 % 256)+s.num % 256)∧at4 (putL s) 8=65536*(256*(s.ans/65536/256 % 256)+s.ans/65536 % 256)+(256*(s.ans/256 % 256)+s.ans % 256)∧
    at2 (putL s) 14=256*(s.win/256 % 256)+s.win % 256:=by
  obtain ⟨x,y,e⟩:=Zmq s
  rw [e]
  unfold at4 at2
  refine ⟨rfl,rfl,?_,rfl,rfl,rfl,rfl,rfl⟩
  show 256*(0:Int)+0=0
  rfl
theorem Zlt (s:Seg) (h:s.most≠0):gt (putL s) 20=2∧gt (putL s) 21=4∧at2 (putL s) 22=256*(s.most/256 % 256)+s.most % 256:=by
  obtain ⟨x,y,e⟩:=Zmq s
  have e2:ZcV s.most=[2,4,s.most/256 % 256,s.most % 256]:=by unfold ZcV; rw [if_neg h]; rfl
  rw [e,e2]
  unfold at2
  exact ⟨rfl,rfl,rfl⟩
theorem ZgG {s:Seg} (h:s.Ok):zI (putL s)=true:=by
  obtain ⟨g12,g13,g18,_⟩:=Zqk s
  have hl:=Znb (s:=s)
  have hd':=h.data.2
  have hf:=Zql h.put
  have hw:=h.flags
  unfold zI longOk Za4
  simp only [Bool.and_eq_true,decide_eq_true_eq,Bool.or_eq_true]
  rw [g12,g13,g18,hf,hl]
  by_cases m:s.most=0
  · have e:hd s=80:=if_pos m
    rw [e,if_pos m]
    simp
    omega
  · have e:hd s=96:=if_neg m
    obtain ⟨p1,p2,p3⟩:=Zlt s m
    have hm:4≤s.most∧s.most≤65535∧s.flags/2 % 2=1:=h.most.resolve_left m
    have hb:=(ZrG h.flags).2.1
    rw [e,if_neg m,p1,p2,p3,hb]
    simp
    omega
theorem Zrq (s:Seg):(putL s).drop (if s.most=0 then 20 else 24)=s.data:=by
  obtain ⟨x,y,e⟩:=Zmq s
  rw [e]
  by_cases m:s.most=0
  · rw [if_pos m]
    simp [ZcV,m]
  · rw [if_neg m]
    simp [ZcV,m,two]
theorem Znz {s:Seg} (h:s.Ok):Zbc (putL s)=s:=by
  obtain ⟨g12,g13,g18,g0,g2,g4,g8,g14⟩:=Zqk s
  have e0:=Zrq s
  obtain ⟨⟨a1,a2⟩,⟨b1,b2⟩,⟨c1,c2⟩,⟨d1,d2⟩,_,⟨f1,f2⟩,hm,_⟩:=h
  unfold Zbc Za4
  rw [g12,g13,g0,g2,g4,g8,g14]
  obtain ⟨src,goal,num,ans,flags,win,most,data⟩:=s
  simp only at *
  by_cases m:most=0
  · subst m
    have e:hd ⟨src,goal,num,ans,flags,win,0,data⟩=80:=rfl
    rw [e]
    simp only [if_true] at e0
    simp [e0]
    omega
  · have e:hd ⟨src,goal,num,ans,flags,win,most,data⟩=96:=if_neg m
    obtain ⟨_,_,p3⟩:=Zlt ⟨src,goal,num,ans,flags,win,most,data⟩ m
    simp only at p3
    rw [e,p3]
    rw [if_neg m] at e0
    simp [e0]
    have:=hm.resolve_left m
    omega
@[simp] theorem ZAw {s:Seg} {θ:Sto}:ZcM θ s.d (some 2) (some 4)=some (.tup [.int s.num,.int s.ans]):=nr rfl
theorem two_small {k:Int} (h0:0≤k) (h:k≤65535):[k/256,k % 256]=two k:=by
  unfold two
  rw [show k/256 % 256=k/256 by omega]
theorem Zid {k:Int} (h0:0≤k) (h:k≤4294967295):[k/65536/256,k/65536 % 256,k % 65536/256,k % 256]=ZlX k:=by
  unfold ZlX two
  rw [show k/65536/256 % 256=k/65536/256 by omega,show k % 65536/256=k/256 % 256 by omega]
  rfl
def Zam (s:Seg):List Int:=[s.src/256,s.src % 256,s.goal/256,s.goal % 256,s.num/65536/256,s.num/65536 % 256,s.num % 65536/256,s.num % 256,s.ans/65536/256,s.ans/65536 % 256,s.ans % 65536/256,s.ans % 256,
  hd s,s.flags,s.win/256,s.win % 256,0,0,0,0]++((if s.most=0 then [] else [2,4,s.most/256,s.most % 256])++s.data)
theorem Zms {s:Seg} (h:s.Ok):Zam s=ZaY s++[0,0]++behind s:=by
  obtain ⟨⟨a1,a2⟩,⟨b1,b2⟩,⟨c1,c2⟩,⟨d1,d2⟩,⟨f1,f2⟩,⟨w1,w2⟩,hm,hd1,hd2⟩:=id h
  have e1:=two_small a1 a2
  have e2:=two_small b1 b2
  have e3:=Zid c1 c2
  have e4:=Zid d1 d2
  have e5:=two_small w1 w2
  have e6:(if s.most=0 then [] else [2,4,s.most/256,s.most % 256])=ZcV s.most:=by
    unfold ZcV
    by_cases m:s.most=0
    · rw [if_pos m,if_pos m]
    · rw [if_neg m,if_neg m]
      have:=hm.resolve_left m
      rw [←two_small (k:=s.most) (by omega) (by omega)]
      rfl
  unfold Zam ZaY behind
  rw [e6,←e1,←e2,←e3,←e4,←e5]
  rfl
theorem Znd {s:Seg} (h:s.Ok):(Zam s).take 16++two (65535-Zal (zm (Zam s)))++(Zam s).drop 18=putL s:=by
  rw [Zms h]
  have e1:(ZaY s++[0,0]++behind s).take 16=ZaY s:=by
    rw [List.append_assoc,List.take_append_of_le_length (by simp),List.take_of_length_le (by simp)]
  have e2:(ZaY s++[0,0]++behind s).drop 18=behind s:=by
    have:(ZaY s++[0,0]).length=18:=by simp
    rw [←this,List.drop_left]
  rw [e1,e2]
  rfl
theorem ZiD {s:Seg} (h:s.Ok) (θ:Sto) (x y:Sl):ZO (mOp ZK (mOp ZK (mSl (Zd 1) zh (zO (mC (.int 16)))) (mCB Zbo (Zc (mOp ZeS (mC (.int 65535)) (mCB Zbp (Zc (Zd 1) Zk))) Zk))) (mSl (Zd 1) (zO (mC (.int 18))) zh)) [x,.val (il (Zam s)),y] θ
    = .ok (.rt (il (putL s)),[x,.val (il (Zam s)),y]) θ:=by
  have pe:=Zms h
  have bp:=h.put.byt
  rw [←pe] at bp
  have lf:=Zfo bp θ
  have hs:=ZjJ bp.sum.1
  have hl:(Zam s).length≤100:=by
    have:=Zdl s
    have:=h.data.2
    rw [pe]
    simp
    omega
  have fin:=Znd h
  have tw:[(65535-Zal (zm (Zam s)))/256,(65535-Zal (zm (Zam s))) % 256]=two (65535-Zal (zm (Zam s))):=two_small (by omega) (by omega)
  have k1:Zaw (Zam s) none (some 16)=(Zam s).take 16:=Zcc _ (by decide)
  have k2:Zaw (Zam s) (some 18) none=(Zam s).drop 18:=ZbL _ (by decide)
  have fs:ZK (il ((Zam s).take 16)) (il (two (65535-Zal (zm (Zam s))))) θ=.ok (il ((Zam s).take 16++two (65535-Zal (zm (Zam s))))) θ:=ZhE (by simp; omega)
  have fs2:ZK (il ((Zam s).take 16++two (65535-Zal (zm (Zam s))))) (il ((Zam s).drop 18)) θ=.ok (il (putL s)) θ:=by
    rw [ZhE (by simp; omega),fin]
  simp only [ZiK,ZtO,ZvI,ZpS,ZvS,Zmc,ZpW,Zla,ZpV,x_c,R.bind_ok,List.getElem?_cons_succ,List.getElem?_cons_zero,ZlT,k1,k2,lf,ZjB,if_true,Ztd,tw,fs,fs2]
theorem ZeQ {s:Seg} (h:s.Ok) (θ:Sto):ZaO [s.d] θ=.ok (il (putL s)) θ:=by
  have tail:=ZiD h θ
  have dl:=h.data.2
  by_cases m:s.most=0
  · have g:ixM (il [80,96]) (.int 0) θ=.ok (.int 80) θ:=rfl
    have e0:hd s=80:=if_pos m
    have pl:[s.src/256,s.src % 256,s.goal/256,s.goal % 256,s.num/65536/256,s.num/65536 % 256,s.num % 65536/256,s.num % 256,s.ans/65536/256,s.ans/65536 % 256,s.ans % 65536/256,s.ans % 256,
      80,s.flags,s.win/256,s.win % 256,0,0,0,0]++s.data=Zam s:=by unfold Zam; rw [if_pos m,e0]; rfl
    simp only [List.cons_append,List.nil_append] at pl
    simp [ZaO,Zg6,Zfm,Zfl,ZeP,forL,m,g,pl,-ZiK,tail,show s.data.length+20≤100000 by omega,show 20+s.data.length≤100000 by omega]
  · have g:ixM (il [80,96]) (.int 1) θ=.ok (.int 96) θ:=rfl
    have e0:hd s=96:=if_neg m
    have mg:(0:Int)<s.most:=by have:=h.most.resolve_left m; omega
    have pl:[s.src/256,s.src % 256,s.goal/256,s.goal % 256,s.num/65536/256,s.num/65536 % 256,s.num % 65536/256,s.num % 256,s.ans/65536/256,s.ans/65536 % 256,s.ans % 65536/256,s.ans % 256,
      96,s.flags,s.win/256,s.win % 256,0,0,0,0,2,4,s.most/256,s.most % 256]++s.data=Zam s:=by unfold Zam; rw [if_neg m,e0]; rfl
    simp only [List.cons_append,List.nil_append] at pl
    simp [ZaO,Zg6,Zfm,Zfl,ZeP,forL,mg,g,pl,-ZiK,tail,show s.data.length+24≤100000 by omega,show 24+s.data.length≤100000 by omega]
def ZfM (ns:List Int) (b:Int):Int:=if mix ns b % 32/2 % 2=1∧0<mix ns (b+1) % 3 then (if gt [4,5,16,536,65535,0] (mix ns (b+3) % 6).toNat=0 then 4+mix ns (b+2) % 65532 else gt [4,5,16,536,65535,0] (mix ns (b+3) % 6).toNat) else 0
def ZfE (n:Int):Int:=if n % 3=0 then gt [0,1,4294967295,4294967294,2147483648,65535,65536] (n/3 % 7).toNat else n
def ZaM (ns:List Int) (b:Int):Int:=if gt [0,1,15,16,7] (mix ns (b+9) % 5).toNat=7 then mix ns (b+8) % 17 else gt [0,1,15,16,7] (mix ns (b+9) % 5).toNat
def ZfR (ns:List Int) (b:Int):List Int:=if mix ns (b+27) % 5=0 then List.replicate (ZaM ns b).toNat 255 else (List.range (ZaM ns b).toNat).map fun (k:Nat)=>mix ns (b+10+(k:Int))/7 % 256
def ZeE (ns:List Int) (b:Int):Seg:=⟨mix ns (b+6) % 65536,mix ns (b+7) % 65536,ZfE (mix ns (b+4)),ZfE (mix ns (b+5)),mix ns b % 32,mix ns (b+28) % 65536,ZfM ns b,ZfR ns b⟩
theorem Zob {P:Nat→Prop} {n:Nat} (h:n<5) (h0:P 0) (h1:P 1) (h2:P 2) (h3:P 3) (h4:P 4):P n:=by
  match n,h with
  | 0,_=>exact h0
  | 1,_=>exact h1
  | 2,_=>exact h2
  | 3,_=>exact h3
  | 4,_=>exact h4
theorem Zi6 {P:Nat→Prop} {n:Nat} (h:n<7) (h0:P 0) (h1:P 1) (h2:P 2) (h3:P 3) (h4:P 4) (h5:P 5) (h6:P 6):P n:=by
  match n,h with
  | 0,_=>exact h0
  | 1,_=>exact h1
  | 2,_=>exact h2
  | 3,_=>exact h3
  | 4,_=>exact h4
  | 5,_=>exact h5
  | 6,_=>exact h6
theorem Zju (ns:List Int) (b:Int):0≤ZaM ns b∧ZaM ns b≤16:=by
  unfold ZaM
  have h:(mix ns (b+9) % 5).toNat<5:=by omega
  have:0≤gt [0,1,15,16,7] (mix ns (b+9) % 5).toNat∧gt [0,1,15,16,7] (mix ns (b+9) % 5).toNat≤16:=Zob (P:=fun n=>0≤gt [0,1,15,16,7] n∧gt [0,1,15,16,7] n≤16) h (by decide) (by decide) (by decide) (by decide) (by decide)
  split
  · omega
  · exact this
theorem ZrI (ns:List Int) (b:Int):(ZeE ns b).Ok:=by
  have nm:∀n,0≤n∧n<4294967231→0≤ZfE n∧ZfE n≤4294967295:=fun n hn=>by
    unfold ZfE
    split
    · have h:(n/3 % 7).toNat<7:=by omega
      exact Zi6 (P:=fun n=>0≤gt [0,1,4294967295,4294967294,2147483648,65535,65536] n∧gt [0,1,4294967295,4294967294,2147483648,65535,65536] n≤4294967295) h (by decide) (by decide) (by decide) (by decide) (by decide) (by decide) (by decide)
    · omega
  have sz:=Zju ns b
  refine ⟨by simp only [ZeE]; omega,by simp only [ZeE]; omega,nm _ (Zh4 _ _),nm _ (Zh4 _ _),by simp only [ZeE]; omega,by simp only [ZeE]; omega,?_,?_,?_⟩
  · show ZfM ns b=0∨(4≤ZfM ns b∧ZfM ns b≤65535∧mix ns b % 32/2 % 2=1)
    unfold ZfM
    split
    · rename_i c
      right
      have h:(mix ns (b+3) % 6).toNat<7:=by omega
      have:gt [4,5,16,536,65535,0] (mix ns (b+3) % 6).toNat=0∨(4≤gt [4,5,16,536,65535,0] (mix ns (b+3) % 6).toNat∧gt [4,5,16,536,65535,0] (mix ns (b+3) % 6).toNat≤65535):=
        Zi6 (P:=fun n=>gt [4,5,16,536,65535,0] n=0∨(4≤gt [4,5,16,536,65535,0] n∧gt [4,5,16,536,65535,0] n≤65535)) h (by decide) (by decide) (by decide) (by decide) (by decide) (by decide) (by decide)
      split
      · exact ⟨by omega,by omega,c.1⟩
      · rename_i c2
        have:=this.resolve_left c2
        exact ⟨this.1,this.2,c.1⟩
    · exact .inl rfl
  · show ∀z∈ZfR ns b,0≤z∧z≤255
    unfold ZfR
    split
    · intro z hz
      have:=List.eq_of_mem_replicate hz
      omega
    · intro z hz
      obtain ⟨k,_,rfl⟩:=List.mem_map.mp hz
      omega
  · show (ZfR ns b).length≤16
    unfold ZfR
    split<;>simp<;>omega
theorem Zml (ns:List Int) (b:Int) (r:List Sl) (θ:Sto):Zc8 (.val (.scr ns)::.val (.int b)::.val (.int (mix ns b % 32))::.val (.int 0)::r) θ=.ok (.nx,.val (.scr ns)::.val (.int b)::.val (.int (mix ns b % 32))::.val (.int (ZfM ns b))::r) θ:=by
  have g:=ZaZ (a:=[4,5,16,536,65535,0]) (i:=mix ns (b+3) % 6) (θ:=θ) (by omega) (by simp; omega)
  unfold ZfM
  generalize gt [4,5,16,536,65535,0] (mix ns (b+3) % 6).toNat=m at *
  by_cases c1:mix ns b % 32/2 % 2=1
  · by_cases c2:0<mix ns (b+1) % 3
    · by_cases c3:m=0
      · simp [Zc8,Zec,c1,c2,c3,g]
      · simp [Zc8,Zec,c1,c2,c3,g]
    · simp [Zc8,Zec,c1,c2]
  · simp [Zc8,Zec,c1]
theorem ZnT (n:Int) (a0 a1 a2 a3 a4 a5:Sl) (r:List Sl) (θ:Sto):Zfz (a0::a1::a2::a3::a4::a5::.val (.int n)::r) θ=.ok (.nx,a0::a1::a2::a3::a4::a5::.val (.int (ZfE n))::r) θ:=by
  have g:=ZaZ (a:=[0,1,4294967295,4294967294,2147483648,65535,65536]) (i:=n/3 % 7) (θ:=θ) (by omega) (by simp; omega)
  unfold ZfE
  generalize gt [0,1,4294967295,4294967294,2147483648,65535,65536] (n/3 % 7).toNat=m at *
  by_cases c:n % 3=0
  · simp [Zfz,c,g]
  · simp [Zfz,c]
theorem Zmk (ns:List Int) (b:Int) (a2 a3:Sl) (r:List Sl) (θ:Sto):Zg7 (.val (.scr ns)::.val (.int b)::a2::a3::.own []::.no::.no::r) θ =
    .ok (.nx,.val (.scr ns)::.val (.int b)::a2::a3::.own [.int (ZfE (mix ns (b+4))),.int (ZfE (mix ns (b+5)))]::.val (.int 1)::.val (.int (ZfE (mix ns (b+5))))::r) θ:=by
  simp [Zg7,ZeP,forL,ZnT,List.range_succ,show b+4+1=b+5 by omega]
theorem Zmj (ns:List Int) (b:Int) (a2 a3 a4 a5 a6 a7:Sl) (r:List Sl) (θ:Sto):Zfy (.val (.scr ns)::.val (.int b)::a2::a3::a4::a5::a6::a7::.val (.int (gt [0,1,15,16,7] (mix ns (b+9) % 5).toNat))::r) θ =
    .ok (.nx,.val (.scr ns)::.val (.int b)::a2::a3::a4::a5::a6::a7::.val (.int (ZaM ns b))::r) θ:=by
  unfold ZaM
  generalize gt [0,1,15,16,7] (mix ns (b+9) % 5).toNat=m at *
  by_cases c:m=7
  · simp [Zfy,c]
  · simp [Zfy,c]
theorem Zqi (n:Nat) (x:Int):(List.replicate n [x]).flatten=List.replicate n x:=by
  induction n with
  | zero=>rfl
  | succ n ih=>rw [List.replicate_succ,List.flatten_cons,ih]; rfl
theorem Zmm (ns:List Int) (b:Int) (a2 a3 a4 a5 a6 a7:Sl) (r:List Sl) (θ:Sto):Zfx (.val (.scr ns)::.val (.int b)::a2::a3::a4::a5::a6::a7::.val (.int (ZaM ns b))::.val (itp ((List.range (ZaM ns b).toNat).map fun (k:Nat)=>mix ns (b+10+(k:Int))/7 % 256))::r) θ =
    .ok (.nx,.val (.scr ns)::.val (.int b)::a2::a3::a4::a5::a6::a7::.val (.int (ZaM ns b))::.val (itp (ZfR ns b))::r) θ:=by
  have sz:=Zju ns b
  have f1:D.tup [.int 255]=itp [255]:=rfl
  unfold ZfR
  by_cases c:mix ns (b+27) % 5=0
  · simp [Zfx,c,f1,Zqi,show ZaM ns b<1000 by omega,show ZaM ns b≤1000 by omega,sz.1]
  · simp [Zfx,c]
theorem Ztl (ns:List Int) (b:Int) (θ:Sto):Zhg [.scr ns,.int b] θ=.ok (ZeE ns b).d θ:=by
  have sz:=Zju ns b
  have g:=ZaZ (a:=[0,1,15,16,7]) (i:=mix ns (b+9) % 5) (θ:=θ) (by omega) (by simp; omega)
  have cp:=fun ρ (h0:ρ[0]?=some (Sl.val (D.scr ns))) (h1:ρ[1]?=some (Sl.val (D.int b))) (h2:ρ[8]?=some (Sl.val (D.int (ZaM ns b))))=>ZgQ (ρ:=ρ) (θ:=θ) (fi:=ZcW (Zc (Zd 8) Zk)) (src:=[0,1])
    (elt:=mOp zD (mOp Zdt (mCB zP (Zc (Zd 1) (Zc (mOp ZK (mOp ZK (Zd 2) (mC (.int 10))) (Zd 0)) Zk))) (mC (.int 7))) (mC (.int 256))) (lo:=0) (n:=(ZaM ns b).toNat) (θ':=θ) (fun k=>.int (mix ns (b+10+k)/7 % 256))
    (by simp [h2]; omega) (by simp; omega) (by intro i hi; simp [h0,h1])
  have e:(fun (i:Nat)=>D.int (mix ns (b+10+(0+(i:Int)))/7 % 256))=D.int∘fun (i:Nat)=>mix ns (b+10+(i:Int))/7 % 256:=by
    funext i
    simp
  simp [Zhg,ZnK,Zml,Zmk,g,Zmj]
  rw [cp _ rfl rfl rfl]
  rw [show (List.range (ZaM ns b).toNat).map (fun (i:Nat)=>D.int (mix ns (b+10+(0+(i:Int)))/7 % 256))=((List.range (ZaM ns b).toNat).map fun (i:Nat)=>mix ns (b+10+(i:Int))/7 % 256).map D.int by rw [e,List.map_map]]
  simp only [ZwY]
  simp [Zmm,ZeE,Seg.d]
end
end My
namespace My
open PySem L2 L2.MM
noncomputable section
def ZfI:SM:=(ZJ ["Pile"] "row" (Zd 0) (Zb5 Zk))
def Zb0:GM:=ZR 1 1 ZfI
def Zip:SM:=(ZO (mOp ZeS (mC (.int 64)) (mCB Zes (Zc (ZM ["Pile"] "row" (Zd 0)) Zk))))
def Zel:GM:=ZR 1 1 Zip
def Zl7:SM:=(ZO (mOp zD (mOp ZK (Zd 0) (Zd 1)) (mC (.int 4294967296))))
def zv:GM:=ZR 2 2 Zl7
def Zir:SM:=(ZO (mOp ZeS (mOp zD (mOp ZK (mOp ZeS (Zd 0) (Zd 1)) (mC (.int 2147483648))) (mC (.int 4294967296))) (mC (.int 2147483648))))
def zG:GM:=ZR 2 2 Zir
def ZeA:SM:=(Zq (ZJ ["End"] "ours" (Zd 0) (Zd 1))
  (Zq (ZJ ["End"] "theirs" (Zd 0) (Zd 2))
  (Zq (ZJ ["End"] "state" (Zd 0) (Zgh (Zae (Zd 4)) (mC (.str "syn sent")) (mC (.str "listen"))))
  (Zq (ZJ ["End"] "error" (Zd 0) (mC (.str "")))
  (Zq (ZJ ["End"] "first" (Zd 0) (Zd 3))
  (Zq (ZJ ["End"] "una" (Zd 0) (Zd 3))
  (Zq (ZJ ["End"] "nxt" (Zd 0) (Zd 3))
  (Zq (ZJ ["End"] "rcv" (Zd 0) (mC (.int 0)))
  (Zq (ZJ ["End"] "wnd" (Zd 0) (mC (.int 0)))
  (Zq (ZJ ["End"] "told" (Zd 0) (mC (.int 0)))
  (Zq (ZJ ["End"] "told_by" (Zd 0) (mC (.int 0)))
  (Zq (ZJ ["End"] "most" (Zd 0) (mC (.int 12)))
  (Zq (ZJ ["End"] "written" (Zd 0) (mCB (mkG "Pile" Zb0) Zk))
  (Zq (ZJ ["End"] "come" (Zd 0) (mCB (mkG "Pile" Zb0) Zk))
  (Zq (ZJ ["End"] "early" (Zd 0) ZmE)
  (Zq (ZJ ["End"] "early_fin" (Zd 0) (mC .non))
  (Zq (ZJ ["End"] "has_closed" (Zd 0) (mC (.bl false)))
  (Zq (ZJ ["End"] "behind" (Zd 0) (mCB zv (Zc (Zd 3) (Zc (mC (.int 1)) Zk))))
  (Zq (ZJ ["End"] "owed_reset" (Zd 0) (mC .non))
  (Zq (ZJ ["End"] "owes_syn" (Zd 0) (mC (.bl false)))
  (Zq (ZJ ["End"] "owes_answer" (Zd 0) (mC (.bl false)))
  (Zq (ZJ ["End"] "probes" (Zd 0) (mC (.bl false)))
  (Zq (ZJ ["End"] "since" (Zd 0) (mC (.int 0)))
  (Zq (ZJ ["End"] "wait" (Zd 0) (mC (.int 1000)))
  (ZJ ["End"] "tries" (Zd 0) (mC (.int 0)))))))))))))))))))))))))))
def Zcp:GM:=ZR 5 5 ZeA
def ZeL:SM:=(Zq (ZJ ["End"] "since" (Zd 0) (Zd 1))
  (Zq (ZJ ["End"] "wait" (Zd 0) (mC (.int 1000)))
  (ZJ ["End"] "tries" (Zd 0) (mC (.int 0)))))
def zc:GM:=ZR 2 2 ZeL
def Zjj:SM:=(ZO (ZM ["End"] "state" (Zd 0)))
def Zcw:GM:=ZR 1 1 Zjj
def Zjk:SM:=(ZO (ZM ["End"] "error" (Zd 0)))
def Zdv:GM:=ZR 1 1 Zjk
def Zfd:SM:=(ZO (mCB Zel (Zc (ZM ["End"] "come" (Zd 0)) Zk)))
def zU:GM:=ZR 1 1 Zfd
def Zd5:SM:=(ZO (mCB ZlH (Zc (ZM ["End"] "most" (Zd 0)) (Zc (mC (.int 16)) Zk))))
def Zao:GM:=ZR 1 1 Zd5
def Zfb:SM:=(mIf (ZI (mOp eqM (ZM ["End"] "state" (Zd 0)) (mC (.str "syn sent")))) (ZO (Zak (Zc (ZM ["End"] "ours" (Zd 0)) (Zc (ZM ["End"] "theirs" (Zd 0)) (Zc (ZM ["End"] "first" (Zd 0)) (Zc (mC (.int 0)) (Zc (mC (.int 2)) (Zc (mC (.int 64)) (Zc (mC (.int 16)) (Zc (Zak Zk) Zk)))))))))) ZN)
def Zgs:SM:=(Zq (ZJ ["End"] "owes_syn" (Zd 0) (mC (.bl false)))
  (Zq Zfb
  (ZO (Zak (Zc (ZM ["End"] "ours" (Zd 0)) (Zc (ZM ["End"] "theirs" (Zd 0)) (Zc (ZM ["End"] "first" (Zd 0)) (Zc (ZM ["End"] "rcv" (Zd 0)) (Zc (mOp ZK (mC (.int 2)) (mC (.int 16))) (Zc (mC (.int 64)) (Zc (mC (.int 16)) (Zc (Zak Zk) Zk))))))))))))
def ZbR:GM:=ZR 1 1 Zgs
def Ze9:SM:=(ZO (Zak (Zc (ZM ["End"] "ours" (Zd 0)) (Zc (ZM ["End"] "theirs" (Zd 0)) (Zc (Zd 1) (Zc (ZM ["End"] "rcv" (Zd 0)) (Zc (mOp ZK (Zd 2) (mC (.int 16))) (Zc (mCB zU (Zc (Zd 0) Zk)) (Zc (mC (.int 0)) (Zc (mCB ZfK (Zc (Zd 3) Zk)) Zk))))))))))
def zF:GM:=ZR 4 4 Ze9
def ZcJ:SM:=(mIf (ZI (mOp eqM (ZM ["End"] "tries" (Zd 0)) (mC (.int 6)))) (Zq (ZJ ["End"] "state" (Zd 0) (mC (.str "closed")))
    (Zq (ZJ ["End"] "error" (Zd 0) (mC (.str "time")))
    (ZO (mC .non)))) ZN)
def ZdF:SM:=(mIf (ZI (mOp inM (ZM ["End"] "state" (Zd 0)) (Zak (Zc (mC (.str "syn sent")) (Zc (mC (.str "syn come")) Zk))))) (ZO (mCB ZbR (Zc (Zd 0) Zk))) ZN)
def Zea:SM:=(Zq ZcJ
  (Zq (ZJ ["End"] "tries" (Zd 0) (mOp ZK (ZM ["End"] "tries" (Zd 0)) (mC (.int 1))))
  (Zq (ZJ ["End"] "wait" (Zd 0) (mCB ZlH (Zc (mOp Zba (mC (.int 2)) (ZM ["End"] "wait" (Zd 0))) (Zc (mC (.int 16000)) Zk))))
  (Zq (ZJ ["End"] "since" (Zd 0) (Zd 1))
  (Zq ZdF
  (Zq (ZP 2 (mSl (ZM ["Pile"] "row" (ZM ["End"] "written" (Zd 0))) zh (zO (mCB ZlH (Zc (mCB zG (Zc (ZM ["End"] "nxt" (Zd 0)) (Zc (ZM ["End"] "una" (Zd 0)) Zk))) (Zc (mCB Zao (Zc (Zd 0) Zk)) Zk))))))
  (ZO (mCB zF (Zc (Zd 0) (Zc (ZM ["End"] "una" (Zd 0)) (Zc (Zgh (ZI (mOp gtM (mCB Zes (Zc (Zd 2) Zk)) (mC (.int 0)))) (mC (.int 0)) (mC (.int 1))) (Zc (Zd 2) Zk))))))))))))
def Zdw:GM:=ZR 2 3 Zea
def Zbd:SM:=(mIf (Zeq (Zae (ZM ["End"] "owes_answer" (Zd 0)))) (ZO (mC .non)) ZN)
def ZbF:SM:=(Zq Zbd
  (Zq (ZJ ["End"] "owes_answer" (Zd 0) (mC (.bl false)))
  (ZO (mCB zF (Zc (Zd 0) (Zc (ZM ["End"] "nxt" (Zd 0)) (Zc (mC (.int 0)) (Zc (Zb5 Zk) Zk))))))))
def Zab:GM:=ZR 1 1 ZbF
def Zil:SM:=(ZO (mCB zG (Zc (ZM ["End"] "behind" (Zd 0)) (Zc (ZM ["End"] "nxt" (Zd 0)) Zk))))
def ZbH:GM:=ZR 1 1 Zil
def Zd8:SM:=(ZO (ZcG (mOp inM (ZM ["End"] "state" (Zd 0)) (Zak (Zc (mC (.str "open")) (Zc (mC (.str "wait one")) (Zc (mC (.str "close wait")) (Zc (mC (.str "closing")) (Zc (mC (.str "last ack")) Zk))))))) (mOp gtM (mCB ZbH (Zc (Zd 0) Zk)) (mC (.int 0)))))
def Zaq:GM:=ZR 1 1 Zd8
def ZeM:SM:=(ZO (ZcG (mOp inM (ZM ["End"] "state" (Zd 0)) (Zak (Zc (mC (.str "wait one")) (Zc (mC (.str "closing")) (Zc (mC (.str "last ack")) Zk))))) (mOp eqM (mCB ZbH (Zc (Zd 0) Zk)) (mC (.int 0)))))
def ZbI:GM:=ZR 1 1 ZeM
def Zgv:SM:=(ZO (ZlL (mCB Zaq (Zc (Zd 0) Zk)) (mCB ZbI (Zc (Zd 0) Zk))))
def ZbT:GM:=ZR 1 1 Zgv
def Zew:SM:=(Zq (ZP 2 (ZM ["End"] "nxt" (Zd 0)))
  (Zq (ZP 3 (mCB ZlH (Zc (mCB Zao (Zc (Zd 0) Zk)) (Zc (mCB ZbH (Zc (Zd 0) Zk)) (Zc (Zd 1) Zk)))))
  (Zq (ZP 4 (mCB zG (Zc (Zd 2) (Zc (ZM ["End"] "una" (Zd 0)) Zk))))
  (Zq (ZJ ["End"] "nxt" (Zd 0) (mCB zv (Zc (Zd 2) (Zc (Zd 3) Zk))))
  (ZO (mCB zF (Zc (Zd 0) (Zc (Zd 2) (Zc (Zgh (ZI (mOp eqM (mCB ZbH (Zc (Zd 0) Zk)) (mC (.int 0)))) (mC (.int 8)) (mC (.int 0))) (Zc (mSl (ZM ["Pile"] "row" (ZM ["End"] "written" (Zd 0))) (zO (Zd 4)) (zO (mOp ZK (Zd 4) (Zd 3)))) Zk))))))))))
def Zcm:GM:=ZR 2 5 Zew
def Zhk:SM:=(Zq (ZP 1 (ZM ["End"] "nxt" (Zd 0)))
  (Zq (ZJ ["End"] "nxt" (Zd 0) (mCB zv (Zc (Zd 1) (Zc (mC (.int 1)) Zk))))
  (ZO (mCB zF (Zc (Zd 0) (Zc (Zd 1) (Zc (mC (.int 1)) (Zc (Zb5 Zk) Zk))))))))
def ZdV:GM:=ZR 1 2 Zhk
def ZdK:SM:=(Zq (ZJ ["End"] "probes" (Zd 0) (mC (.bl false)))
  (ZO (Zgh (Zae (mCB Zaq (Zc (Zd 0) Zk))) (mCB Zcm (Zc (Zd 0) (Zc (Zd 1) Zk))) (mCB ZdV (Zc (Zd 0) Zk)))))
def ZaX:GM:=ZR 2 2 ZdK
def ZdJ:SM:=(mIf (ZI (mOp eqM (ZM ["End"] "nxt" (Zd 0)) (ZM ["End"] "una" (Zd 0)))) (zS (mCB zc (Zc (Zd 0) (Zc (Zd 1) Zk)))) ZN)
def Zfe:SM:=(Zq ZdJ
  (Zq (ZJ ["End"] "nxt" (Zd 0) (mCB zv (Zc (ZM ["End"] "first" (Zd 0)) (Zc (mC (.int 1)) Zk))))
  (ZO (mCB ZbR (Zc (Zd 0) Zk)))))
def Zc6:GM:=ZR 2 2 Zfe
def zy:SM:=(mIf (ZI (mOp inM (ZM ["End"] "state" (Zd 0)) (Zak (Zc (mC (.str "syn sent")) (Zc (mC (.str "syn come")) Zk))))) (ZO (Zgh (mOr (ZI (mOp eqM (ZM ["End"] "nxt" (Zd 0)) (ZM ["End"] "first" (Zd 0)))) (Zae (ZM ["End"] "owes_syn" (Zd 0)))) (mCB Zc6 (Zc (Zd 0) (Zc (Zd 1) Zk))) (mC .non))) ZN)
def Zat:SM:=(mIf (mOr (ZI (mOp leM (Zd 2) (mC (.int 0)))) (Zeq (Zae (mCB ZbT (Zc (Zd 0) Zk))))) (ZO (mC .non)) ZN)
def ZbV:SM:=(mIf (ZI (mOp eqM (ZM ["End"] "nxt" (Zd 0)) (ZM ["End"] "una" (Zd 0)))) (zS (mCB zc (Zc (Zd 0) (Zc (Zd 1) Zk)))) ZN)
def zR:SM:=(Zq zy
  (Zq (ZP 2 (mOp ZeS (ZM ["End"] "wnd" (Zd 0)) (mCB zG (Zc (ZM ["End"] "nxt" (Zd 0)) (Zc (ZM ["End"] "una" (Zd 0)) Zk)))))
  (Zq Zat
  (Zq ZbV
  (Zq (ZJ ["End"] "owes_answer" (Zd 0) (mC (.bl false)))
  (ZO (mCB ZaX (Zc (Zd 0) (Zc (Zd 2) Zk)))))))))
def za:GM:=ZR 2 3 zR
def Ziu:SM:=(ZO (mOp geM (mOp ZeS (Zd 1) (ZM ["End"] "since" (Zd 0))) (ZM ["End"] "wait" (Zd 0))))
def Zde:GM:=ZR 2 2 Ziu
def zk:SM:=(mIf (mOr (ZI (mOp neM (ZM ["End"] "nxt" (Zd 0)) (ZM ["End"] "una" (Zd 0)))) (mOr (ZI (mOp neM (ZM ["End"] "wnd" (Zd 0)) (mC (.int 0)))) (Zeq (Zae (mCB ZbT (Zc (Zd 0) Zk)))))) (Zq (ZJ ["End"] "probes" (Zd 0) (mC (.bl false)))
    (ZO (mC .non))) ZN)
def ZaE:SM:=(mIf (Zeq (Zae (ZM ["End"] "probes" (Zd 0)))) (Zq (ZJ ["End"] "probes" (Zd 0) (mC (.bl true)))
    (zS (mCB zc (Zc (Zd 0) (Zc (Zd 1) Zk))))) ZN)
def ZaD:SM:=(mIf (Zeq (Zae (mCB Zde (Zc (Zd 0) (Zc (Zd 1) Zk))))) (ZO (mC .non)) ZN)
def zx:SM:=(Zq zk
  (Zq ZaE
  (Zq ZaD
  (Zq (ZJ ["End"] "since" (Zd 0) (Zd 1))
  (ZO (mCB ZaX (Zc (Zd 0) (Zc (mC (.int 1)) Zk))))))))
def zd:GM:=ZR 2 2 zx
def Zfc:SM:=(Zq (ZP 1 (ZM ["End"] "owed_reset" (Zd 0)))
  (Zq (ZJ ["End"] "owed_reset" (Zd 0) (mC .non))
  (ZO (Zd 1))))
def ZcZ:GM:=ZR 1 2 Zfc
def ZdC:SM:=(mIf (ZI (mOp ZgT (ZM ["End"] "owed_reset" (Zd 0)) (mC .non))) (ZO (mCB ZcZ (Zc (Zd 0) Zk))) ZN)
def Zfi:SM:=(mIf (ZfA (ZI (mOp eqM (ZM ["End"] "state" (Zd 0)) (mC (.str "time wait")))) (ZI (mOp geM (mOp ZeS (Zd 1) (ZM ["End"] "since" (Zd 0))) (mC (.int 120000))))) (ZJ ["End"] "state" (Zd 0) (mC (.str "closed"))) ZN)
def Zb4:SM:=(mIf (ZI (mOp inM (ZM ["End"] "state" (Zd 0)) (Zak (Zc (mC (.str "closed")) (Zc (mC (.str "listen")) Zk))))) (ZO (mC .non)) ZN)
def ZcI:SM:=(mIf (ZfA (ZI (mOp neM (ZM ["End"] "nxt" (Zd 0)) (ZM ["End"] "una" (Zd 0)))) (Zae (mCB Zde (Zc (Zd 0) (Zc (Zd 1) Zk))))) (ZO (mCB Zdw (Zc (Zd 0) (Zc (Zd 1) Zk)))) ZN)
def Zb3:SM:=(mIf (ZI (mOp isM (Zd 2) (mC .non))) (ZP 2 (mCB zd (Zc (Zd 0) (Zc (Zd 1) Zk)))) ZN)
def Zb2:SM:=(mIf (ZI (mOp isM (Zd 2) (mC .non))) (ZP 2 (mCB Zab (Zc (Zd 0) Zk))) ZN)
def Zfw:SM:=(Zq ZdC
  (Zq Zfi
  (Zq Zb4
  (Zq ZcI
  (Zq (ZP 2 (mCB za (Zc (Zd 0) (Zc (Zd 1) Zk))))
  (Zq Zb3
  (Zq Zb2
  (ZO (Zd 2)))))))))
def Zem:GM:=ZR 2 3 Zfw
def Zio:SM:=(Zq (ZP 2 (mCB Zem (Zc (Zd 0) (Zc (Zd 1) Zk))))
  (ZO (Zgh (ZI (mOp isM (Zd 2) (mC .non))) (Zb5 Zk) (mCB Zlx (Zc (Zd 2) Zk)))))
def ZcN:GM:=ZR 2 3 Zio
def Ziq:SM:=(ZO (mCB (mkG "End" Zcp) (Zc (Zd 0) (Zc (Zd 1) (Zc (Zd 2) (Zc (Zd 3) Zk))))))
def ZcC:GM:=ZR 4 4 Ziq
end
end My
namespace My
open PySem L2 L2.MM
noncomputable section
inductive State where
  | closed | listen | synSent | synCome | opn | waitOne | waitTwo | closeWait | closing | lastAck | timeWait
  deriving DecidableEq
def State.s:State→Str
  | .closed=>"closed" | .listen=>"listen" | .synSent=>"syn sent" | .synCome=>"syn come" | .opn=>"open" | .waitOne=>"wait one" | .waitTwo=>"wait two" | .closeWait=>"close wait" | .closing=>"closing" | .lastAck=>"last ack" | .timeWait=>"time wait"
inductive Err where
  | none | refused | reset | time
  deriving DecidableEq
def Err.s:Err→Str
  | .none=>"" | .refused=>"refused" | .reset=>"reset" | .time=>"time"
structure Zu where
  ours:Int
  theirs:Int
  state:State
  error:Err
  first:Int
  una:Int
  nxt:Int
  rcv:Int
  wnd:Int
  told:Int
  told_by:Int
  most:Int
  written:List Int
  come:List Int
  early:List (Int×Int)
  early_fin:Option Int
  has_closed:Bool
  behind:Int
  owed_reset:Option Seg
  owes_syn:Bool
  owes_answer:Bool
  probes:Bool
  since:Int
  wait:Int
  tries:Int
def Zgn:Option Int→D
  | none=>.non
  | some i=>.int i
def Zbi:Option Seg→D
  | none=>.non
  | some s=>s.d
def fields (l:Nat) (e:Zu):List (Str×D):=[("ours",.int e.ours),("theirs",.int e.theirs),("state",.str e.state.s),("error",.str e.error.s),("first",.int e.first),("una",.int e.una),("nxt",.int e.nxt),("rcv",.int e.rcv),("wnd",.int e.wnd),("told",.int e.told),("told_by",.int e.told_by),("most",.int e.most),("written",.ref (l+1)),("come",.ref (l+2)),("early",.ref (l+3)),("early_fin",Zgn e.early_fin),("has_closed",.bl e.has_closed),("behind",.int e.behind),("owed_reset",Zbi e.owed_reset),("owes_syn",.bl e.owes_syn),("owes_answer",.bl e.owes_answer),("probes",.bl e.probes),("since",.int e.since),("wait",.int e.wait),("tries",.int e.tries)]
def c0 (l:Nat) (e:Zu):Cell:=.ins "End" (fields l e)
def c1 (e:Zu):Cell:=.ins "Pile" [("row",il e.written)]
def c2 (e:Zu):Cell:=.ins "Pile" [("row",il e.come)]
def c3 (e:Zu):Cell:=.dK (e.early.map fun p=>(Sum.inl p.1,D.int p.2))
def upE (θ:Sto) (l:Nat) (e:Zu):Sto:=(((θ.set l (c0 l e)).set (l+1) (c1 e)).set (l+2) (c2 e)).set (l+3) (c3 e)
@[simp] theorem Zhy (θ:Sto) (l:Nat) (e:Zu):(upE θ l e).length=θ.length:=by simp [upE]
theorem at0 {θ:Sto} {l:Nat} (h:l+3 < θ.length) (e:Zu):(upE θ l e)[l]?=some (c0 l e):=by
  unfold upE
  rw [List.getElem?_set_ne (by omega),List.getElem?_set_ne (by omega),List.getElem?_set_ne (by omega),List.getElem?_set_self (by omega)]
theorem at1 {θ:Sto} {l:Nat} (h:l+3 < θ.length) (e:Zu):(upE θ l e)[l+1]?=some (c1 e):=by
  unfold upE
  rw [List.getElem?_set_ne (by omega),List.getElem?_set_ne (by omega),List.getElem?_set_self (by simp; omega)]
theorem Zw4 {θ:Sto} {l:Nat} (h:l+3 < θ.length) (e:Zu):(upE θ l e)[l+2]?=some (c2 e):=by
  unfold upE
  rw [List.getElem?_set_ne (by omega),List.getElem?_set_self (by simp; omega)]
theorem Zei {θ:Sto} {l:Nat} (h:l+3 < θ.length) (e e':Zu) (h1:e'.written=e.written) (h2:e'.come=e.come) (h3:e'.early=e.early):(upE θ l e).set l (c0 l e')=upE θ l e':=by
  unfold upE
  rw [show c1 e'=c1 e by unfold c1; rw [h1],show c2 e'=c2 e by unfold c2; rw [h2],show c3 e'=c3 e by unfold c3; rw [h3]]
  apply List.ext_getElem?
  intro i
  simp only [List.getElem?_set,List.length_set]
  by_cases h3:l=i
  · subst h3; simp
  · simp [h3]
theorem Zaz {θ:Sto} {l:Nat} (h:l+3 < θ.length) (e:Zu):Ze4 (upE θ l e) (.ref l)=some (l,("End":Str),fields l e):=by
  show (match (upE θ l e)[l]? with | some (Cell.ins C fs)=>some (l,C,fs) | _=>none)=_
  rw [at0 h]
  rfl
theorem ce:(["End"]:List Str).contains "End"=true:=by decide +kernel
theorem cp:(["Pile"]:List Str).contains "Pile"=true:=by decide +kernel
@[simp] theorem ZAo {θ:Sto} {l:Nat} (h:l+3 < θ.length) (e:Zu):zK ["End"] "ours" (.ref l) (upE θ l e)=.ok (.int e.ours) (upE θ l e):=by
  unfold zK
  rw [Zaz h]
  simp only [ce,if_true]
  rw [show (fields l e).lookup ("ours":Str)=some (.int e.ours) by with_unfolding_all rfl]
@[simp] theorem ZwQ {θ:Sto} {l:Nat} (h:l+3 < θ.length) (e:Zu):zK ["End"] "theirs" (.ref l) (upE θ l e)=.ok (.int e.theirs) (upE θ l e):=by
  unfold zK
  rw [Zaz h]
  simp only [ce,if_true]
  rw [show (fields l e).lookup ("theirs":Str)=some (.int e.theirs) by with_unfolding_all rfl]
@[simp] theorem Zxv {θ:Sto} {l:Nat} (h:l+3 < θ.length) (e:Zu):zK ["End"] "state" (.ref l) (upE θ l e)=.ok (.str e.state.s) (upE θ l e):=by
  unfold zK
  rw [Zaz h]
  simp only [ce,if_true]
  rw [show (fields l e).lookup ("state":Str)=some (.str e.state.s) by with_unfolding_all rfl]
@[simp] theorem Zxy {θ:Sto} {l:Nat} (h:l+3 < θ.length) (e:Zu):zK ["End"] "error" (.ref l) (upE θ l e)=.ok (.str e.error.s) (upE θ l e):=by
  unfold zK
  rw [Zaz h]
  simp only [ce,if_true]
  rw [show (fields l e).lookup ("error":Str)=some (.str e.error.s) by with_unfolding_all rfl]
@[simp] theorem Zxx {θ:Sto} {l:Nat} (h:l+3 < θ.length) (e:Zu):zK ["End"] "first" (.ref l) (upE θ l e)=.ok (.int e.first) (upE θ l e):=by
  unfold zK
  rw [Zaz h]
  simp only [ce,if_true]
  rw [show (fields l e).lookup ("first":Str)=some (.int e.first) by with_unfolding_all rfl]
@[simp] theorem ZA7 {θ:Sto} {l:Nat} (h:l+3 < θ.length) (e:Zu):zK ["End"] "una" (.ref l) (upE θ l e)=.ok (.int e.una) (upE θ l e):=by
  unfold zK
  rw [Zaz h]
  simp only [ce,if_true]
  rw [show (fields l e).lookup ("una":Str)=some (.int e.una) by with_unfolding_all rfl]
@[simp] theorem ZA9 {θ:Sto} {l:Nat} (h:l+3 < θ.length) (e:Zu):zK ["End"] "nxt" (.ref l) (upE θ l e)=.ok (.int e.nxt) (upE θ l e):=by
  unfold zK
  rw [Zaz h]
  simp only [ce,if_true]
  rw [show (fields l e).lookup ("nxt":Str)=some (.int e.nxt) by with_unfolding_all rfl]
@[simp] theorem ZA8 {θ:Sto} {l:Nat} (h:l+3 < θ.length) (e:Zu):zK ["End"] "rcv" (.ref l) (upE θ l e)=.ok (.int e.rcv) (upE θ l e):=by
  unfold zK
  rw [Zaz h]
  simp only [ce,if_true]
  rw [show (fields l e).lookup ("rcv":Str)=some (.int e.rcv) by with_unfolding_all rfl]
@[simp] theorem ZA6 {θ:Sto} {l:Nat} (h:l+3 < θ.length) (e:Zu):zK ["End"] "wnd" (.ref l) (upE θ l e)=.ok (.int e.wnd) (upE θ l e):=by
  unfold zK
  rw [Zaz h]
  simp only [ce,if_true]
  rw [show (fields l e).lookup ("wnd":Str)=some (.int e.wnd) by with_unfolding_all rfl]
@[simp] theorem ZAl {θ:Sto} {l:Nat} (h:l+3 < θ.length) (e:Zu):zK ["End"] "told" (.ref l) (upE θ l e)=.ok (.int e.told) (upE θ l e):=by
  unfold zK
  rw [Zaz h]
  simp only [ce,if_true]
  rw [show (fields l e).lookup ("told":Str)=some (.int e.told) by with_unfolding_all rfl]
@[simp] theorem ZvE {θ:Sto} {l:Nat} (h:l+3 < θ.length) (e:Zu):zK ["End"] "told_by" (.ref l) (upE θ l e)=.ok (.int e.told_by) (upE θ l e):=by
  unfold zK
  rw [Zaz h]
  simp only [ce,if_true]
  rw [show (fields l e).lookup ("told_by":Str)=some (.int e.told_by) by with_unfolding_all rfl]
@[simp] theorem ZAp {θ:Sto} {l:Nat} (h:l+3 < θ.length) (e:Zu):zK ["End"] "most" (.ref l) (upE θ l e)=.ok (.int e.most) (upE θ l e):=by
  unfold zK
  rw [Zaz h]
  simp only [ce,if_true]
  rw [show (fields l e).lookup ("most":Str)=some (.int e.most) by with_unfolding_all rfl]
@[simp] theorem ZvD {θ:Sto} {l:Nat} (h:l+3 < θ.length) (e:Zu):zK ["End"] "written" (.ref l) (upE θ l e)=.ok (.ref (l+1)) (upE θ l e):=by
  unfold zK
  rw [Zaz h]
  simp only [ce,if_true]
  rw [show (fields l e).lookup ("written":Str)=some (.ref (l+1)) by with_unfolding_all rfl]
@[simp] theorem ZAq {θ:Sto} {l:Nat} (h:l+3 < θ.length) (e:Zu):zK ["End"] "come" (.ref l) (upE θ l e)=.ok (.ref (l+2)) (upE θ l e):=by
  unfold zK
  rw [Zaz h]
  simp only [ce,if_true]
  rw [show (fields l e).lookup ("come":Str)=some (.ref (l+2)) by with_unfolding_all rfl]
@[simp] theorem Zxz {θ:Sto} {l:Nat} (h:l+3 < θ.length) (e:Zu):zK ["End"] "early" (.ref l) (upE θ l e)=.ok (.ref (l+3)) (upE θ l e):=by
  unfold zK
  rw [Zaz h]
  simp only [ce,if_true]
  rw [show (fields l e).lookup ("early":Str)=some (.ref (l+3)) by with_unfolding_all rfl]
@[simp] theorem ZtC {θ:Sto} {l:Nat} (h:l+3 < θ.length) (e:Zu):zK ["End"] "early_fin" (.ref l) (upE θ l e)=.ok (Zgn e.early_fin) (upE θ l e):=by
  unfold zK
  rw [Zaz h]
  simp only [ce,if_true]
  rw [show (fields l e).lookup ("early_fin":Str)=some (Zgn e.early_fin) by with_unfolding_all rfl]
@[simp] theorem ZsX {θ:Sto} {l:Nat} (h:l+3 < θ.length) (e:Zu):zK ["End"] "has_closed" (.ref l) (upE θ l e)=.ok (.bl e.has_closed) (upE θ l e):=by
  unfold zK
  rw [Zaz h]
  simp only [ce,if_true]
  rw [show (fields l e).lookup ("has_closed":Str)=some (.bl e.has_closed) by with_unfolding_all rfl]
@[simp] theorem ZwS {θ:Sto} {l:Nat} (h:l+3 < θ.length) (e:Zu):zK ["End"] "behind" (.ref l) (upE θ l e)=.ok (.int e.behind) (upE θ l e):=by
  unfold zK
  rw [Zaz h]
  simp only [ce,if_true]
  rw [show (fields l e).lookup ("behind":Str)=some (.int e.behind) by with_unfolding_all rfl]
@[simp] theorem ZsW {θ:Sto} {l:Nat} (h:l+3 < θ.length) (e:Zu):zK ["End"] "owed_reset" (.ref l) (upE θ l e)=.ok (Zbi e.owed_reset) (upE θ l e):=by
  unfold zK
  rw [Zaz h]
  simp only [ce,if_true]
  rw [show (fields l e).lookup ("owed_reset":Str)=some (Zbi e.owed_reset) by with_unfolding_all rfl]
@[simp] theorem Zu7 {θ:Sto} {l:Nat} (h:l+3 < θ.length) (e:Zu):zK ["End"] "owes_syn" (.ref l) (upE θ l e)=.ok (.bl e.owes_syn) (upE θ l e):=by
  unfold zK
  rw [Zaz h]
  simp only [ce,if_true]
  rw [show (fields l e).lookup ("owes_syn":Str)=some (.bl e.owes_syn) by with_unfolding_all rfl]
@[simp] theorem ZrW {θ:Sto} {l:Nat} (h:l+3 < θ.length) (e:Zu):zK ["End"] "owes_answer" (.ref l) (upE θ l e)=.ok (.bl e.owes_answer) (upE θ l e):=by
  unfold zK
  rw [Zaz h]
  simp only [ce,if_true]
  rw [show (fields l e).lookup ("owes_answer":Str)=some (.bl e.owes_answer) by with_unfolding_all rfl]
@[simp] theorem ZwR {θ:Sto} {l:Nat} (h:l+3 < θ.length) (e:Zu):zK ["End"] "probes" (.ref l) (upE θ l e)=.ok (.bl e.probes) (upE θ l e):=by
  unfold zK
  rw [Zaz h]
  simp only [ce,if_true]
  rw [show (fields l e).lookup ("probes":Str)=some (.bl e.probes) by with_unfolding_all rfl]
@[simp] theorem Zxw {θ:Sto} {l:Nat} (h:l+3 < θ.length) (e:Zu):zK ["End"] "since" (.ref l) (upE θ l e)=.ok (.int e.since) (upE θ l e):=by
  unfold zK
  rw [Zaz h]
  simp only [ce,if_true]
  rw [show (fields l e).lookup ("since":Str)=some (.int e.since) by with_unfolding_all rfl]
@[simp] theorem ZAk {θ:Sto} {l:Nat} (h:l+3 < θ.length) (e:Zu):zK ["End"] "wait" (.ref l) (upE θ l e)=.ok (.int e.wait) (upE θ l e):=by
  unfold zK
  rw [Zaz h]
  simp only [ce,if_true]
  rw [show (fields l e).lookup ("wait":Str)=some (.int e.wait) by with_unfolding_all rfl]
@[simp] theorem Zxu {θ:Sto} {l:Nat} (h:l+3 < θ.length) (e:Zu):zK ["End"] "tries" (.ref l) (upE θ l e)=.ok (.int e.tries) (upE θ l e):=by
  unfold zK
  rw [Zaz h]
  simp only [ce,if_true]
  rw [show (fields l e).lookup ("tries":Str)=some (.int e.tries) by with_unfolding_all rfl]
@[simp] theorem Zwb {θ:Sto} {l:Nat} (h:l+3 < θ.length) (e:Zu) (v:Int):zg ["End"] "theirs" (.int v) (.ref l) (upE θ l e)=some (upE θ l { e with theirs:=v }):=by
  unfold zg
  rw [Zaz h]
  simp only [ce]
  rw [if_pos ⟨trivial,show 25<1000 by decide⟩,show ZaL ("theirs":Str) (.int v) (fields l e)=fields l { e with theirs:=v } by with_unfolding_all rfl]
  exact congrArg some (Zei h e { e with theirs:=v } rfl rfl rfl)
@[simp] theorem Zxm {θ:Sto} {l:Nat} (h:l+3 < θ.length) (e:Zu) (v:State):zg ["End"] "state" (.str v.s) (.ref l) (upE θ l e)=some (upE θ l { e with state:=v }):=by
  unfold zg
  rw [Zaz h]
  simp only [ce]
  rw [if_pos ⟨trivial,show 25<1000 by decide⟩,show ZaL ("state":Str) (.str v.s) (fields l e)=fields l { e with state:=v } by with_unfolding_all rfl]
  exact congrArg some (Zei h e { e with state:=v } rfl rfl rfl)
@[simp] theorem Zxo {θ:Sto} {l:Nat} (h:l+3 < θ.length) (e:Zu) (v:Err):zg ["End"] "error" (.str v.s) (.ref l) (upE θ l e)=some (upE θ l { e with error:=v }):=by
  unfold zg
  rw [Zaz h]
  simp only [ce]
  rw [if_pos ⟨trivial,show 25<1000 by decide⟩,show ZaL ("error":Str) (.str v.s) (fields l e)=fields l { e with error:=v } by with_unfolding_all rfl]
  exact congrArg some (Zei h e { e with error:=v } rfl rfl rfl)
@[simp] theorem ZAX {θ:Sto} {l:Nat} (h:l+3 < θ.length) (e:Zu) (v:Int):zg ["End"] "una" (.int v) (.ref l) (upE θ l e)=some (upE θ l { e with una:=v }):=by
  unfold zg
  rw [Zaz h]
  simp only [ce]
  rw [if_pos ⟨trivial,show 25<1000 by decide⟩,show ZaL ("una":Str) (.int v) (fields l e)=fields l { e with una:=v } by with_unfolding_all rfl]
  exact congrArg some (Zei h e { e with una:=v } rfl rfl rfl)
@[simp] theorem ZAZ {θ:Sto} {l:Nat} (h:l+3 < θ.length) (e:Zu) (v:Int):zg ["End"] "nxt" (.int v) (.ref l) (upE θ l e)=some (upE θ l { e with nxt:=v }):=by
  unfold zg
  rw [Zaz h]
  simp only [ce]
  rw [if_pos ⟨trivial,show 25<1000 by decide⟩,show ZaL ("nxt":Str) (.int v) (fields l e)=fields l { e with nxt:=v } by with_unfolding_all rfl]
  exact congrArg some (Zei h e { e with nxt:=v } rfl rfl rfl)
@[simp] theorem ZAY {θ:Sto} {l:Nat} (h:l+3 < θ.length) (e:Zu) (v:Int):zg ["End"] "rcv" (.int v) (.ref l) (upE θ l e)=some (upE θ l { e with rcv:=v }):=by
  unfold zg
  rw [Zaz h]
  simp only [ce]
  rw [if_pos ⟨trivial,show 25<1000 by decide⟩,show ZaL ("rcv":Str) (.int v) (fields l e)=fields l { e with rcv:=v } by with_unfolding_all rfl]
  exact congrArg some (Zei h e { e with rcv:=v } rfl rfl rfl)
@[simp] theorem ZAW {θ:Sto} {l:Nat} (h:l+3 < θ.length) (e:Zu) (v:Int):zg ["End"] "wnd" (.int v) (.ref l) (upE θ l e)=some (upE θ l { e with wnd:=v }):=by
  unfold zg
  rw [Zaz h]
  simp only [ce]
  rw [if_pos ⟨trivial,show 25<1000 by decide⟩,show ZaL ("wnd":Str) (.int v) (fields l e)=fields l { e with wnd:=v } by with_unfolding_all rfl]
  exact congrArg some (Zei h e { e with wnd:=v } rfl rfl rfl)
@[simp] theorem ZzX {θ:Sto} {l:Nat} (h:l+3 < θ.length) (e:Zu) (v:Int):zg ["End"] "told" (.int v) (.ref l) (upE θ l e)=some (upE θ l { e with told:=v }):=by
  unfold zg
  rw [Zaz h]
  simp only [ce]
  rw [if_pos ⟨trivial,show 25<1000 by decide⟩,show ZaL ("told":Str) (.int v) (fields l e)=fields l { e with told:=v } by with_unfolding_all rfl]
  exact congrArg some (Zei h e { e with told:=v } rfl rfl rfl)
@[simp] theorem Zvv {θ:Sto} {l:Nat} (h:l+3 < θ.length) (e:Zu) (v:Int):zg ["End"] "told_by" (.int v) (.ref l) (upE θ l e)=some (upE θ l { e with told_by:=v }):=by
  unfold zg
  rw [Zaz h]
  simp only [ce]
  rw [if_pos ⟨trivial,show 25<1000 by decide⟩,show ZaL ("told_by":Str) (.int v) (fields l e)=fields l { e with told_by:=v } by with_unfolding_all rfl]
  exact congrArg some (Zei h e { e with told_by:=v } rfl rfl rfl)
@[simp] theorem Zz0 {θ:Sto} {l:Nat} (h:l+3 < θ.length) (e:Zu) (v:Int):zg ["End"] "most" (.int v) (.ref l) (upE θ l e)=some (upE θ l { e with most:=v }):=by
  unfold zg
  rw [Zaz h]
  simp only [ce]
  rw [if_pos ⟨trivial,show 25<1000 by decide⟩,show ZaL ("most":Str) (.int v) (fields l e)=fields l { e with most:=v } by with_unfolding_all rfl]
  exact congrArg some (Zei h e { e with most:=v } rfl rfl rfl)
@[simp] theorem Zlr {θ:Sto} {l:Nat} (h:l+3 < θ.length) (e:Zu) (v:Option Int):zg ["End"] "early_fin" (Zgn v) (.ref l) (upE θ l e)=some (upE θ l { e with early_fin:=v }):=by
  unfold zg
  rw [Zaz h]
  simp only [ce]
  rw [if_pos ⟨trivial,show 25<1000 by decide⟩,show ZaL ("early_fin":Str) (Zgn v) (fields l e)=fields l { e with early_fin:=v } by with_unfolding_all rfl]
  exact congrArg some (Zei h e { e with early_fin:=v } rfl rfl rfl)
@[simp] theorem Zwd {θ:Sto} {l:Nat} (h:l+3 < θ.length) (e:Zu) (v:Int):zg ["End"] "behind" (.int v) (.ref l) (upE θ l e)=some (upE θ l { e with behind:=v }):=by
  unfold zg
  rw [Zaz h]
  simp only [ce]
  rw [if_pos ⟨trivial,show 25<1000 by decide⟩,show ZaL ("behind":Str) (.int v) (fields l e)=fields l { e with behind:=v } by with_unfolding_all rfl]
  exact congrArg some (Zei h e { e with behind:=v } rfl rfl rfl)
@[simp] theorem Zf1 {θ:Sto} {l:Nat} (h:l+3 < θ.length) (e:Zu) (v:Option Seg):zg ["End"] "owed_reset" (Zbi v) (.ref l) (upE θ l e)=some (upE θ l { e with owed_reset:=v }):=by
  unfold zg
  rw [Zaz h]
  simp only [ce]
  rw [if_pos ⟨trivial,show 25<1000 by decide⟩,show ZaL ("owed_reset":Str) (Zbi v) (fields l e)=fields l { e with owed_reset:=v } by with_unfolding_all rfl]
  exact congrArg some (Zei h e { e with owed_reset:=v } rfl rfl rfl)
@[simp] theorem Zuj {θ:Sto} {l:Nat} (h:l+3 < θ.length) (e:Zu) (v:Bool):zg ["End"] "owes_syn" (.bl v) (.ref l) (upE θ l e)=some (upE θ l { e with owes_syn:=v }):=by
  unfold zg
  rw [Zaz h]
  simp only [ce]
  rw [if_pos ⟨trivial,show 25<1000 by decide⟩,show ZaL ("owes_syn":Str) (.bl v) (fields l e)=fields l { e with owes_syn:=v } by with_unfolding_all rfl]
  exact congrArg some (Zei h e { e with owes_syn:=v } rfl rfl rfl)
@[simp] theorem ZrV {θ:Sto} {l:Nat} (h:l+3 < θ.length) (e:Zu) (v:Bool):zg ["End"] "owes_answer" (.bl v) (.ref l) (upE θ l e)=some (upE θ l { e with owes_answer:=v }):=by
  unfold zg
  rw [Zaz h]
  simp only [ce]
  rw [if_pos ⟨trivial,show 25<1000 by decide⟩,show ZaL ("owes_answer":Str) (.bl v) (fields l e)=fields l { e with owes_answer:=v } by with_unfolding_all rfl]
  exact congrArg some (Zei h e { e with owes_answer:=v } rfl rfl rfl)
@[simp] theorem Zwc {θ:Sto} {l:Nat} (h:l+3 < θ.length) (e:Zu) (v:Bool):zg ["End"] "probes" (.bl v) (.ref l) (upE θ l e)=some (upE θ l { e with probes:=v }):=by
  unfold zg
  rw [Zaz h]
  simp only [ce]
  rw [if_pos ⟨trivial,show 25<1000 by decide⟩,show ZaL ("probes":Str) (.bl v) (fields l e)=fields l { e with probes:=v } by with_unfolding_all rfl]
  exact congrArg some (Zei h e { e with probes:=v } rfl rfl rfl)
@[simp] theorem Zxn {θ:Sto} {l:Nat} (h:l+3 < θ.length) (e:Zu) (v:Int):zg ["End"] "since" (.int v) (.ref l) (upE θ l e)=some (upE θ l { e with since:=v }):=by
  unfold zg
  rw [Zaz h]
  simp only [ce]
  rw [if_pos ⟨trivial,show 25<1000 by decide⟩,show ZaL ("since":Str) (.int v) (fields l e)=fields l { e with since:=v } by with_unfolding_all rfl]
  exact congrArg some (Zei h e { e with since:=v } rfl rfl rfl)
@[simp] theorem ZzW {θ:Sto} {l:Nat} (h:l+3 < θ.length) (e:Zu) (v:Int):zg ["End"] "wait" (.int v) (.ref l) (upE θ l e)=some (upE θ l { e with wait:=v }):=by
  unfold zg
  rw [Zaz h]
  simp only [ce]
  rw [if_pos ⟨trivial,show 25<1000 by decide⟩,show ZaL ("wait":Str) (.int v) (fields l e)=fields l { e with wait:=v } by with_unfolding_all rfl]
  exact congrArg some (Zei h e { e with wait:=v } rfl rfl rfl)
@[simp] theorem Zxl {θ:Sto} {l:Nat} (h:l+3 < θ.length) (e:Zu) (v:Int):zg ["End"] "tries" (.int v) (.ref l) (upE θ l e)=some (upE θ l { e with tries:=v }):=by
  unfold zg
  rw [Zaz h]
  simp only [ce]
  rw [if_pos ⟨trivial,show 25<1000 by decide⟩,show ZaL ("tries":Str) (.int v) (fields l e)=fields l { e with tries:=v } by with_unfolding_all rfl]
  exact congrArg some (Zei h e { e with tries:=v } rfl rfl rfl)
section
variable {θ:Sto} {l:Nat}
@[simp] theorem ZAm (h:l+3 < θ.length) (e:Zu):zK ["Pile"] "row" (.ref (l+1)) (upE θ l e)=.ok (il e.written) (upE θ l e):=by
  have:Ze4 (upE θ l e) (.ref (l+1))=some (l+1,("Pile":Str),[(("row":Str),il e.written)]):=by
    show (match (upE θ l e)[l+1]? with | some (Cell.ins C fs)=>some (l+1,C,fs) | _=>none)=_
    rw [at1 h]
    rfl
  unfold zK
  rw [this]
  simp only [cp,if_true]
  rw [show ([("row",il e.written)]:List (Str×D)).lookup ("row":Str)=some (il e.written) by with_unfolding_all rfl]
@[simp] theorem ZAn (h:l+3 < θ.length) (e:Zu):zK ["Pile"] "row" (.ref (l+2)) (upE θ l e)=.ok (il e.come) (upE θ l e):=by
  have:Ze4 (upE θ l e) (.ref (l+2))=some (l+2,("Pile":Str),[(("row":Str),il e.come)]):=by
    show (match (upE θ l e)[l+2]? with | some (Cell.ins C fs)=>some (l+2,C,fs) | _=>none)=_
    rw [Zw4 h]
    rfl
  unfold zK
  rw [this]
  simp only [cp,if_true]
  rw [show ([("row",il e.come)]:List (Str×D)).lookup ("row":Str)=some (il e.come) by with_unfolding_all rfl]
@[simp] theorem ZzY (h:l+3 < θ.length) (e:Zu) (r:List Int):zg ["Pile"] "row" (il r) (.ref (l+1)) (upE θ l e)=some (upE θ l { e with written:=r }):=by
  have:Ze4 (upE θ l e) (.ref (l+1))=some (l+1,("Pile":Str),[(("row":Str),il e.written)]):=by
    show (match (upE θ l e)[l+1]? with | some (Cell.ins C fs)=>some (l+1,C,fs) | _=>none)=_
    rw [at1 h]
    rfl
  unfold zg
  rw [this]
  simp only [cp]
  rw [if_pos ⟨trivial,show 1<1000 by decide⟩,show ZaL ("row":Str) (il r) [("row",il e.written)]=[(("row":Str),il r)] by with_unfolding_all rfl]
  congr 1
  unfold upE
  apply List.ext_getElem?
  intro i
  simp only [List.getElem?_set,List.length_set]
  by_cases q:l+1=i
  · subst q; simp [c1]
  · simp [q,c0,c2,c3,fields]
@[simp] theorem ZzZ (h:l+3 < θ.length) (e:Zu) (r:List Int):zg ["Pile"] "row" (il r) (.ref (l+2)) (upE θ l e)=some (upE θ l { e with come:=r }):=by
  have:Ze4 (upE θ l e) (.ref (l+2))=some (l+2,("Pile":Str),[(("row":Str),il e.come)]):=by
    show (match (upE θ l e)[l+2]? with | some (Cell.ins C fs)=>some (l+2,C,fs) | _=>none)=_
    rw [Zw4 h]
    rfl
  unfold zg
  rw [this]
  simp only [cp]
  rw [if_pos ⟨trivial,show 1<1000 by decide⟩,show ZaL ("row":Str) (il r) [("row",il e.come)]=[(("row":Str),il r)] by with_unfolding_all rfl]
  congr 1
  unfold upE
  apply List.ext_getElem?
  intro i
  simp only [List.getElem?_set,List.length_set]
  by_cases q:l+2=i
  · subst q; simp [c2]
  · simp [q,c0,c1,c3,fields]
end
@[simp] theorem ZvU:("closed":Str)=State.closed.s:=nr rfl
@[simp] theorem ZvT:("listen":Str)=State.listen.s:=nr rfl
@[simp] theorem Zvn:("syn sent":Str)=State.synSent.s:=nr rfl
@[simp] theorem Zvo:("syn come":Str)=State.synCome.s:=nr rfl
@[simp] theorem ZzC:("open":Str)=State.opn.s:=nr rfl
@[simp] theorem Zvm:("wait one":Str)=State.waitOne.s:=nr rfl
@[simp] theorem Zvl:("wait two":Str)=State.waitTwo.s:=nr rfl
@[simp] theorem Ztb:("close wait":Str)=State.closeWait.s:=nr rfl
@[simp] theorem Zvr:("closing":Str)=State.closing.s:=nr rfl
@[simp] theorem Zvq:("last ack":Str)=State.lastAck.s:=nr rfl
@[simp] theorem ZtT:("time wait":Str)=State.timeWait.s:=nr rfl
@[simp] theorem ZzD:("":Str)=Err.none.s:=nr rfl
@[simp] theorem Zvp:("refused":Str)=Err.refused.s:=nr rfl
@[simp] theorem Zxf:("reset":Str)=Err.reset.s:=nr rfl
@[simp] theorem ZzB:("time":Str)=Err.time.s:=nr rfl
theorem State.inj:∀a b:State,a.s=b.s↔a=b:=by
  intro a b
  constructor
  · intro h
    cases a<;>cases b<;>first | rfl | (exact absurd h (by decide +kernel))
  · intro h; rw [h]
theorem Err.inj:∀a b:Err,a.s=b.s↔a=b:=by
  intro a b
  constructor
  · intro h
    cases a<;>cases b<;>first | rfl | (exact absurd h (by decide +kernel))
  · intro h; rw [h]
theorem Zqs (k:Nat) (x:Str):pl k (.str x)=PyData.strOk x:=by cases k<;>simp [pl]
theorem State.ok (a:State) (k:Nat):pl k (.str a.s)=true:=by
  rw [Zqs]
  cases a<;>decide +kernel
theorem Err.ok (a:Err) (k:Nat):pl k (.str a.s)=true:=by
  rw [Zqs]
  cases a<;>decide +kernel
section
variable {θ:Sto}
@[simp] theorem ZwZ (a b:State):eqM (.str a.s) (.str b.s) θ=.ok (.bl (decide (a=b))) θ:=by
  rw [Zig (x:=.str a.s) (y:=.str b.s) (Zdk (State.ok a 9) (State.ok b 9) rfl rfl)]
  simp [State.inj]
@[simp] theorem ZwG (a b:State):neM (.str a.s) (.str b.s) θ=.ok (.bl (!decide (a=b))) θ:=by
  rw [ZfL (x:=.str a.s) (y:=.str b.s) (Zdk (State.ok a 9) (State.ok b 9) rfl rfl)]
  simp [State.inj]
@[simp] theorem ZAv (a b:Err):eqM (.str a.s) (.str b.s) θ=.ok (.bl (decide (a=b))) θ:=by
  rw [Zig (x:=.str a.s) (y:=.str b.s) (Zdk (Err.ok a 9) (Err.ok b 9) rfl rfl)]
  simp [Err.inj]
@[simp] theorem Zz8 (a b:Err):neM (.str a.s) (.str b.s) θ=.ok (.bl (!decide (a=b))) θ:=by
  rw [ZfL (x:=.str a.s) (y:=.str b.s) (Zdk (Err.ok a 9) (Err.ok b 9) rfl rfl)]
  simp [Err.inj]
theorem ZfN (a:State):∀bs:List State,ZiA (bs.map fun b=>D.str b.s)=true∧memS a.s (bs.map fun b=>D.str b.s)=decide (a∈bs)
  | []=>⟨rfl,by simp [memS]⟩
  | b::bs=>by
    obtain ⟨h1,h2⟩:=ZfN a bs
    refine ⟨h1,?_⟩
    rw [List.map_cons]
    show (decide (b.s=a.s) || memS a.s (bs.map fun b=>D.str b.s))=_
    rw [h2,Bool.eq_iff_iff]
    simp only [Bool.or_eq_true,decide_eq_true_eq,List.mem_cons,State.inj]
    constructor
    · rintro (h | h)
      · exact .inl h.symm
      · exact .inr h
    · rintro (h | h)
      · exact .inl h.symm
      · exact .inr h
theorem ZgU (a:State) (bs:List State):inM (.str a.s) (.tup (bs.map fun b=>.str b.s)) θ=.ok (.bl (decide (a∈bs))) θ:=by
  obtain ⟨h1,h2⟩:=ZfN a bs
  have e:inD θ (.str a.s) (.tup (bs.map fun b=>D.str b.s))=some (decide (a∈bs)):=by
    unfold inD
    simp only [Zg9]
    rw [if_pos h1,h2]
  unfold inM
  rw [e]
theorem Zgc (a:State) (bs:List State):Zcq (.str a.s) (.tup (bs.map fun b=>.str b.s)) θ=.ok (.bl (!decide (a∈bs))) θ:=by
  obtain ⟨h1,h2⟩:=ZfN a bs
  have e:inD θ (.str a.s) (.tup (bs.map fun b=>D.str b.s))=some (decide (a∈bs)):=by
    unfold inD
    simp only [Zg9]
    rw [if_pos h1,h2]
  unfold Zcq
  rw [e]
@[simp] theorem ZA3 (a b c:State):inM (.str a.s) (.tup [.str b.s,.str c.s]) θ=.ok (.bl (decide (a∈[b,c]))) θ:=ZgU a [b,c]
@[simp] theorem ZA2 (a b c d:State):inM (.str a.s) (.tup [.str b.s,.str c.s,.str d.s]) θ=.ok (.bl (decide (a∈[b,c,d]))) θ:=ZgU a [b,c,d]
@[simp] theorem ZA1 (a b c d e f:State):inM (.str a.s) (.tup [.str b.s,.str c.s,.str d.s,.str e.s,.str f.s]) θ=.ok (.bl (decide (a∈[b,c,d,e,f]))) θ:=ZgU a [b,c,d,e,f]
@[simp] theorem ZwF (a b c d:State):Zcq (.str a.s) (.tup [.str b.s,.str c.s,.str d.s]) θ=.ok (.bl (!decide (a∈[b,c,d]))) θ:=Zgc a [b,c,d]
@[simp] theorem ZwE (a b c d e:State):Zcq (.str a.s) (.tup [.str b.s,.str c.s,.str d.s,.str e.s]) θ=.ok (.bl (!decide (a∈[b,c,d,e]))) θ:=Zgc a [b,c,d,e]
end
end
end My
namespace My
open PySem L2 L2.MM
noncomputable section
def ZF (n k:Int):Int:=(n+k) % 4294967296
def zr (n b:Int):Int:=(n-b+2147483648) % 4294967296-2147483648
def ZV (e:Zu) (now:Int):Zu:={ e with since:=now,wait:=1000,tries:=0 }
def ZX (e:Zu):Int:=64-(e.come.length:Int)
def Z7 (e:Zu):Int:=if 16<e.most then 16 else e.most
def Zd1 (e:Zu) (now:Int):Bool:=decide (e.wait≤now-e.since)
def ZdR (e:Zu) (n f:Int) (data:List Int):Seg:=⟨e.ours,e.theirs,n,e.rcv,f+16,ZX e,0,data⟩
def Zek (e:Zu):Seg:=if e.state=.synSent then ⟨e.ours,e.theirs,e.first,0,2,64,16,[]⟩ else ⟨e.ours,e.theirs,e.first,e.rcv,18,64,16,[]⟩
def mn (i j:Int):Int:=if j<i then j else i
def ZbC (e:Zu):List Int:=Zaw e.written none (some (mn (zr e.nxt e.una) (Z7 e)))
def again (e:Zu) (now:Int):Option Seg×Zu:=
  if e.tries=6 then (none,{ e with state:=.closed,error:=.time })
  else
    let e1:={ e with tries:=e.tries+1,wait:=mn (2*e.wait) 16000,since:=now }
    if e.state=.synSent∨e.state=.synCome then (some (Zek e1),{ e1 with owes_syn:=false })
    else (some (ZdR e1 e.una (if 0<(ZbC e).length then 0 else 1) (ZbC e)),e1)
def ZbD (e:Zu):Int:=zr e.behind e.nxt
def Za0 (e:Zu):Bool:=decide (e.state∈[State.opn,.waitOne,.closeWait,.closing,.lastAck]) && decide (0<ZbD e)
def hasNewFin (e:Zu):Bool:=decide (e.state∈[State.waitOne,.closing,.lastAck]) && decide (ZbD e=0)
def ZaP (e:Zu):Bool:=Za0 e || hasNewFin e
section
variable {θ:Sto} {l:Nat} {e:Zu} {now n k:Int}
@[simp] theorem ZzE:zv [.int n,.int k] θ=.ok (.int (ZF n k)) θ:=by simp [zv,Zl7,ZF]
@[simp] theorem ZvY:zG [.int n,.int k] θ=.ok (.int (zr n k)) θ:=by simp [zG,Zir,zr]
@[simp] theorem ZrQ (h:l+3 < θ.length):zc [.ref l,.int now] (upE θ l e)=.ok .non (upE θ l (ZV e now)):=by
  simp [zc,ZeL,h,ZV]
@[simp] theorem Zjr (h:l+3 < θ.length):Zcw [.ref l] (upE θ l e)=.ok (.str e.state.s) (upE θ l e):=by
  simp [Zcw,Zjj,h]
@[simp] theorem Zm2 (h:l+3 < θ.length):Zdv [.ref l] (upE θ l e)=.ok (.str e.error.s) (upE θ l e):=by
  simp [Zdv,Zjk,h]
@[simp] theorem Zxh (h:l+3 < θ.length):Zel [.ref (l+2)] (upE θ l e)=.ok (.int (ZX e)) (upE θ l e):=by
  simp [Zel,Zip,h,ZX]
@[simp] theorem Zr2 (h:l+3 < θ.length):zU [.ref l] (upE θ l e)=.ok (.int (ZX e)) (upE θ l e):=by
  simp [zU,Zfd,h]
@[simp] theorem Zp6 (h:l+3 < θ.length):Zao [.ref l] (upE θ l e)=.ok (.int (Z7 e)) (upE θ l e):=by
  simp [Zao,Zd5,h,Z7]
@[simp] theorem Zv1 (h:l+3 < θ.length):Zde [.ref l,.int now] (upE θ l e)=.ok (.bl (Zd1 e now)) (upE θ l e):=by
  simp [Zde,Ziu,h,Zd1]
theorem Zv9 (a b c d f g i:Int) (x:List Int):D.tup [.int a,.int b,.int c,.int d,.int f,.int g,.int i,itp x]=(Seg.mk a b c d f g i x).d:=rfl
theorem Zjw (a b c d f g i:Int):D.tup [.int a,.int b,.int c,.int d,.int f,.int g,.int i,.tup []]=(Seg.mk a b c d f g i []).d:=rfl
@[simp] theorem Zt0 (h:l+3 < θ.length):ZbR [.ref l] (upE θ l e)=.ok (Zek e).d (upE θ l { e with owes_syn:=false }):=by
  by_cases c:e.state=.synSent<;>simp [ZbR,Zgs,Zfb,h,Zek,c,Zjw]
@[simp] theorem Zr1 {f:Int} {data:List Int} (h:l+3 < θ.length):zF [.ref l,.int n,.int f,il data] (upE θ l e)=.ok (ZdR e n f data).d (upE θ l e):=by
  simp [zF,Ze9,h,ZdR,Zv9]
theorem Zr9 (h:l+3 < θ.length):Zdw [.ref l,.int now] (upE θ l e)=.ok (Zbi (again e now).1) (upE θ l (again e now).2):=by
  by_cases c:e.tries=6
  · simp [Zdw,Zea,ZcJ,h,again,c,Zbi]
  · by_cases c2:e.state=.synSent∨e.state=.synCome
    · simp [Zdw,Zea,ZcJ,ZdF,h,again,c,c2,Zbi,ZdN,mn]
    · have am:∀e':Zu,e'.most=e.most→Z7 e'=Z7 e:=fun e' h=>by unfold Z7; rw [h]
      have ad:ZbC e=Zaw e.written none (some (mn (zr e.nxt e.una) (Z7 e))):=rfl
      have sl:∀e':Zu,e'.written=e.written→ZcM (upE θ l e') (il e'.written) none (some (if Z7 e<zr e.nxt e.una then Z7 e else zr e.nxt e.una))=some (il (ZbC e)):=fun e' h'=>by
        rw [ZlT,h']; rfl
      unfold again
      rw [if_neg c,if_neg c2]
      have c2':¬(e.state=State.synSent∨e.state=State.synCome):=c2
      by_cases c3:0<(ZbC e).length
      · rw [if_pos c3]
        have c3':(0:Int)<(ZbC e).length:=by omega
        simp [Zdw,Zea,ZcJ,ZdF,h,c,c2',ZdN,mn,am,sl,c3,c3',Zbi,-ZlT,ZdR,ZX]
      · rw [if_neg c3]
        have c3':¬(0:Int)<(ZbC e).length:=by omega
        simp [Zdw,Zea,ZcJ,ZdF,h,c,c2',ZdN,mn,am,sl,c3,c3',Zbi,-ZlT,ZdR,ZX]
@[simp] theorem ZvW (h:l+3 < θ.length):ZbH [.ref l] (upE θ l e)=.ok (.int (ZbD e)) (upE θ l e):=by
  simp [ZbH,Zil,h,ZbD]
@[simp] theorem Zp8 (h:l+3 < θ.length):Zaq [.ref l] (upE θ l e)=.ok (.bl (Za0 e)) (upE θ l e):=by
  simp [Zaq,Zd8,h,Za0]
@[simp] theorem ZrS (h:l+3 < θ.length):ZbI [.ref l] (upE θ l e)=.ok (.bl (hasNewFin e)) (upE θ l e):=by
  simp [ZbI,ZeM,h,hasNewFin]
@[simp] theorem Zt9 (h:l+3 < θ.length):ZbT [.ref l] (upE θ l e)=.ok (.bl (ZaP e)) (upE θ l e):=by
  simp [ZbT,Zgv,h,ZaP]
end
def mn3 (i j k:Int):Int:=if j<i then (if k<j then k else j) else (if k<i then k else i)
def Zcx (e:Zu) (room:Int):Int:=mn3 (Z7 e) (ZbD e) room
def Zdx (e:Zu) (room:Int):Seg×Zu:=
  let e1:={ e with nxt:=ZF e.nxt (Zcx e room) }
  (ZdR e1 e.nxt (if ZbD e1=0 then 8 else 0) (Zaw e.written (some (zr e.nxt e.una)) (some (zr e.nxt e.una+Zcx e room))),e1)
def ZgL (e:Zu):Seg×Zu:=(ZdR e e.nxt 1 [],{ e with nxt:=ZF e.nxt 1 })
def Zbm (e:Zu) (room:Int):Seg×Zu:=if Za0 e=true then Zdx { e with probes:=false } room else ZgL { e with probes:=false }
def Ze0 (e:Zu) (now:Int):Seg×Zu:=
  let e1:=if e.nxt=e.una then ZV e now else e
  (Zek { e1 with nxt:=ZF e.first 1 },{ e1 with nxt:=ZF e.first 1,owes_syn:=false })
def goingAsNew (e:Zu) (now:Int):Option Seg×Zu:=
  if e.state=.synSent∨e.state=.synCome then
    if e.nxt=e.first∨e.owes_syn=true then (some (Ze0 e now).1,(Ze0 e now).2) else (none,e)
  else
    if e.wnd-zr e.nxt e.una≤0∨ZaP e=false then (none,e)
    else
      let e1:=if e.nxt=e.una then ZV e now else e
      (some (Zbm { e1 with owes_answer:=false } (e.wnd-zr e.nxt e.una)).1,(Zbm { e1 with owes_answer:=false } (e.wnd-zr e.nxt e.una)).2)
def goingAsProbe (e:Zu) (now:Int):Option Seg×Zu:=
  if ¬e.nxt=e.una∨¬e.wnd=0∨ZaP e=false then (none,{ e with probes:=false })
  else
    let e1:=if e.probes=true then e else ZV { e with probes:=true } now
    if Zd1 e1 now=true then (some (Zbm { e1 with since:=now } 1).1,(Zbm { e1 with since:=now } 1).2) else (none,e1)
def Zai (e:Zu):Option Seg×Zu:=if e.owes_answer=true then (some (ZdR e e.nxt 0 []),{ e with owes_answer:=false }) else (none,e)
def Zcb (e:Zu) (now:Int):Option Seg×Zu:=
  match goingAsNew e now with
  | (some s,e1)=>(some s,e1)
  | (none,e1)=>match goingAsProbe e1 now with
    | (some s,e2)=>(some s,e2)
    | (none,e2)=>Zai e2
def going (e:Zu) (now:Int):Option Seg×Zu:=
  match e.owed_reset with
  | some s=>(some s,{ e with owed_reset:=none })
  | none=>
    let e1:=if e.state=.timeWait∧120000≤now-e.since then { e with state:=.closed } else e
    if e1.state=.closed∨e1.state=.listen then (none,e1)
    else if ¬e1.nxt=e1.una∧Zd1 e1 now=true then again e1 now
    else Zcb e1 now
section
variable {θ:Sto} {l:Nat} {e:Zu} {now n k:Int}
@[simp] theorem Zt1 {r:Int} (h:l+3 < θ.length):Zcm [.ref l,.int r] (upE θ l e)=.ok (Zdx e r).1.d (upE θ l (Zdx e r).2):=by
  have em:(if ZbD e<Z7 e then (if r<ZbD e then r else ZbD e) else (if r<Z7 e then r else Z7 e))=Zcx e r:=rfl
  by_cases c:ZbD { e with nxt:=ZF e.nxt (Zcx e r) }=0
  · simp [Zcm,Zew,h,em]
    simp [Zdx,c,ZdR,ZX,h]
  · simp [Zcm,Zew,h,em]
    simp [Zdx,c,ZdR,ZX,h]
@[simp] theorem Zvt (h:l+3 < θ.length):ZdV [.ref l] (upE θ l e)=.ok (ZgL e).1.d (upE θ l (ZgL e).2):=by
  simp [ZdV,Zhk,h,ZgL,ZdR,ZX,Zdj]
@[simp] theorem Zth {r:Int} (h:l+3 < θ.length):ZaX [.ref l,.int r] (upE θ l e)=.ok (Zbm e r).1.d (upE θ l (Zbm e r).2):=by
  have hp:Za0 { e with probes:=false }=Za0 e:=rfl
  by_cases c:Za0 e=true
  · simp [ZaX,ZdK,h,Zbm,c,hp]
  · simp [ZaX,ZdK,h,Zbm,c,hp]
@[simp] theorem Zvs (h:l+3 < θ.length):Zc6 [.ref l,.int now] (upE θ l e)=.ok (Ze0 e now).1.d (upE θ l (Ze0 e now).2):=by
  by_cases c:e.nxt=e.una
  · simp [Zc6,Zfe,ZdJ,h,Ze0,c,ZV]
  · simp [Zc6,Zfe,ZdJ,h,Ze0,c]
theorem Zc9 (h:l+3 < θ.length):za [.ref l,.int now] (upE θ l e)=.ok (Zbi (goingAsNew e now).1) (upE θ l (goingAsNew e now).2):=by
  by_cases c1:e.state=.synSent∨e.state=.synCome
  · by_cases c2:e.nxt=e.first∨e.owes_syn=true
    · simp [za,zR,zy,h,goingAsNew,c1,c2,Zbi]
    · simp [za,zR,zy,h,goingAsNew,c1,c2,Zbi]
  · by_cases c3:e.wnd-zr e.nxt e.una≤0
    · simp [za,zR,zy,Zat,h,goingAsNew,c1,c3,Zbi]
    · by_cases c4:ZaP e=true
      · by_cases c5:e.nxt=e.una
        · have c3':=c3
          rw [c5] at c3'
          simp [za,zR,zy,Zat,ZbV,h,goingAsNew,c1,c3',c4,c5,Zbi,ZV]
        · simp [za,zR,zy,Zat,ZbV,h,goingAsNew,c1,c3,c4,c5,Zbi]
      · simp [za,zR,zy,Zat,h,goingAsNew,c1,c3,c4,Zbi]
theorem ZdP (h:l+3 < θ.length):zd [.ref l,.int now] (upE θ l e)=.ok (Zbi (goingAsProbe e now).1) (upE θ l (goingAsProbe e now).2):=by
  by_cases c1:e.nxt=e.una
  · by_cases c2:e.wnd=0
    · by_cases c3:ZaP e=true
      · by_cases c4:e.probes=true
        · by_cases c5:Zd1 e now=true
          · simp [zd,zx,zk,ZaE,ZaD,h,goingAsProbe,c1,c2,c3,c4,c5,Zbi]
          · simp [zd,zx,zk,ZaE,ZaD,h,goingAsProbe,c1,c2,c3,c4,c5,Zbi]
        · have c5:Zd1 (ZV { e with probes:=true } now) now=false:=by simp [Zd1,ZV]
          simp [zd,zx,zk,ZaE,ZaD,h,goingAsProbe,c1,c2,c3,c4,Zbi] at c5 ⊢
          simp [c5,Zd1,ZV]
      · simp [zd,zx,zk,h,goingAsProbe,c1,c2,c3,Zbi]
    · simp [zd,zx,zk,h,goingAsProbe,c1,c2,Zbi]
  · simp [zd,zx,zk,h,goingAsProbe,c1,Zbi]
theorem ZfZ (h:l+3 < θ.length):Zab [.ref l] (upE θ l e)=.ok (Zbi (Zai e).1) (upE θ l (Zai e).2):=by
  by_cases c:e.owes_answer=true
  · simp [Zab,ZbF,Zbd,h,Zai,c,Zbi,Zdj,ZdR,ZX]
  · simp [Zab,ZbF,Zbd,h,Zai,c,Zbi]
@[simp] theorem Zvx:Zbi none=.non:=rfl
@[simp] theorem Zvw (s:Seg):Zbi (some s)=s.d:=rfl
@[simp] theorem Zxs (s:Seg):Zb1 s.d=false:=rfl
@[simp] theorem ZvB:Zb1 .non=true:=nr rfl
@[simp] theorem Zts (h:l+3 < θ.length) (e:Zu):zg ["End"] "owed_reset" .non (.ref l) (upE θ l e)=some (upE θ l { e with owed_reset:=none }):=Zf1 h e none
@[simp] theorem Ztr (h:l+3 < θ.length) (e:Zu) (s:Seg):zg ["End"] "owed_reset" s.d (.ref l) (upE θ l e)=some (upE θ l { e with owed_reset:=some s }):=Zf1 h e (some s)
theorem ZiO (h:l+3 < θ.length) (x:Sl):ZhP (ZP 2 (mCB za (Zc (Zd 0) (Zc (Zd 1) Zk))) [.val (.ref l),.val (.int now),x] (upE θ l e)) (Zq Zb3 (Zq Zb2 (ZO (Zd 2)))) =
    .ok (.rt (Zbi (Zcb e now).1),[.val (.ref l),.val (.int now),.val (Zbi (Zcb e now).1)]) (upE θ l (Zcb e now).2):=by
  unfold Zcb
  cases c1:goingAsNew e now with
  | mk r1 e1=>
    cases r1 with
    | some s=>simp [h,Zc9,c1,Zb3,Zb2]
    | none=>
      cases c2:goingAsProbe e1 now with
      | mk r2 e2=>
        cases r2 with
        | some s=>simp [h,Zc9,c1,Zb3,Zb2,ZdP,c2]
        | none=>simp [h,Zc9,c1,Zb3,Zb2,ZdP,c2,ZfZ]
theorem Zm1 (h:l+3 < θ.length):Zem [.ref l,.int now] (upE θ l e)=.ok (Zbi (going e now).1) (upE θ l (going e now).2):=by
  cases c0:e.owed_reset with
  | some s=>simp [Zem,Zfw,ZdC,h,going,c0,ZcZ,Zfc]
  | none=>
    have key:∀e1:Zu,(ZhP (Zb4 [.val (.ref l),.val (.int now),.no] (upE θ l e1)) (Zq ZcI (Zq (ZP 2 (mCB za (Zc (Zd 0) (Zc (Zd 1) Zk)))) (Zq Zb3 (Zq Zb2 (ZO (Zd 2))))))).bind (fun p θ=>match p.1 with | .nx=>.ok .non θ | .rt d=>.ok d θ | _=>.bad) =
        .ok (Zbi (if e1.state=.closed∨e1.state=.listen then (none,e1) else if ¬e1.nxt=e1.una∧Zd1 e1 now=true then again e1 now else Zcb e1 now).1) (upE θ l (if e1.state=.closed∨e1.state=.listen then (none,e1) else if ¬e1.nxt=e1.una∧Zd1 e1 now=true then again e1 now else Zcb e1 now).2):=fun e1=>by
      by_cases c1:e1.state=.closed∨e1.state=.listen
      · simp [Zb4,h,c1]
      · by_cases c2:e1.nxt=e1.una
        · have g:=ZiO (e:=e1) (now:=now) h .no
          simp at g
          simp [Zb4,ZcI,h,c1,c2]
          rw [g]
          simp
        · by_cases c3:Zd1 e1 now=true
          · simp [Zb4,ZcI,h,c1,c2,c3,Zr9]
          · have g:=ZiO (e:=e1) (now:=now) h .no
            simp at g
            simp [Zb4,ZcI,h,c1,c2,c3]
            rw [g]
            simp
    by_cases c1:e.state=.timeWait∧120000≤now-e.since
    · have:=key { e with state:=.closed }
      simp [Zem,Zfw,ZdC,Zfi,h,going,c0,c1] at this ⊢
      exact this
    · have:=key e
      simp [Zem,Zfw,ZdC,Zfi,h,going,c0,c1] at this ⊢
      exact this
def Zjv (e:Zu) (now:Int):List Int:=match (going e now).1 with
  | none=>[]
  | some s=>putL s
theorem ZtZ (h:l+3 < θ.length) (hp:∀s,(going e now).1=some s→s.Put):ZcN [.ref l,.int now] (upE θ l e)=.ok (il (Zjv e now)) (upE θ l (going e now).2):=by
  unfold Zjv
  cases c:(going e now).1 with
  | none=>simp [ZcN,Zio,Zm1,h,c,Zdj]
  | some s=>simp [ZcN,Zio,Zm1,h,c,ZvX (hp s c)]
def newEnd (ours theirs first:Int) (active:Bool):Zu:=⟨ours,theirs,if active then .synSent else .listen,.none,first,first,first,0,0,0,0,12,[],[],[],none,false,ZF first 1,none,false,false,false,0,1000,0⟩
def cells (l:Nat) (e:Zu):Sto:=[c0 l e,c1 e,c2 e,c3 e]
theorem Zoj (θ r:Sto) (C:Str) (fs:List (Str×D)):Ze4 (θ++.ins C fs::r) (.ref θ.length)=some (θ.length,C,fs):=by
  show (match (θ++.ins C fs::r)[θ.length]? with | some (Cell.ins C fs)=>some (θ.length,C,fs) | _=>none)=_
  rw [List.getElem?_append_right (Nat.le_refl _),Nat.sub_self]
  rfl
theorem ZiU {f:Str} {y:D}:∀{fs:List (Str×D)},(fs.map Prod.fst).contains f=false→ZaL f y fs=fs++[(f,y)]
  | [],_=>rfl
  | (g,x)::r,h=>by
    rw [List.map_cons,List.contains_cons,Bool.or_eq_false_iff] at h
    have hn:¬g=f:=fun e=>by rw [e,beq_self_eq_true] at h; cases h.1
    unfold ZaL
    rw [if_neg hn,ZiU h.2]
    rfl
theorem Z4 {C f:Str} {y:D} (θ r:Sto) {fs:List (Str×D)} (h0:[C].contains C=true) (h1:(fs.map Prod.fst).contains f=false) (h2:fs.length<1000):zg [C] f y (.ref θ.length) (θ++.ins C fs::r)=some (θ++.ins C (fs++[(f,y)])::r):=by
  unfold zg
  rw [Zoj]
  simp only [h0]
  rw [if_pos ⟨trivial,h2⟩,ZiU h1]
  congr 1
  rw [List.set_append,if_neg (Nat.lt_irrefl _),Nat.sub_self]
  rfl
theorem Znq (S:Sto):mkG "Pile" Zb0 [] S=.ok (.ref S.length) (S++[.ins "Pile" [("row",il [])]]):=by
  have:=Z4 (C:="Pile") (f:="row") (y:=il []) S [] (fs:=[]) (by decide +kernel) rfl (by decide)
  simp [mkG,Zb0,ZfI,Zdj,this]
theorem ZqJ (θ r:Sto) (y:D):zg ["End"] "ours" y (.ref θ.length) (θ++.ins "End" []::r)=some (θ++.ins "End" [("ours",y)]::r):=Z4 θ r ce (by simp only [List.map_cons,List.map_nil]; decide +kernel) (by simp only [List.length_cons,List.length_nil]; decide)
theorem ZlA (θ r:Sto) (x0 y:D):zg ["End"] "theirs" y (.ref θ.length) (θ++.ins "End" [("ours",x0)]::r)=some (θ++.ins "End" [("ours",x0),("theirs",y)]::r):=Z4 θ r ce (by simp only [List.map_cons,List.map_nil]; decide +kernel) (by simp only [List.length_cons,List.length_nil]; decide)
theorem Znj (θ r:Sto) (x0 x1 y:D):zg ["End"] "state" y (.ref θ.length) (θ++.ins "End" [("ours",x0),("theirs",x1)]::r)=some (θ++.ins "End" [("ours",x0),("theirs",x1),("state",y)]::r):=Z4 θ r ce (by simp only [List.map_cons,List.map_nil]; decide +kernel) (by simp only [List.length_cons,List.length_nil]; decide)
theorem Znn (θ r:Sto) (x0 x1 x2 y:D):zg ["End"] "error" y (.ref θ.length) (θ++.ins "End" [("ours",x0),("theirs",x1),("state",x2)]::r)=some (θ++.ins "End" [("ours",x0),("theirs",x1),("state",x2),("error",y)]::r):=Z4 θ r ce (by simp only [List.map_cons,List.map_nil]; decide +kernel) (by simp only [List.length_cons,List.length_nil]; decide)
theorem Znm (θ r:Sto) (x0 x1 x2 x3 y:D):zg ["End"] "first" y (.ref θ.length) (θ++.ins "End" [("ours",x0),("theirs",x1),("state",x2),("error",x3)]::r)=some (θ++.ins "End" [("ours",x0),("theirs",x1),("state",x2),("error",x3),("first",y)]::r):=Z4 θ r ce (by simp only [List.map_cons,List.map_nil]; decide +kernel) (by simp only [List.length_cons,List.length_nil]; decide)
theorem Zty (θ r:Sto) (x0 x1 x2 x3 x4 y:D):zg ["End"] "una" y (.ref θ.length) (θ++.ins "End" [("ours",x0),("theirs",x1),("state",x2),("error",x3),("first",x4)]::r)=some (θ++.ins "End" [("ours",x0),("theirs",x1),("state",x2),("error",x3),("first",x4),("una",y)]::r):=Z4 θ r ce (by simp only [List.map_cons,List.map_nil]; decide +kernel) (by simp only [List.length_cons,List.length_nil]; decide)
theorem ZtA (θ r:Sto) (x0 x1 x2 x3 x4 x5 y:D):zg ["End"] "nxt" y (.ref θ.length) (θ++.ins "End" [("ours",x0),("theirs",x1),("state",x2),("error",x3),("first",x4),("una",x5)]::r)=some (θ++.ins "End" [("ours",x0),("theirs",x1),("state",x2),("error",x3),("first",x4),("una",x5),("nxt",y)]::r):=Z4 θ r ce (by simp only [List.map_cons,List.map_nil]; decide +kernel) (by simp only [List.length_cons,List.length_nil]; decide)
theorem Ztz (θ r:Sto) (x0 x1 x2 x3 x4 x5 x6 y:D):zg ["End"] "rcv" y (.ref θ.length) (θ++.ins "End" [("ours",x0),("theirs",x1),("state",x2),("error",x3),("first",x4),("una",x5),("nxt",x6)]::r)=some (θ++.ins "End" [("ours",x0),("theirs",x1),("state",x2),("error",x3),("first",x4),("una",x5),("nxt",x6),("rcv",y)]::r):=Z4 θ r ce (by simp only [List.map_cons,List.map_nil]; decide +kernel) (by simp only [List.length_cons,List.length_nil]; decide)
theorem Ztx (θ r:Sto) (x0 x1 x2 x3 x4 x5 x6 x7 y:D):zg ["End"] "wnd" y (.ref θ.length) (θ++.ins "End" [("ours",x0),("theirs",x1),("state",x2),("error",x3),("first",x4),("una",x5),("nxt",x6),("rcv",x7)]::r)=some (θ++.ins "End" [("ours",x0),("theirs",x1),("state",x2),("error",x3),("first",x4),("una",x5),("nxt",x6),("rcv",x7),("wnd",y)]::r):=Z4 θ r ce (by simp only [List.map_cons,List.map_nil]; decide +kernel) (by simp only [List.length_cons,List.length_nil]; decide)
theorem ZqI (θ r:Sto) (x0 x1 x2 x3 x4 x5 x6 x7 x8 y:D):zg ["End"] "told" y (.ref θ.length) (θ++.ins "End" [("ours",x0),("theirs",x1),("state",x2),("error",x3),("first",x4),("una",x5),("nxt",x6),("rcv",x7),("wnd",x8)]::r)=some (θ++.ins "End" [("ours",x0),("theirs",x1),("state",x2),("error",x3),("first",x4),("una",x5),("nxt",x6),("rcv",x7),("wnd",x8),("told",y)]::r):=Z4 θ r ce (by simp only [List.map_cons,List.map_nil]; decide +kernel) (by simp only [List.length_cons,List.length_nil]; decide)
theorem Zi1 (θ r:Sto) (x0 x1 x2 x3 x4 x5 x6 x7 x8 x9 y:D):zg ["End"] "told_by" y (.ref θ.length) (θ++.ins "End" [("ours",x0),("theirs",x1),("state",x2),("error",x3),("first",x4),("una",x5),("nxt",x6),("rcv",x7),("wnd",x8),("told",x9)]::r)=some (θ++.ins "End" [("ours",x0),("theirs",x1),("state",x2),("error",x3),("first",x4),("una",x5),("nxt",x6),("rcv",x7),("wnd",x8),("told",x9),("told_by",y)]::r):=Z4 θ r ce (by simp only [List.map_cons,List.map_nil]; decide +kernel) (by simp only [List.length_cons,List.length_nil]; decide)
theorem ZqK (θ r:Sto) (x0 x1 x2 x3 x4 x5 x6 x7 x8 x9 x10 y:D):zg ["End"] "most" y (.ref θ.length) (θ++.ins "End" [("ours",x0),("theirs",x1),("state",x2),("error",x3),("first",x4),("una",x5),("nxt",x6),("rcv",x7),("wnd",x8),("told",x9),("told_by",x10)]::r)=some (θ++.ins "End" [("ours",x0),("theirs",x1),("state",x2),("error",x3),("first",x4),("una",x5),("nxt",x6),("rcv",x7),("wnd",x8),("told",x9),("told_by",x10),("most",y)]::r):=Z4 θ r ce (by simp only [List.map_cons,List.map_nil]; decide +kernel) (by simp only [List.length_cons,List.length_nil]; decide)
theorem Zi0 (θ r:Sto) (x0 x1 x2 x3 x4 x5 x6 x7 x8 x9 x10 x11 y:D):zg ["End"] "written" y (.ref θ.length) (θ++.ins "End" [("ours",x0),("theirs",x1),("state",x2),("error",x3),("first",x4),("una",x5),("nxt",x6),("rcv",x7),("wnd",x8),("told",x9),("told_by",x10),("most",x11)]::r)=some (θ++.ins "End" [("ours",x0),("theirs",x1),("state",x2),("error",x3),("first",x4),("una",x5),("nxt",x6),("rcv",x7),("wnd",x8),("told",x9),("told_by",x10),("most",x11),("written",y)]::r):=Z4 θ r ce (by simp only [List.map_cons,List.map_nil]; decide +kernel) (by simp only [List.length_cons,List.length_nil]; decide)
theorem ZqM (θ r:Sto) (x0 x1 x2 x3 x4 x5 x6 x7 x8 x9 x10 x11 x12 y:D):zg ["End"] "come" y (.ref θ.length) (θ++.ins "End" [("ours",x0),("theirs",x1),("state",x2),("error",x3),("first",x4),("una",x5),("nxt",x6),("rcv",x7),("wnd",x8),("told",x9),("told_by",x10),("most",x11),("written",x12)]::r)=some (θ++.ins "End" [("ours",x0),("theirs",x1),("state",x2),("error",x3),("first",x4),("una",x5),("nxt",x6),("rcv",x7),("wnd",x8),("told",x9),("told_by",x10),("most",x11),("written",x12),("come",y)]::r):=Z4 θ r ce (by simp only [List.map_cons,List.map_nil]; decide +kernel) (by simp only [List.length_cons,List.length_nil]; decide)
theorem Zno (θ r:Sto) (x0 x1 x2 x3 x4 x5 x6 x7 x8 x9 x10 x11 x12 x13 y:D):zg ["End"] "early" y (.ref θ.length) (θ++.ins "End" [("ours",x0),("theirs",x1),("state",x2),("error",x3),("first",x4),("una",x5),("nxt",x6),("rcv",x7),("wnd",x8),("told",x9),("told_by",x10),("most",x11),("written",x12),("come",x13)]::r)=some (θ++.ins "End" [("ours",x0),("theirs",x1),("state",x2),("error",x3),("first",x4),("una",x5),("nxt",x6),("rcv",x7),("wnd",x8),("told",x9),("told_by",x10),("most",x11),("written",x12),("come",x13),("early",y)]::r):=Z4 θ r ce (by simp only [List.map_cons,List.map_nil]; decide +kernel) (by simp only [List.length_cons,List.length_nil]; decide)
theorem Zhb (θ r:Sto) (x0 x1 x2 x3 x4 x5 x6 x7 x8 x9 x10 x11 x12 x13 x14 y:D):zg ["End"] "early_fin" y (.ref θ.length) (θ++.ins "End" [("ours",x0),("theirs",x1),("state",x2),("error",x3),("first",x4),("una",x5),("nxt",x6),("rcv",x7),("wnd",x8),("told",x9),("told_by",x10),("most",x11),("written",x12),("come",x13),("early",x14)]::r)=some (θ++.ins "End" [("ours",x0),("theirs",x1),("state",x2),("error",x3),("first",x4),("una",x5),("nxt",x6),("rcv",x7),("wnd",x8),("told",x9),("told_by",x10),("most",x11),("written",x12),("come",x13),("early",x14),("early_fin",y)]::r):=Z4 θ r ce (by simp only [List.map_cons,List.map_nil]; decide +kernel) (by simp only [List.length_cons,List.length_nil]; decide)
theorem Zf9 (θ r:Sto) (x0 x1 x2 x3 x4 x5 x6 x7 x8 x9 x10 x11 x12 x13 x14 x15 y:D):zg ["End"] "has_closed" y (.ref θ.length) (θ++.ins "End" [("ours",x0),("theirs",x1),("state",x2),("error",x3),("first",x4),("una",x5),("nxt",x6),("rcv",x7),("wnd",x8),("told",x9),("told_by",x10),("most",x11),("written",x12),("come",x13),("early",x14),("early_fin",x15)]::r)=some (θ++.ins "End" [("ours",x0),("theirs",x1),("state",x2),("error",x3),("first",x4),("una",x5),("nxt",x6),("rcv",x7),("wnd",x8),("told",x9),("told_by",x10),("most",x11),("written",x12),("come",x13),("early",x14),("early_fin",x15),("has_closed",y)]::r):=Z4 θ r ce (by simp only [List.map_cons,List.map_nil]; decide +kernel) (by simp only [List.length_cons,List.length_nil]; decide)
theorem ZlD (θ r:Sto) (x0 x1 x2 x3 x4 x5 x6 x7 x8 x9 x10 x11 x12 x13 x14 x15 x16 y:D):zg ["End"] "behind" y (.ref θ.length) (θ++.ins "End" [("ours",x0),("theirs",x1),("state",x2),("error",x3),("first",x4),("una",x5),("nxt",x6),("rcv",x7),("wnd",x8),("told",x9),("told_by",x10),("most",x11),("written",x12),("come",x13),("early",x14),("early_fin",x15),("has_closed",x16)]::r)=some (θ++.ins "End" [("ours",x0),("theirs",x1),("state",x2),("error",x3),("first",x4),("una",x5),("nxt",x6),("rcv",x7),("wnd",x8),("told",x9),("told_by",x10),("most",x11),("written",x12),("come",x13),("early",x14),("early_fin",x15),("has_closed",x16),("behind",y)]::r):=Z4 θ r ce (by simp only [List.map_cons,List.map_nil]; decide +kernel) (by simp only [List.length_cons,List.length_nil]; decide)
theorem Zf8 (θ r:Sto) (x0 x1 x2 x3 x4 x5 x6 x7 x8 x9 x10 x11 x12 x13 x14 x15 x16 x17 y:D):zg ["End"] "owed_reset" y (.ref θ.length) (θ++.ins "End" [("ours",x0),("theirs",x1),("state",x2),("error",x3),("first",x4),("una",x5),("nxt",x6),("rcv",x7),("wnd",x8),("told",x9),("told_by",x10),("most",x11),("written",x12),("come",x13),("early",x14),("early_fin",x15),("has_closed",x16),("behind",x17)]::r)=some (θ++.ins "End" [("ours",x0),("theirs",x1),("state",x2),("error",x3),("first",x4),("una",x5),("nxt",x6),("rcv",x7),("wnd",x8),("told",x9),("told_by",x10),("most",x11),("written",x12),("come",x13),("early",x14),("early_fin",x15),("has_closed",x16),("behind",x17),("owed_reset",y)]::r):=Z4 θ r ce (by simp only [List.map_cons,List.map_nil]; decide +kernel) (by simp only [List.length_cons,List.length_nil]; decide)
theorem Zh0 (θ r:Sto) (x0 x1 x2 x3 x4 x5 x6 x7 x8 x9 x10 x11 x12 x13 x14 x15 x16 x17 x18 y:D):zg ["End"] "owes_syn" y (.ref θ.length) (θ++.ins "End" [("ours",x0),("theirs",x1),("state",x2),("error",x3),("first",x4),("una",x5),("nxt",x6),("rcv",x7),("wnd",x8),("told",x9),("told_by",x10),("most",x11),("written",x12),("come",x13),("early",x14),("early_fin",x15),("has_closed",x16),("behind",x17),("owed_reset",x18)]::r)=some (θ++.ins "End" [("ours",x0),("theirs",x1),("state",x2),("error",x3),("first",x4),("una",x5),("nxt",x6),("rcv",x7),("wnd",x8),("told",x9),("told_by",x10),("most",x11),("written",x12),("come",x13),("early",x14),("early_fin",x15),("has_closed",x16),("behind",x17),("owed_reset",x18),("owes_syn",y)]::r):=Z4 θ r ce (by simp only [List.map_cons,List.map_nil]; decide +kernel) (by simp only [List.length_cons,List.length_nil]; decide)
theorem ZfD (θ r:Sto) (x0 x1 x2 x3 x4 x5 x6 x7 x8 x9 x10 x11 x12 x13 x14 x15 x16 x17 x18 x19 y:D):zg ["End"] "owes_answer" y (.ref θ.length) (θ++.ins "End" [("ours",x0),("theirs",x1),("state",x2),("error",x3),("first",x4),("una",x5),("nxt",x6),("rcv",x7),("wnd",x8),("told",x9),("told_by",x10),("most",x11),("written",x12),("come",x13),("early",x14),("early_fin",x15),("has_closed",x16),("behind",x17),("owed_reset",x18),("owes_syn",x19)]::r)=some (θ++.ins "End" [("ours",x0),("theirs",x1),("state",x2),("error",x3),("first",x4),("una",x5),("nxt",x6),("rcv",x7),("wnd",x8),("told",x9),("told_by",x10),("most",x11),("written",x12),("come",x13),("early",x14),("early_fin",x15),("has_closed",x16),("behind",x17),("owed_reset",x18),("owes_syn",x19),("owes_answer",y)]::r):=Z4 θ r ce (by simp only [List.map_cons,List.map_nil]; decide +kernel) (by simp only [List.length_cons,List.length_nil]; decide)
theorem ZlB (θ r:Sto) (x0 x1 x2 x3 x4 x5 x6 x7 x8 x9 x10 x11 x12 x13 x14 x15 x16 x17 x18 x19 x20 y:D):zg ["End"] "probes" y (.ref θ.length) (θ++.ins "End" [("ours",x0),("theirs",x1),("state",x2),("error",x3),("first",x4),("una",x5),("nxt",x6),("rcv",x7),("wnd",x8),("told",x9),("told_by",x10),("most",x11),("written",x12),("come",x13),("early",x14),("early_fin",x15),("has_closed",x16),("behind",x17),("owed_reset",x18),("owes_syn",x19),("owes_answer",x20)]::r)=some (θ++.ins "End" [("ours",x0),("theirs",x1),("state",x2),("error",x3),("first",x4),("una",x5),("nxt",x6),("rcv",x7),("wnd",x8),("told",x9),("told_by",x10),("most",x11),("written",x12),("come",x13),("early",x14),("early_fin",x15),("has_closed",x16),("behind",x17),("owed_reset",x18),("owes_syn",x19),("owes_answer",x20),("probes",y)]::r):=Z4 θ r ce (by simp only [List.map_cons,List.map_nil]; decide +kernel) (by simp only [List.length_cons,List.length_nil]; decide)
theorem Znk (θ r:Sto) (x0 x1 x2 x3 x4 x5 x6 x7 x8 x9 x10 x11 x12 x13 x14 x15 x16 x17 x18 x19 x20 x21 y:D):zg ["End"] "since" y (.ref θ.length) (θ++.ins "End" [("ours",x0),("theirs",x1),("state",x2),("error",x3),("first",x4),("una",x5),("nxt",x6),("rcv",x7),("wnd",x8),("told",x9),("told_by",x10),("most",x11),("written",x12),("come",x13),("early",x14),("early_fin",x15),("has_closed",x16),("behind",x17),("owed_reset",x18),("owes_syn",x19),("owes_answer",x20),("probes",x21)]::r)=some (θ++.ins "End" [("ours",x0),("theirs",x1),("state",x2),("error",x3),("first",x4),("una",x5),("nxt",x6),("rcv",x7),("wnd",x8),("told",x9),("told_by",x10),("most",x11),("written",x12),("come",x13),("early",x14),("early_fin",x15),("has_closed",x16),("behind",x17),("owed_reset",x18),("owes_syn",x19),("owes_answer",x20),("probes",x21),("since",y)]::r):=Z4 θ r ce (by simp only [List.map_cons,List.map_nil]; decide +kernel) (by simp only [List.length_cons,List.length_nil]; decide)
theorem ZqH (θ r:Sto) (x0 x1 x2 x3 x4 x5 x6 x7 x8 x9 x10 x11 x12 x13 x14 x15 x16 x17 x18 x19 x20 x21 x22 y:D):zg ["End"] "wait" y (.ref θ.length) (θ++.ins "End" [("ours",x0),("theirs",x1),("state",x2),("error",x3),("first",x4),("una",x5),("nxt",x6),("rcv",x7),("wnd",x8),("told",x9),("told_by",x10),("most",x11),("written",x12),("come",x13),("early",x14),("early_fin",x15),("has_closed",x16),("behind",x17),("owed_reset",x18),("owes_syn",x19),("owes_answer",x20),("probes",x21),("since",x22)]::r)=some (θ++.ins "End" [("ours",x0),("theirs",x1),("state",x2),("error",x3),("first",x4),("una",x5),("nxt",x6),("rcv",x7),("wnd",x8),("told",x9),("told_by",x10),("most",x11),("written",x12),("come",x13),("early",x14),("early_fin",x15),("has_closed",x16),("behind",x17),("owed_reset",x18),("owes_syn",x19),("owes_answer",x20),("probes",x21),("since",x22),("wait",y)]::r):=Z4 θ r ce (by simp only [List.map_cons,List.map_nil]; decide +kernel) (by simp only [List.length_cons,List.length_nil]; decide)
theorem Zni (θ r:Sto) (x0 x1 x2 x3 x4 x5 x6 x7 x8 x9 x10 x11 x12 x13 x14 x15 x16 x17 x18 x19 x20 x21 x22 x23 y:D):zg ["End"] "tries" y (.ref θ.length) (θ++.ins "End" [("ours",x0),("theirs",x1),("state",x2),("error",x3),("first",x4),("una",x5),("nxt",x6),("rcv",x7),("wnd",x8),("told",x9),("told_by",x10),("most",x11),("written",x12),("come",x13),("early",x14),("early_fin",x15),("has_closed",x16),("behind",x17),("owed_reset",x18),("owes_syn",x19),("owes_answer",x20),("probes",x21),("since",x22),("wait",x23)]::r)=some (θ++.ins "End" [("ours",x0),("theirs",x1),("state",x2),("error",x3),("first",x4),("una",x5),("nxt",x6),("rcv",x7),("wnd",x8),("told",x9),("told_by",x10),("most",x11),("written",x12),("come",x13),("early",x14),("early_fin",x15),("has_closed",x16),("behind",x17),("owed_reset",x18),("owes_syn",x19),("owes_answer",x20),("probes",x21),("since",x22),("wait",x23),("tries",y)]::r):=Z4 θ r ce (by simp only [List.map_cons,List.map_nil]; decide +kernel) (by simp only [List.length_cons,List.length_nil]; decide)
theorem Zt6 {a b c:Int} {act:Bool} (θ:Sto):Zcp [.ref θ.length,.int a,.int b,.int c,.bl act] (θ++[.ins "End" []])=.ok .non (θ++cells θ.length (newEnd a b c act)):=by
  cases act with
  | true=>
    simp [Zcp,ZeA,Znq,ZqJ,ZlA,Znj,Znn,Znm,Zty,ZtA,Ztz,Ztx,ZqI,Zi1,ZqK,Zi0,ZqM,Zno,Zhb,Zf9,ZlD,Zf8,Zh0,ZfD,ZlB,Znk,ZqH,Zni]
    rfl
  | false=>
    simp [Zcp,ZeA,Znq,ZqJ,ZlA,Znj,Znn,Znm,Zty,ZtA,Ztz,Ztx,ZqI,Zi1,ZqK,Zi0,ZqM,Zno,Zhb,Zf9,ZlD,Zf8,Zh0,ZfD,ZlB,Znk,ZqH,Zni]
    rfl
theorem ZhQ {a b c:Int} {act:Bool} (θ:Sto):ZcC [.int a,.int b,.int c,.bl act] θ=.ok (.ref θ.length) (θ++cells θ.length (newEnd a b c act)):=by
  simp [ZcC,Ziq,mkG,Zt6]
end
end
end My
namespace L2
open PySem PySem.Spec PyProof.Rows
open AutoSeq1 (wpAny_loadPart')
theorem Zs0 (tp:Addr) (its:Array Value) (k:Nat) (dct:Option Addr) (sl:Array (Option Value)) :
    Meets (Builtin.«enumerate.__new__» ⟨[.type "enumerate",.ref tp],[]⟩) (fun _ R s=>s.heap.get? tp=some { cls:=.type "tuple",dict:=dct,data:=.seq its k,slots:=sl }∧
      R (.ok (.ret (.ref (s.heap.push { cls:=.type "tuple_iterator",data:=.fields #[.ref tp,.int 0 0] }).objs.size)))
        { s with heap:=(s.heap.push { cls:=.type "tuple_iterator",data:=.fields #[.ref tp,.int 0 0] }).push { cls:=.type "enumerate",data:=.fields #[.none,.bool false,.ref s.heap.objs.size,rawInt 0,.none,.none] } }):=by
  refine .of_wp fun prog w A R s h=>?_
  obtain ⟨hp,g,d,tk,os⟩:=s
  obtain ⟨ht,h⟩:=h
  have hsub:=sub_enumerate
  have hT:Heap.IsTuple (Shared.heap ⟨hp,g,d,tk,os⟩) tp its:=⟨_,ht,rfl,k,rfl⟩
  wp_walk using wpAny_loadPart' ht
  refine wpAny_stack_any fun st=>?_
  refine wpAny_pure ?_
  split
  · rename_i c _ _ _ _ _
    cases (c == Value.type "enumerate")<;>(wp_walk using wpAny_loadPart' ht,wpAny_pyIter_tuple hT; exact ⟨_,rfl,h⟩)
  · wp_walk using wpAny_loadPart' ht,wpAny_pyIter_tuple hT; exact ⟨_,rfl,h⟩
section
variable {prog:Program} {w:World} {A:Around} {E:Value→Shared→Prop} {s:Shared}
theorem ZrC {tp:Addr} {its:Array Value} {Q:Value→Shared→Prop} (hT:s.heap.IsTuple tp its)
    (h:∀h',IsEnum h' (s.heap.objs.size+1) s.heap.objs.size 0 .none→h'.IsTupleIter s.heap.objs.size tp 0→h'.objs.size=s.heap.objs.size+2→(∀b o,s.heap.get? b=some o→h'.get? b=some o)→Q (.ref (s.heap.objs.size+1)) { s with heap:=h' }) :
    wpAny (model prog w) A (call (.type "enumerate") [.ref tp]) Q E s:=by
  obtain ⟨⟨c,dct,dt,sl⟩,ht,hc,k,hd⟩:=hT
  cases (show c=.type "tuple" from hc)
  cases (show dt=.seq its k from hd)
  refine callType_new F.called_enumerate (by decide) (F.typeCall_enumerate_1 _) (F.newCall_enumerate_1 _) (fun obj=>F.args_object_init_2 obj _) F.entry_enumerate_new (Zs0 tp its k dct sl) ⟨ht,?_⟩
  have hz:(s.heap.push { cls:=.type "tuple_iterator",data:=.fields #[.ref tp,.int 0 0] }).objs.size=s.heap.objs.size+1:=Heap.size_push ..
  show _∧_
  rw [hz]
  have he:IsEnum ((s.heap.push { cls:=.type "tuple_iterator",data:=.fields #[.ref tp,.int 0 0] }).push { cls:=.type "enumerate",data:=.fields #[.none,.bool false,.ref s.heap.objs.size,rawInt 0,.none,.none] }) (s.heap.objs.size+1) s.heap.objs.size 0 .none:=by
    have q:=Heap.get?_push_size (s.heap.push { cls:=.type "tuple_iterator",data:=.fields #[.ref tp,.int 0 0] }) (o:={ cls:=.type "enumerate",data:=.fields #[.none,.bool false,.ref s.heap.objs.size,rawInt 0,.none,.none] }) rfl
    rw [hz] at q
    exact q
  exact ⟨⟨_,he,rfl⟩,h _ he ⟨_,Heap.get?_push_of_some _ (Heap.get?_push_size _ rfl),rfl,rfl⟩ (by rw [Heap.size_push,hz]) fun b o x=>Heap.get?_push_of_some _ (Heap.get?_push_of_some _ x)⟩
theorem Zmx {it tp:Addr} {i:Nat} {its} {x:Value} {Q:Value→Shared→Prop} (hit:s.heap.IsTupleIter it tp i) (ht:s.heap.IsTuple tp its) (hx:its[i]?=some x)
    (hQ:∀h',h'.IsTupleIter it tp (i+1)→Heap.SameBut it s.heap h'→Q x { s with heap:=h' }):wpAny (model prog w) A (Builtin.SmallTypes.nextOf (.ref it)) Q E s:=by
  obtain ⟨o,ho,hc,hd⟩:=id hit
  obtain ⟨ol,hol,_,nl,hdl⟩:=ht
  unfold Builtin.SmallTypes.nextOf
  refine wpAny_bind (wpAny_callSpecial?_slot (name:=Str.ofString "__next__") hit.typeIs F.slot_tuple_iterator_next (wpAny_call_entry F.slot_tuple_iterator_next hit.typeIs F.entry_tuple_iterator_next ?_ (F.args_tuple_iterator_next_1 _)))
  show wpAny _ _ (field (.ref it) 0 >>= _) _ _ s
  refine wpAny_bind (wpAny_field ho hd (x:=.ref tp) rfl ?_)
  rw [if_neg (show ¬((Value.ref tp == Value.none)=true) from Bool.false_ne_true)]
  refine wpAny_bind (wpAny_field ho hd (x:=.int i 0) rfl (wpAny_bind (wpAny_seqItems hol hdl ?_)))
  simp only [Int.toNat_natCast,hx]
  refine wpAny_bind (wpAny_setField ho hd (by simp) (wpAny_pure ⟨x,rfl,wpAny_pure (hQ _ ⟨_,Heap.get?_update_self _ ho (Obj.isFreed_of_fields (Obj.data_mapFields hd _)),(Obj.cls_mapFields ..).trans hc,?_⟩ (Heap.SameBut.update ..))⟩))
  rw [Obj.data_mapFields hd]
  simp [rawInt]
theorem Zn8 {it tp:Addr} {i:Nat} {its} {Q:Value→Shared→Prop} (hh:A.handled=none) (hit:s.heap.IsTupleIter it tp i) (ht:s.heap.IsTuple tp its) (hx:its[i]?=none)
    (hE:∀h' e,Heap.ExtBut it s.heap h'→(∃o,h'.get? e=some o∧o.cls=.type "StopIteration")→E (.ref e) { s with heap:=h' }):wpAny (model prog w) A (Builtin.SmallTypes.nextOf (.ref it)) Q E s:=by
  obtain ⟨o,ho,hc,hd⟩:=id hit
  obtain ⟨ol,hol,_,nl,hdl⟩:=ht
  unfold Builtin.SmallTypes.nextOf
  refine wpAny_bind (wpAny_callSpecial?_slot (name:=Str.ofString "__next__") hit.typeIs F.slot_tuple_iterator_next (wpAny_call_entry F.slot_tuple_iterator_next hit.typeIs F.entry_tuple_iterator_next ?_ (F.args_tuple_iterator_next_1 _)))
  show wpAny _ _ (field (.ref it) 0 >>= _) _ _ s
  refine wpAny_bind (wpAny_field ho hd (x:=.ref tp) rfl ?_)
  rw [if_neg (show ¬((Value.ref tp == Value.none)=true) from Bool.false_ne_true)]
  refine wpAny_bind (wpAny_field ho hd (x:=.int i 0) rfl (wpAny_bind (wpAny_seqItems hol hdl ?_)))
  simp only [Int.toNat_natCast,hx]
  refine wpAny_bind (wpAny_rule (wpAny_bind (wpAny_setField ho hd (by simp) ?_)))
  refine wpAny_bind (m:=newExc (.type "StopIteration") []) ?_
  simp only [newExc,newTuple]
  refine wpAny_bind (wpAny_newObj_type (wpAny_bind (m:=firstArgMember _ _) (wpAny_of_eq (a:=Value.none) (by first | rfl | (simp only [firstArgMember]; rfl)) (wpAny_newObj_type ?_ (by size_fits)))) (by size_fits))
  simp only [raiseNew]
  refine wpAny_bind (wpAny_handled ?_)
  rw [show A.in1.handled=none from hh]
  exact wpAny_bind (wpAny_pure (wpAny_throw (hE _ _ (((Heap.SameBut.update ..).extBut.push _).push _) ⟨_,Heap.get?_push_size _ rfl,rfl⟩)))
theorem Zro {e it tp:Addr} {i:Nat} {its:Array Value} {x old:Value} {Q:Value→Shared→Prop} (he:IsEnum s.heap e it i old) (hit:s.heap.IsTupleIter it tp i) (ht:s.heap.IsTuple tp its) (hx:its[i]?=some x) (hne:e≠it)
    (hQ:∀h',IsEnumOut h' e it ((i:Int)+1) x s.heap.objs.size→h'.IsTupleIter it tp (i+1)→h'.get? s.heap.objs.size=some { cls:=.type "tuple",data:=.seq #[.int i s.toks,x] }→h'.objs.size=s.heap.objs.size+1→(∀b o,b≠e→b≠it→s.heap.get? b=some o→h'.get? b=some o)→Q (.ref s.heap.objs.size) { s with heap:=h',toks:=s.toks+1 }) :
    wpAny (model prog w) A (Builtin.«enumerate.__next__» ⟨[.ref e],[]⟩) (fun fin s'=>∃v,fin=.done (.ret v)∧Q v s') E s:=by
  obtain ⟨hp,g,d,tk,os⟩:=s
  show wpAny _ _ (field (.ref e) 2 >>= _) _ _ _
  refine wpAny_bind (wpAny_field he rfl (x:=.ref it) rfl (wpAny_bind (Zmx hit ht hx fun h1 hit1 hs1=>?_)))
  replace hs1:Heap.SameBut it hp h1:=hs1
  have he1:IsEnum h1 e it i old:=(hs1.2 e hne).trans he
  refine wpAny_bind (wpAny_field (s:=⟨h1,g,d,tk,os⟩) he1 rfl (x:=rawInt i) rfl ?_)
  refine wpAny_bind (wpAny_field (s:=⟨h1,g,d,tk,os⟩) he1 rfl (x:=.none) rfl ?_)
  show wpAny _ _ (mkInt i >>= _) _ _ ⟨h1,g,d,tk,os⟩
  refine wpAny_bind (wpAny_mkInt ?_)
  show wpAny _ _ (setField (.ref e) 3 (rawInt ((i:Int)+1)) >>= _) _ _ ⟨h1,g,d,tk+1,os⟩
  refine wpAny_bind (wpAny_setField_rec he1 (by simp) fun h2 he2 hs2=>?_)
  replace hs2:Heap.SameBut e h1 h2:=hs2
  replace he2:IsEnum h2 e it ((i:Int)+1) old:=he2
  show wpAny _ _ (setField (.ref e) 4 .none >>= _) _ _ ⟨h2,g,d,tk+1,os⟩
  refine wpAny_bind (wpAny_setField_rec he2 (by simp) fun h3 he3 hs3=>?_)
  replace hs3:Heap.SameBut e h2 h3:=hs3
  replace he3:IsEnum h3 e it ((i:Int)+1) old:=he3
  show wpAny _ _ (newTuple [.int i tk,x] >>= _) _ _ ⟨h3,g,d,tk+1,os⟩
  refine wpAny_bind (wpAny_newTuple ?_)
  have he4:IsEnum (h3.push { cls:=.type "tuple",data:=.seq #[.int i tk,x] }) e it ((i:Int)+1) old:=Heap.get?_push_of_some _ he3
  obtain ⟨h4,hh4⟩:∃z,z=h3.push { cls:=.type "tuple",data:=.seq #[.int i tk,x] }:=⟨_,rfl⟩
  rw [←hh4] at he4
  have hsz:h3.objs.size=hp.objs.size:=by rw [hs3.1,hs2.1,hs1.1]
  have hel:hp.objs.size≠e:=Nat.ne_of_gt (Heap.lt_size he)
  have ht4:h4.get? hp.objs.size=some { cls:=.type "tuple",data:=.seq #[.int i tk,x] }:=by rw [hh4,←hsz]; exact Heap.get?_push_size _ rfl
  have hz4:h4.objs.size=hp.objs.size+1:=by rw [hh4,Heap.size_push,hsz]
  have hk4:∀b o,b≠e→b≠it→hp.get? b=some o→h4.get? b=some o:=fun b o q1 q2 q3=>by
    rw [hh4]
    exact Heap.get?_push_of_some _ (hs3.extBut b o q1 (hs2.extBut b o q1 (hs1.extBut b o q2 q3)))
  have hit4:h4.IsTupleIter it tp (i+1):=by
    obtain ⟨o,ho,r⟩:=(hit1.extBut hs2.extBut (Ne.symm hne)).extBut hs3.extBut (Ne.symm hne)
    exact ⟨o,by rw [hh4]; exact Heap.get?_push_of_some _ ho,r⟩
  show wpAny _ _ (Builtin.SmallTypes.ownedTupleIsFree (.ref e) >>= _) _ _ ⟨h3.push { cls:=.type "tuple",data:=.seq #[.int i tk,x] },g,d,tk+1,os⟩
  rw [←hh4,hsz]
  refine wpAny_bind ?_
  unfold Builtin.SmallTypes.ownedTupleIsFree
  refine wpAny_bind (wpAny_field he4 rfl (x:=.none) rfl (wpAny_pure ?_))
  simp only [if_true]
  refine wpAny_bind (wpAny_rule (wpAny_bind (wpAny_field he4 rfl (x:=old) rfl (wpAny_bind (wpAny_setField_rec he4 (by simp) fun h5 he5 hs5=>?_)))))
  replace hs5:Heap.SameBut e h4 h5:=hs5
  replace he5:IsEnum h5 e it ((i:Int)+1) x:=he5
  refine wpAny_bind (m:=Builtin.SmallTypes.ownedTupleHandOut (.ref e) (.ref hp.objs.size)) ?_
  unfold Builtin.SmallTypes.ownedTupleHandOut
  refine wpAny_bind (wpAny_setField_rec he5 (by simp) fun h6 he6 hs6=>?_)
  replace hs6:Heap.SameBut e h5 h6:=hs6
  replace he6:IsEnumOut h6 e it ((i:Int)+1) x hp.objs.size:=he6
  refine wpAny_setField_rec he6 (by simp) fun h7 he7 hs7=>?_
  replace hs7:Heap.SameBut e h6 h7:=hs7
  replace he7:IsEnumOut h7 e it ((i:Int)+1) x hp.objs.size:=he7
  have up:∀b o,b≠e→h4.get? b=some o→h7.get? b=some o:=fun b o q1 q2=>hs7.extBut b o q1 (hs6.extBut b o q1 (hs5.extBut b o q1 q2))
  refine wpAny_bind (wpAny_letGo (wpAny_pure ⟨_,rfl,hQ h7 he7 ?_ (up _ _ hel ht4) (by rw [hs7.1,hs6.1,hs5.1,hz4]) fun b o q1 q2 q3=>up b o q1 (hk4 b o q1 q2 q3)⟩))
  obtain ⟨o,ho,r⟩:=hit4
  exact ⟨o,up _ _ (Ne.symm hne) ho,r⟩
theorem Zrp {e it tp:Addr} {i:Nat} {its:Array Value} {x old:Value} {Q:Option Value→Shared→Prop} (he:IsEnum s.heap e it i old) (hit:s.heap.IsTupleIter it tp i) (ht:s.heap.IsTuple tp its) (hx:its[i]?=some x) (hne:e≠it)
    (hQ:∀h',IsEnumOut h' e it ((i:Int)+1) x s.heap.objs.size→h'.IsTupleIter it tp (i+1)→h'.get? s.heap.objs.size=some { cls:=.type "tuple",data:=.seq #[.int i s.toks,x] }→h'.objs.size=s.heap.objs.size+1→(∀b o,b≠e→b≠it→s.heap.get? b=some o→h'.get? b=some o)→Q (some (.ref s.heap.objs.size)) { s with heap:=h',toks:=s.toks+1 }) :
    wpAny (model prog w) A (pyNext (.ref e)) Q E s:=by
  have hT:s.TypeIs (.ref e) "enumerate":=⟨_,he,rfl⟩
  unfold pyNext
  exact wpAny_bind (wpAny_attempt (wpAny_callSpecial?_slot (name:=Str.ofString "__next__") hT F.slot_enumerate_next (wpAny_call_entry F.slot_enumerate_next hT F.entry_enumerate_next (Zro he hit ht hx hne fun h' a b c d k=>wpAny_pure (hQ h' a b c d k)) (F.args_enumerate_next_1 _))))
theorem Zs1 {e it tp:Addr} {i:Nat} {its:Array Value} {old:Value} {Q:Option Value→Shared→Prop} (hh:A.handled=none) (he:IsEnum s.heap e it i old) (hit:s.heap.IsTupleIter it tp i) (ht:s.heap.IsTuple tp its) (hx:its[i]?=none)
    (hQ:∀h',Heap.ExtBut it s.heap h'→Q none { s with heap:=h' }):wpAny (model prog w) A (pyNext (.ref e)) Q E s:=by
  have hT:s.TypeIs (.ref e) "enumerate":=⟨_,he,rfl⟩
  unfold pyNext
  refine wpAny_bind (wpAny_attempt (wpAny_callSpecial?_slot (name:=Str.ofString "__next__") hT F.slot_enumerate_next (wpAny_call_entry F.slot_enumerate_next hT F.entry_enumerate_next ?_ (F.args_enumerate_next_1 _))))
  show wpAny _ _ (field (.ref e) 2 >>= _) _ _ _
  refine wpAny_bind (wpAny_field he rfl (x:=.ref it) rfl (wpAny_bind (Zn8 hh hit ht hx fun h' x he' hx'=>?_)))
  obtain ⟨o,ho,hc⟩:=hx'
  exact wpAny_bind (wpAny_isInstance (T:="StopIteration") (b:=true) ⟨o,ho,hc⟩ isSubtype_stop (wpAny_pure (hQ _ he')))
def Ite (K:PySem.W.Frag) (a:Addr):It:=
  ⟨fun i H=>∃xs x,SqT K H a xs∧xs[i]?=some x,fun i H x H'=>∃p v,x=.ref p∧H p=none∧H'=upd H p (.tup [.int i,v])∧∀xs,SqT K H a xs→xs[i]?=some v,fun i H=>∃xs,SqT K H a xs∧xs.length≤i⟩
theorem Zp1 {P:Program} {w:World} {K:PySem.W.Frag} {es:List Expr} {x1} {pos:Pos} (a e it:Addr) (hne:e≠it) (ha:a≠e) (hb:a≠it):Zow P w K (.Tuple es x1 pos) (Ite K a) [e,it] e (fun i h=>(∃old,IsEnum h e it i old)∧h.IsTupleIter it a i) where
  mem:=by simp
  obj:=fun i h st b hb=>by
    obtain ⟨⟨old,st1⟩,o,e1,c,d⟩:=st
    have q:b=e∨b=it:=by simpa using hb
    rcases q with rfl | rfl
    · exact ⟨_,st1,fun v z=>by
        have z':Data.fields _=Data.cell v:=z
        cases z'⟩
    · exact ⟨o,e1,fun v z=>by rw [d] at z; cases z⟩
  keep:=fun i h h' st k=>by
    obtain ⟨⟨old,st1⟩,o,e1,r⟩:=st
    exact ⟨⟨old,k e (by simp) _ st1⟩,o,k it (by simp) o e1,r⟩
  item:=by
    intro X hP hw hK hc i pins s σ H E I hf st hg
    subst hP hw hK
    obtain ⟨⟨old,st1⟩,st2⟩:=st
    obtain ⟨xs,x,hq,hx⟩:=hg
    obtain ⟨its,rv,p,hz⟩:=I.tuple hq
    obtain ⟨u,hu,ru⟩:=rv.get hx
    obtain ⟨f0,f1,f2,f3,f4,f5⟩:=hf e (by simp)
    obtain ⟨g0,g1,g2,g3,g4,g5⟩:=hf it (by simp)
    refine Zrp st1 st2 (show s.heap.IsTuple a its.toArray from p) (x:=u) (by simpa using hu) hne fun h' out it' tp' sz' kk=>?_
    have hes:e<s.heap.objs.size:=Heap.lt_size st1
    have his:it<s.heap.objs.size:=by obtain ⟨o,q,_⟩:=st2; exact Heap.lt_size q
    refine ⟨_,rfl,wpAny_letOwnedTupleGo_enum out fun h2 e2 s2=>?_⟩
    replace s2:Heap.SameBut e h' h2:=s2
    have tp2:h2.get? s.heap.objs.size=some { cls:=.type "tuple",data:=.seq #[.int i s.toks,u] }:=s2.extBut _ _ (Nat.ne_of_gt hes) tp'
    have k2:∀b o,b≠e→b≠it→s.heap.get? b=some o→h2.get? b=some o:=fun b o q1 q2 q3=>s2.extBut b o q1 (kk b o q1 q2 q3)
    have hn:H s.heap.objs.size=none:=I.hok.fresh (Nat.le_refl _)
    have nn:∀{b:Addr} {o:HO},H b=some o→b≠s.heap.objs.size:=fun q=>zo q hn
    have nch:∀{b:Addr},b∉[e,it]→b≠e∧b≠it:=fun hb=>⟨fun z=>hb (by simp [z]),fun z=>hb (by simp [z])⟩
    have new:ObjOk X.prog X.w (upd H s.heap.objs.size (.tup [.int i,x])) h2 s.heap.objs.size (.tup [.int i,x]):=⟨by show 2≤sizeLine; decide,[.int i s.toks,u],.cons ⟨_,rfl⟩ (.cons ru .nil),⟨_,tp2,rfl,_,rfl⟩⟩
    have I1:Inv X pins σ (upd H s.heap.objs.size (.tup [.int i,x])) { s with heap:=h2,toks:=s.toks+1 }:=by
      refine I.step (g':=s.gens) (d':=s.drawn) (ch:=[e,it]) (fun b hb=>?_) (fun b o _ _ hc e' _=>k2 b o (nch hc).1 (nch hc).2 e') (fun b o _ _ hc e' _=>⟨o.slots,k2 b o (nch hc).1 (nch hc).2 e'⟩) (fun b o _ e' n=>by rw [ZS (Nat.ne_of_lt (Heap.lt_size e'))]; exact n)
        (fun b o hc e'=>⟨o,k2 b o (nch hc).1 (nch hc).2 e'⟩) (fun b _ q=>by rw [ZS (nn q)]; exact q) (fun b _ _ q=>by rw [ZS (nn q)]; exact q) (fun b ps q=>⟨#[],by rw [ZS (nn q),q]; simp⟩) (fun m hm=>?_) (fun b v q=>?_) I.bare
      · have z:b=e∨b=it:=by simpa using hb
        rcases z with rfl | rfl
        · exact ⟨f3,f1,f4,f5⟩
        · exact ⟨g3,g1,g4,g5⟩
      · obtain ⟨o,es,ep,ho,r⟩:=hm
        exact ⟨o,es,ep,k2 _ o (Ne.symm f1) (Ne.symm g1) ho,r⟩
      · by_cases hb:b=s.heap.objs.size
        · subst hb; rw [zE] at q; cases q; exact new
        · rw [ZS hb] at q
          refine (I.hok b v q).stay (fun c o hc z=>k2 c o ?_ ?_ z) (fun c z=>by rw [ZS (nn z)]; exact z) fun c _ z=>by rw [ZS (nn z)]; exact z
          · rcases hc with z | z
            · rw [z]; exact fun y=>by rw [y,f0] at q; cases q
            · exact fun y=>by rw [y,f0] at z; cases z
          · rcases hc with z | z
            · rw [z]; exact fun y=>by rw [y,g0] at q; cases q
            · exact fun y=>by rw [y,g0] at z; cases z
    refine ⟨.ref s.heap.objs.size,_,I1,rfl,⟨_,x,rfl,hn,rfl,fun ys hy=>by rw [I.tuple_inj hy hq]; exact hx⟩,⟨⟨_,by simpa using e2⟩,?_⟩,fun b hb=>?_⟩
    · obtain ⟨o,q,r⟩:=it'
      exact ⟨o,s2.extBut _ _ (Ne.symm hne) q,r⟩
    · have z:b=e∨b=it:=by simpa using hb
      rcases z with rfl | rfl
      · rw [ZS (Nat.ne_of_lt hes)]; exact f0
      · rw [ZS (Nat.ne_of_lt his)]; exact g0
  done:=by
    intro X hP hw hK hc i pins s σ H E I hf st hg
    subst hP hw hK
    obtain ⟨⟨old,st1⟩,st2⟩:=st
    obtain ⟨xs,hq,hx⟩:=hg
    obtain ⟨its,rv,p,hz⟩:=I.tuple hq
    obtain ⟨f0,f1,f2,f3,f4,f5⟩:=hf it (by simp)
    have hl:=rv.length
    exact Zs1 (I.ok.hd hc) st1 st2 (show s.heap.IsTuple a its.toArray from p) (by simp; omega) fun h' eb=>⟨rfl,I.turned (t':=s.toks) (fun b o hb e=>eb b o hb e) f0 f1 f3 f4 f5⟩
  self:=fun _ _ _ _ _ st h=>by
    obtain ⟨⟨old,st1⟩,_⟩:=st
    exact wpAny_pyIter_enum st1 h
end
end L2
namespace L2
open PySem PySem.Spec PyProof.Rows
section
variable {X:Cx}
def ZAj (K:PySem.W.Frag) (ta:TA):TI:=fun σ H R=>ta σ H fun vs H1=>∃a,vs=[.ref a]∧(∃xs,SqT K H1 a xs)∧R (Ite K a) H1
theorem ZuB {l:Expr} {ta:TA} {es:List Expr} {x1} {p pos tp:Pos} (hg:Gl X "enumerate") (hm:X.mg "enumerate"=none) (ha:PA X [l] ta) (hs:starEach [l] X.env=[(false,eval l X.env)]:=by rfl):PI X (.Tuple es x1 tp) (.Call (.Name "enumerate" p) [l] [] pos) (ZAj X.K ta):=by
  intro pins s σ H R I h
  refine Call_ (Zh8 I hg hm boot_enumerate (PyProof.Rows.callWith_type1 (thn (ha pos pins s σ H _ I h) fun us s1 ⟨vs,H1,I1,r1,q1⟩=>?_) hs rfl))
  obtain ⟨a,e,⟨xs,hq⟩,q⟩:=q1
  subst e
  obtain ⟨u,rfl,ru⟩:=ZfX r1
  cases ru
  obtain ⟨its,rv,t1,hz⟩:=I1.tuple hq
  have T1:s1.heap.IsTuple a its.toArray:=t1
  have al:a<s1.heap.objs.size:=by obtain ⟨o,z,_⟩:=T1; exact Heap.lt_size z
  refine ZrC T1 fun h' e' i' z' k'=>wpAny_pyIter_enum (s:={ s1 with heap:=h' }) e' ?_
  have I2:Inv X pins σ H1 { s1 with heap:=h' }:=I1.kept (t':=s1.toks) k'
  refine ⟨s1.heap.objs.size+1,[s1.heap.objs.size+1,s1.heap.objs.size],_,_,H1,rfl,I2,Zp1 a _ _ (Nat.succ_ne_self _) (Nat.ne_of_lt (Nat.lt_succ_of_lt al)) (Nat.ne_of_lt al),⟨⟨_,e'⟩,i'⟩,fun b hb=>?_,q⟩
  have z:b=s1.heap.objs.size+1∨b=s1.heap.objs.size:=by simpa using hb
  have hb':s1.heap.objs.size≤b:=z.elim (fun y=>by rw [y]; exact Nat.le_succ _) fun y=>by rw [y]; exact Nat.le_refl _
  exact I1.fpOk hb' (I1.hok.fresh hb')
end
end L2
namespace L2.MM
open PySem PySem.Spec PyProof.Rows
section
variable {X:Cx}
def forE (i j:Nat) (body:SM):Nat→List D→SM
  | _,[]=>fun ρ θ=>.ok (.nx,ρ) θ
  | k,x::r=>fun ρ θ=>(body ((ρ.set i (.val (.int (k:Nat)))).set j (.val x)) θ).bind (ZfF (forE i j body (k+1) r))
def Zq4 (fa:AM) (i j:Nat) (body:SM):SM:=fun ρ θ=>(fa ρ θ).bind fun ds θ=>match ds with
  | [.tup xs]=>forE i j body 0 xs ρ θ
  | _=>.bad
theorem ZsJ {l:Expr} {body:List Stmt} {fa:AM} {fb:SM} {x y:Str} {x1} {p p1 p2 tp cp pos:Pos} (i j:Nat) (hN:X.N.Nodup) (hp:PassesOwn (model X.prog X.w) X.A X.env X.xe) (hm:X.mg "enumerate"=none) (ha:MA X [l] fa) (hb:MSs X body fb) (hc:X.calm=true:=by rfl)
    (hg:Gl X "enumerate":=by rfl) (hs:starEach [l] X.env=[(false,eval l X.env)]:=by rfl)
    (hi:X.N[i]?=some x:=by rfl) (hx:Loc X.env.scope x:=by first | exact Or.inl rfl | exact Or.inr rfl) (hf:X.fn x=true∨X.env.scope.names.lookup x=some .local:=by first | exact .inl rfl | exact .inr rfl)
    (hj:X.N[j]?=some y:=by rfl) (hy:Loc X.env.scope y:=by first | exact Or.inl rfl | exact Or.inr rfl) (hf':X.fn y=true∨X.env.scope.names.lookup y=some .local:=by first | exact .inl rfl | exact .inr rfl)
    (hse:∀z,foldedSetIterable (.Call (.Name "enumerate" p) [l] [] cp) X.env z=pure z:=by intro _; rfl)
    (ha1:(assignEach [.Name x p1,.Name y p2] X.env).map (·.2)=assign (.Name x p1) X.env::(assignEach [.Name y p2] X.env).map (·.2):=by rfl) (ha2:(assignEach [.Name y p2] X.env).map (·.2)=assign (.Name y p2) X.env::(assignEach [] X.env).map (·.2):=by rfl)
    (hn:(assignEach [.Name x p1,.Name y p2] X.env).length=2:=by rfl) (hst:(assignEach [.Name x p1,.Name y p2] X.env).findIdx? (·.1)=none:=by rfl) :
    MS X (.For (.Tuple [.Name x p1,.Name y p2] x1 tp) (.Call (.Name "enumerate" p) [l] [] cp) body [] pos) (Zq4 fa i j fb):=
  PS.imp (Zqq hp hc (ZuB hg hm ha hs) (ZuC hc (Zlv (Zf5 hN hi hx hf) (Zlv (Zf5 hN hj hy hf') Zss ha2) ha1) hn hst) hb hse) fun Dn σ H h=>by
  obtain ⟨B,θ,ρ,F,w⟩:=h
  refine Zb6 (Zqe F w) ?_
  rintro vs H1 ⟨B1,θ1,ds,E1,F1,rd,w1⟩
  split at w1
  · rename_i xs
    obtain ⟨v,rfl,rv⟩:=rd.one
    obtain ⟨a,us,rfl,g1,okA,ru⟩:=rv
    refine ⟨a,rfl,⟨us,SqT.of g1⟩,fun k m σ H=>∃B θ ρ,Frm X.cl B θ ρ σ H∧RepV B H (.tup xs) (.ref a)∧m=xs.length-k∧k≤xs.length∧wpS X σ B H (forE i j fb k (xs.drop k) ρ θ) Dn,⟨xs.length,B1,θ1,ρ,F1,⟨a,us,rfl,g1,okA,ru⟩,rfl,Nat.zero_le _,w1⟩,?_⟩
    rintro k m σ2 H2 ⟨B2,θ2,ρ2,F2,rv2,rfl,hk,w2⟩
    obtain ⟨a',us2,e2,g2,ok2,ru2⟩:=id rv2
    cases e2
    by_cases hlt:k<xs.length
    · rw [List.drop_eq_getElem_cons hlt] at w2
      unfold forE at w2
      obtain ⟨v,q1,q2⟩:=ru2.get (List.getElem?_eq_getElem hlt)
      refine .inr ⟨⟨us2,v,SqT.of g2,q1⟩,fun σ' H'=>∃B' θ' ρ',ExtS B2 B' H2 H'∧Frm X.cl B' θ' ρ' σ' H'∧wpS X σ' B' H' (forE i j fb (k+1) (xs.drop (k+1)) ρ' θ') Dn,?_,fun z H' hz=>?_⟩
      · rintro σ' H' ⟨B',θ',ρ',E',F',w'⟩
        exact ⟨xs.length-(k+1),by omega,B',θ',ρ',F',rv2.ext E',rfl,hlt,w'⟩
      · obtain ⟨t,v',rfl,ht,rfl,hv⟩:=hz
        have:=hv us2 (SqT.of g2)
        rw [q1] at this
        cases this
        have E3:=Zc3 F2.good ht (.tup [.int k,v])
        have F3:=F2.ext E3 (Ze6 F2.good ht (.tup [.int k,v]))
        refine ⟨t,[.int k,v],rfl,SqT.of zE,rfl,.int k,[v],rfl,v,[],rfl,rfl,?_⟩
        have F4:=(F3.set i (d:=.int (k:Nat)) (v:=.int k) rfl).set j (q2.ext E3.toExtS)
        refine ⟨B2,θ2,_,F4,?_⟩
        exact wpS.trans (wpS.loop w2) E3.toExtS
    · have e:k=xs.length:=by omega
      subst e
      rw [List.drop_length] at w2
      unfold forE at w2
      exact .inl ⟨⟨us2,SqT.of g2,by rw [ru2.len]; exact Nat.le_refl _⟩,Zef F2 w2⟩
  · exact w1.elim
end
end L2.MM
namespace L2
open PySem PySem.Spec PyProof.Rows
section
variable {X:Cx} {pins:List (Addr×Obj)} {σ:St} {H:Hp} {s:Shared} {a:Addr} {kvs:List (Key×V)} {k:Key} {z:V} {u r:Value} {A:Around} {E:Value→Shared→Prop}
theorem Zu9 {Q:Value→Shared→Prop} (I:Inv X pins σ H s) (e:H a=some (.dK kvs)) (ry:RelV (kV k) u) (rz:RelV z r) (hl:kvs.length<sizeLine)
    (h1:∀v w' s',valV kvs k=some v→Inv X pins σ H s'→RelV v w'→Q w' s') (h2:valV kvs k=none→∀s',Inv X pins σ (upd H a (.dK (Zhv kvs k z))) s'→Q r s'):wpAny (model X.prog X.w) A (call (.builtin "dict.setdefault") [.ref a,u,r]) Q E s:=by
  obtain ⟨z1,hd,vs,rel,dd⟩:=Zru I.hok e
  have hv:vs.length≤sizeLine:=by rw [←rel.length]; exact z1
  refine call_meetsIn PySem.F.slot_dict_setdefault dd.typeIs PySem.F.entry_dict_setdefault (PySem.F.args_dict_setdefault_3 _ _ _) (kt_meets_setdefault (ZaN X.prog X.w) a (ZlP ry) hd r) ⟨vs,dd,hv,fun v q=>?_,fun q h' dd' hs=>?_⟩
  · cases l:valV kvs k with
    | none=>
      have:valueAt vs k=none:=RelO.none_of (by rw [←l]; exact rel.val k)
      rw [this] at q
      cases q
    | some v0=>
      obtain ⟨w1,hw,r1⟩:=RelO.some_of (v:=v0) (o:=valueAt vs k) (by rw [←l]; exact rel.val k)
      have z2:w1=v:=by rw [hw] at q; injection q
      subst z2
      exact h1 v0 w1 _ l (I.tok _) r1
  · have l:valV kvs k=none:=by
      cases l:valV kvs k with
      | none=>rfl
      | some v0=>
        obtain ⟨w',hw,rw'⟩:=RelO.some_of (v:=v0) (o:=valueAt vs k) (by rw [←l]; exact rel.val k)
        rw [hw] at q
        cases q
    have hl2:(Zhv kvs k z).length≤sizeLine:=by have:=ZlM kvs k z; omega
    have he:∃q,h'.get? a=some q:=let ⟨q,_,_,hq,_⟩:=dd'; ⟨q,hq⟩
    exact h2 l _ (ZjK I (by rw [e]; exact True.intro) hs he (ZmM hl2 hd (rel.put k rz) dd'))
end
def Zue (td ty tx:TE):TE:=fun σ H Q=>td σ H fun x H1=>∃a,x=.ref a∧IsD H1 a∧ty σ H1 fun y H2=>tx σ H2 fun z H3=>∃kvs k,H3 a=some (.dK kvs)∧y=kV k∧kvs.length<sizeLine∧
  (∀v,valV kvs k=some v→Q v H3)∧(valV kvs k=none→Q z (upd H3 a (.dK (Zhv kvs k z))))
theorem Zqy {X:Cx} {o e f:Expr} {apos cpos:Pos} {td ty tx:TE} (ho:PE X o td) (he:PE X e ty) (hf:PE X f tx) (m:M2 X o "setdefault" apos e f cpos):PE X (.Call (.Attribute o "setdefault" apos) [e,f] [] cpos) (Zue td ty tx):=by
  intro pins s σ H Q I h
  refine wpAny_Call_method m.base m.few m.line PySem.F.plainAttrs_dict PySem.F.slot_dict_setdefault PySem.F.type_dict_setdefault (thn (ho pins s σ H _ I h) fun u s1 ⟨x,H1,I1,rx,a,ex,d,q1⟩=>?_)
  subst ex
  cases (show u=Value.ref a from rx)
  obtain ⟨t1,t2,_⟩:=Zrb I1 d
  refine ⟨t1,t2,?_⟩
  rw [m.trees]
  refine Calls.callWith_builtin rfl (Calls.evalArgs_plain (Calls.spliced_cons (thn (he pins s1 σ H1 _ I1 q1) fun iv s2 ⟨y,H2,I2,ry,q2⟩=>Calls.spliced_cons (thn (hf pins s2 σ H2 _ I2 q2) fun fv s3 ⟨z,H3,I3,rz,kvs,k,ea,ey,hl,q3,q4⟩=>Calls.spliced_nil ?_))))
  subst ey
  exact Zu9 I3 ea ry rz hl (fun v w' s4 l I4 rw'=>⟨v,H3,I4,rw',q3 v l⟩) fun l s4 I4=>⟨z,_,I4,rz,q4 l⟩
end L2
namespace L2.MM
open PySem PySem.Spec PyProof.Rows
def valD (kvs:List (Key×D)) (k:Key):Option D:=(kvs.find? fun kv=>decide (kv.1=k)).map (·.2)
def putD (kvs:List (Key×D)) (k:Key) (v:D):List (Key×D):=
  if (kvs.any fun kv=>decide (kv.1=k))=true then kvs.map (fun kv=>if kv.1=k then (kv.1,v) else kv) else kvs++[(k,v)]
def dropD (kvs:List (Key×D)) (k:Key):List (Key×D):=kvs.filter fun kv=>decide (kv.1≠k)
def ZlO:D→Option Key
  | .int n=>some (.inl n)
  | .str x=>some (.inr x)
  | _=>none
def ZgW (θ:Sto):D→Option (Nat×List (Key×D))
  | .ref l=>match θ[l]? with
    | some (.dK kvs)=>some (l,kvs)
    | _=>none
  | _=>none
section
variable {B:Bx} {H:Hp}
theorem RepKV.valD (k:Key):∀{ks:List (Key×D)} {vs:List (Key×V)},RepKV B H ks vs→(L2.MM.valD ks k=Option.none∧valV vs k=Option.none)∨∃d v,L2.MM.valD ks k=some d∧valV vs k=some v∧RepV B H d v
  | _,_,.nil=>.inl ⟨rfl,rfl⟩
  | (k1,d1)::ks,(k2,v2)::vs,.cons ⟨h1,h2⟩ t=>by
    cases (show k1=k2 from h1)
    by_cases e:k1=k
    · refine .inr ⟨d1,v2,?_,?_,h2⟩<;>simp [L2.MM.valD,valV,List.find?_cons,e]
    · have:=RepKV.valD k t
      simpa [L2.MM.valD,valV,List.find?_cons,e] using this
theorem RepKV.any (k:Key):∀{ks:List (Key×D)} {vs:List (Key×V)},RepKV B H ks vs→(ks.any fun kv=>decide (kv.1=k))=(vs.any fun kv=>decide (kv.1=k))
  | _,_,.nil=>rfl
  | (k1,d1)::ks,(k2,v2)::vs,.cons ⟨h1,h2⟩ t=>by
    cases (show k1=k2 from h1)
    rw [List.any_cons,List.any_cons,RepKV.any k t]
theorem RepKV.snoc {k:Key} {d:D} {v:V} (r:RepV B H d v):∀{ks:List (Key×D)} {vs:List (Key×V)},RepKV B H ks vs→RepKV B H (ks++[(k,d)]) (vs++[(k,v)])
  | _,_,.nil=>.cons ⟨rfl,r⟩ .nil
  | _,_,.cons h t=>.cons h (RepKV.snoc r t)
theorem RepKV.over {k:Key} {d:D} {v:V} (r:RepV B H d v):∀{ks:List (Key×D)} {vs:List (Key×V)},RepKV B H ks vs→RepKV B H (ks.map fun kv=>if kv.1=k then (kv.1,d) else kv) (vs.map fun kv=>if kv.1=k then (kv.1,v) else kv)
  | _,_,.nil=>.nil
  | (k1,d1)::ks,(k2,v2)::vs,.cons ⟨h1,h2⟩ t=>by
    cases (show k1=k2 from h1)
    rw [List.map_cons,List.map_cons]
    refine .cons ?_ (RepKV.over r t)
    by_cases e:k1=k
    · rw [if_pos (show (k1,d1).1=k from e),if_pos (show (k1,v2).1=k from e)]; exact ⟨rfl,r⟩
    · rw [if_neg (show ¬(k1,d1).1=k from e),if_neg (show ¬(k1,v2).1=k from e)]; exact ⟨rfl,h2⟩
theorem RepKV.putD {k:Key} {d:D} {v:V} (r:RepV B H d v) {ks:List (Key×D)} {vs:List (Key×V)} (h:RepKV B H ks vs):RepKV B H (L2.MM.putD ks k d) (Zhv vs k v):=by
  unfold L2.MM.putD Zhv
  rw [h.any k]
  split
  · exact h.over r
  · exact h.snoc r
theorem RepKV.dropD (k:Key):∀{ks:List (Key×D)} {vs:List (Key×V)},RepKV B H ks vs→RepKV B H (L2.MM.dropD ks k) (ZfG vs k)
  | _,_,.nil=>.nil
  | (k1,d1)::ks,(k2,v2)::vs,.cons ⟨h1,h2⟩ t=>by
    cases (show k1=k2 from h1)
    have ih:=RepKV.dropD k t
    unfold L2.MM.dropD ZfG at ih ⊢
    by_cases e:k1=k
    · rw [List.filter_cons_of_neg (by simpa using e),List.filter_cons_of_neg (by simpa using e)]; exact ih
    · rw [List.filter_cons_of_pos (by simpa using e),List.filter_cons_of_pos (by simpa using e)]; exact .cons ⟨rfl,h2⟩ ih
theorem keyD_rep {d:D} {v:V} {k:Key} (r:RepV B H d v) (h:ZlO d=some k):v=kV k:=by
  cases d with
  | int n=>cases h; exact r
  | str x=>cases h; exact r
  | _=>cases h
theorem Zgo {cl:Mo} {θ:Sto} (G:Good cl B θ H) {d:D} {v:V} {l:Nat} {kvs:List (Key×D)} (r:RepV B H d v) (h:ZgW θ d=some (l,kvs)):l<B.n∧v=.ref (B.m l)∧∃vs,H (B.m l)=some (.dK vs)∧RepKV B H kvs vs:=by
  cases d with
  | ref k=>
    simp only [ZgW] at h
    split at h
    · rename_i kvs' e
      cases h
      obtain ⟨hl,rfl⟩:=r
      obtain ⟨vs,h1,h2⟩:=G.cel _ _ e
      exact ⟨hl,rfl,vs,h1,h2⟩
    · cases h
  | _=>cases h
end
section
variable {X:Cx}
theorem ZtV {k:Nat} {A:Around} (hr:Room k A):A.units+1<cLine:=by have:=hr.un; omega
def Zq5 (fi fo:EM):EM:=fun ρ θ=>(fi ρ θ).bind fun y θ=>(fo ρ θ).bind fun d θ=>match ZlO y,ZgW θ d with
  | some k,some (_,kvs)=>.ok (.bl (valD kvs k).isSome) θ
  | _,_=>.bad
theorem Zs2 {fi fo:EM} (σ:St) (H:Hp) (Q:VK) (h:tM X (Zq5 fi fo) σ H Q):Zv6 (tM X fi) (tM X fo) σ H Q:=by
  obtain ⟨B,θ,ρ,F,w⟩:=h
  refine Z3 (step F w) ?_
  rintro y H1 ⟨B1,θ1,dy,E1,F1,ry,w1⟩
  refine Z3 (step F1 w1) ?_
  rintro v H2 ⟨B2,θ2,d,E2,F2,rd,w2⟩
  split at w2
  · rename_i k l kvs ek ed
    obtain ⟨hl,rfl,vs,h1,h2⟩:=Zgo F2.good rd ed
    cases keyD_rep ry ek
    refine ⟨_,valV vs k,rfl,DGet.k h1,?_⟩
    have e:(valD kvs k).isSome=(valV vs k).isSome:=by
      rcases h2.valD k with ⟨q1,q2⟩ | ⟨d,v,q1,q2,_⟩<;>(rw [q1,q2]; rfl)
    rw [←e]
    exact ZQ (Rel:=RepV) F2.good (show RepV B2 H2 (.bl (valD kvs k).isSome) (.bl (valD kvs k).isSome) from rfl) w2
  · exact w2.elim
theorem ZuZ {i o:Expr} {fi fo:EM} {pos:Pos} {k:Nat} (hr:Room k X.A) (hi:ME X i fi) (ho:ME X o fo) (hm:behindInMarks .In o=false:=by rfl):MT X (.Compare i [.In] [o] pos) (ZI (Zq5 fi fo)):=by
  refine PT.imp (Zuu (ZuL (ZtV hr) hi ho) hm) fun σ H Q h=>?_
  exact Zs2 σ H _ (ZhS σ H Q h)
def Znt (fo fe:EM):EM:=fun ρ θ=>(fo ρ θ).bind fun d θ=>match ZgW θ d with
  | none=>.bad
  | some _=>(fe ρ θ).bind fun y θ=>match ZlO y,ZgW θ d with
    | some k,some (l,kvs)=>match valD kvs k with
      | some v=>.ok v (θ.set l (.dK (dropD kvs k)))
      | none=>.bad
    | _,_=>.bad
theorem Znr {o e:Expr} {fo fe:EM} {apos cpos:Pos} (ho:ME X o fo) (he:ME X e fe) (m:M1 X o "pop" apos e cpos):ME X (.Call (.Attribute o "pop" apos) [e] [] cpos) (Znt fo fe):=by
  refine PE.imp (Zqz ho he m) fun σ H Q h=>?_
  obtain ⟨B,θ,ρ,F,w⟩:=h
  refine Z3 (step F w) ?_
  rintro v H1 ⟨B1,θ1,d,E1,F1,rd,w1⟩
  split at w1
  · exact w1.elim
  · rename_i q ed
    obtain ⟨l,kvs⟩:=q
    obtain ⟨hl,rfl,vs,h1,h2⟩:=Zgo F1.good rd ed
    refine ⟨_,rfl,.inl ⟨vs,.inl h1⟩,?_⟩
    refine Z3 (step F1 w1) ?_
    rintro y H2 ⟨B2,θ2,dy,E2,F2,ry,w2⟩
    split at w2
    · rename_i k l2 kvs2 ek ed2
      obtain ⟨hl2,e2,vs2,h3,h4⟩:=Zgo F2.good (rd.ext E2.toExtS) ed2
      cases keyD_rep ry ek
      have e3:B1.m l=B2.m l2:=by injection e2
      rw [e3]
      rcases h4.valD k with ⟨q1,q2⟩ | ⟨dv,v,q1,q2,rv⟩
      · rw [q1] at w2; exact w2.elim
      · rw [q1] at w2
        refine ⟨vs2,k,v,h3,rfl,q2,?_⟩
        have E3:=ZhF F2.good hl2 (.dK (ZfG vs2 k))
        have G3:=Zic F2.good hl2 (o:=.dK (ZfG vs2 k)) (c:=.dK (dropD kvs2 k)) ⟨_,zE,(h4.dropD k).ext E3.toExtS⟩
        exact w2 _ _ _ E3 G3 (rv.ext E3.toExtS)
    · exact w2.elim
def ZmF (fo fe ff:EM):EM:=fun ρ θ=>(fo ρ θ).bind fun d θ=>match ZgW θ d with
  | none=>.bad
  | some _=>(fe ρ θ).bind fun y θ=>(ff ρ θ).bind fun z θ=>match ZlO y,ZgW θ d with
    | some k,some (l,kvs)=>if kvs.length<BIG then (match valD kvs k with
      | some v=>.ok v θ
      | none=>.ok z (θ.set l (.dK (putD kvs k z)))) else .bad
    | _,_=>.bad
theorem Zq0 {o e f:Expr} {fo fe ff:EM} {apos cpos:Pos} (ho:ME X o fo) (he:ME X e fe) (hf:ME X f ff) (m:M2 X o "setdefault" apos e f cpos):ME X (.Call (.Attribute o "setdefault" apos) [e,f] [] cpos) (ZmF fo fe ff):=by
  refine PE.imp (Zqy ho he hf m) fun σ H Q h=>?_
  obtain ⟨B,θ,ρ,F,w⟩:=h
  refine Z3 (step F w) ?_
  rintro v H1 ⟨B1,θ1,d,E1,F1,rd,w1⟩
  split at w1
  · exact w1.elim
  · rename_i q ed
    obtain ⟨l,kvs⟩:=q
    obtain ⟨hl,rfl,vs,h1,h2⟩:=Zgo F1.good rd ed
    refine ⟨_,rfl,.inl ⟨vs,.inl h1⟩,?_⟩
    refine Z3 (step F1 w1) ?_
    rintro y H2 ⟨B2,θ2,dy,E2,F2,ry,w2⟩
    refine Z3 (step F2 w2) ?_
    rintro z H3 ⟨B3,θ3,dz,E3,F3,rz,w3⟩
    split at w3
    · rename_i k l2 kvs2 ek ed2
      obtain ⟨hl2,e2,vs2,h3,h4⟩:=Zgo F3.good ((rd.ext E2.toExtS).ext E3.toExtS) ed2
      cases keyD_rep ry ek
      have e3:B1.m l=B3.m l2:=by injection e2
      rw [e3]
      split at w3
      · rename_i hb
        refine ⟨vs2,k,h3,rfl,?_,fun v hv=>?_,fun hn=>?_⟩
        · have:=Zas (n:=kvs2.length+1) hb
          rw [RepKV.len h4]; omega
        · rcases h4.valD k with ⟨q1,q2⟩ | ⟨dv,v',q1,q2,rv⟩
          · rw [q2] at hv; cases hv
          · rw [q2] at hv; cases hv
            rw [q1] at w3
            exact ZQ (Rel:=RepV) F3.good rv w3
        · rcases h4.valD k with ⟨q1,q2⟩ | ⟨dv,v',q1,q2,rv⟩
          · rw [q1] at w3
            have E4:=ZhF F3.good hl2 (.dK (Zhv vs2 k z))
            have G4:=Zic F3.good hl2 (o:=.dK (Zhv vs2 k z)) (c:=.dK (putD kvs2 k dz)) ⟨_,zE,(h4.putD rz).ext E4.toExtS⟩
            exact w3 _ _ _ E4 G4 (rz.ext E4.toExtS)
          · rw [q2] at hn; cases hn
      · exact w3.elim
    · exact w3.elim
end
end L2.MM
namespace My
open PySem L2 L2.MM
noncomputable section
def ZjO:SM:=(Zq (ZP 2 (mSl (Zd 1) zh (zO (mCB Zel (Zc (Zd 0) Zk)))))
  (Zq (ZJ ["Pile"] "row" (Zd 0) (mOp ZK (ZM ["Pile"] "row" (Zd 0)) (Zd 2)))
  (ZO (mCB Zes (Zc (Zd 2) Zk)))))
def Zf7:GM:=ZR 2 3 ZjO
def Zdm:SM:=(Zq (ZP 2 (mCB ZsL (Zc (Zd 1) (Zc (mC (.int 0)) Zk))))
  (Zq (ZP 3 (mSl (ZM ["Pile"] "row" (Zd 0)) zh (zO (Zd 2))))
  (Zq (ZJ ["Pile"] "row" (Zd 0) (mSl (ZM ["Pile"] "row" (Zd 0)) (zO (Zd 2)) zh))
  (ZO (Zd 3)))))
def Zck:GM:=ZR 2 4 Zdm
def Zl8:SM:=(ZO (mOp gtM (mCB zG (Zc (Zd 0) (Zc (Zd 1) Zk))) (mC (.int 0))))
def Zcl:GM:=ZR 2 2 Zl8
def Zd7:SM:=(ZO (mCB Zcl (Zc (ZM ["End"] "nxt" (Zd 0)) (Zc (ZM ["End"] "behind" (Zd 0)) Zk))))
def Zbl:GM:=ZR 1 1 Zd7
def Zjl:SM:=(ZO (mOp eqM (mCB ZfC (Zc (mOp ixM (Zd 0) (mC (.int 4))) (Zc (Zd 1) Zk))) (mC (.int 1))))
def Z6:GM:=ZR 2 2 Zjl
def ZcS:SM:=(mIf (Zae (mCB Z6 (Zc (Zd 0) (Zc (mC (.int 16)) Zk)))) (ZO (mOp ZK (Zd 1) (Zak (Zc (mOp ixM (Zd 0) (mC (.int 3))) (Zc (mC (.int 0)) (Zc (mC (.int 4)) (Zc (mC (.int 0)) (Zc (mC (.int 0)) (Zc (Zak Zk) Zk))))))))) ZN)
def ZdI:SM:=(Zq (ZP 1 (Zak (Zc (mOp ixM (Zd 0) (mC (.int 1))) (Zc (mOp ixM (Zd 0) (mC (.int 0))) Zk))))
  (Zq ZcS
  (ZO (mOp ZK (Zd 1) (Zak (Zc (mC (.int 0)) (Zc (mCB zv (Zc (mOp ixM (Zd 0) (mC (.int 2))) (Zc (mCB ZcD (Zc (Zd 0) Zk)) Zk))) (Zc (mOp ZK (mC (.int 4)) (mC (.int 16))) (Zc (mC (.int 0)) (Zc (mC (.int 0)) (Zc (Zak Zk) Zk)))))))))))
def ZbY:GM:=ZR 1 2 ZdI
def ZbE:SM:=(mIf (Zeq (Zae (mCB Z6 (Zc (Zd 1) (Zc (mC (.int 4)) Zk))))) (ZJ ["End"] "owed_reset" (Zd 0) (mCB ZbY (Zc (Zd 1) Zk))) ZN)
def Zcd:SM:=ZbE
def Z1:GM:=ZR 2 2 Zcd
def Zdr:SM:=(zS (mCB Z1 (Zc (Zd 0) (Zc (Zd 1) Zk))))
def ZaQ:GM:=ZR 2 2 Zdr
def Zfg:SM:=(mIf (ZI (mOp neM (mOp ixM (Zd 1) (mC (.int 6))) (mC (.int 0)))) (ZJ ["End"] "most" (Zd 0) (mOp ixM (Zd 1) (mC (.int 6)))) ZN)
def Zgu:SM:=(Zq (ZJ ["End"] "rcv" (Zd 0) (mCB zv (Zc (mOp ixM (Zd 1) (mC (.int 2))) (Zc (mC (.int 1)) Zk))))
  (Zq (ZJ ["End"] "wnd" (Zd 0) (mOp ixM (Zd 1) (mC (.int 5))))
  (Zq (ZJ ["End"] "told" (Zd 0) (mOp ixM (Zd 1) (mC (.int 2))))
  (Zq (ZJ ["End"] "told_by" (Zd 0) (Zgh (Zae (mCB Z6 (Zc (Zd 1) (Zc (mC (.int 16)) Zk)))) (mOp ixM (Zd 1) (mC (.int 3))) (mC (.int 0))))
  Zfg))))
def ZbS:GM:=ZR 2 2 Zgu
def Zaa:SM:=(mIf (Zae (mCB Z6 (Zc (Zd 1) (Zc (mC (.int 4)) Zk)))) Zgg ZN)
def ZaH:SM:=(mIf (Zae (mCB Z6 (Zc (Zd 1) (Zc (mC (.int 2)) Zk)))) (Zq (ZJ ["End"] "theirs" (Zd 0) (mOp ixM (Zd 1) (mC (.int 0))))
      (Zq (zS (mCB ZbS (Zc (Zd 0) (Zc (Zd 1) Zk))))
      (ZJ ["End"] "state" (Zd 0) (mC (.str "syn come"))))) ZN)
def ZaG:SM:=(mIf (Zae (mCB Z6 (Zc (Zd 1) (Zc (mC (.int 16)) Zk)))) (zS (mCB Z1 (Zc (Zd 0) (Zc (Zd 1) Zk)))) ZaH)
def Zau:SM:=(Zq Zaa
  ZaG)
def zA:GM:=ZR 2 2 Zau
def ZeN:SM:=(ZO (ZcG (mOp neM (ZM ["End"] "nxt" (Zd 0)) (ZM ["End"] "first" (Zd 0))) (mOp eqM (mOp ixM (Zd 1) (mC (.int 3))) (mCB zv (Zc (ZM ["End"] "first" (Zd 0)) (Zc (mC (.int 1)) Zk))))))
def ZbJ:GM:=ZR 2 2 ZeN
def Zax:SM:=(mIf (Zae (mCB Z6 (Zc (Zd 1) (Zc (mC (.int 16)) Zk)))) (Zq (ZJ ["End"] "una" (Zd 0) (mOp ixM (Zd 1) (mC (.int 3))))
    (Zq (ZJ ["End"] "state" (Zd 0) (mC (.str "open")))
    (ZJ ["End"] "owes_answer" (Zd 0) (mC (.bl true))))) (Zq (ZJ ["End"] "state" (Zd 0) (mC (.str "syn come")))
    (Zq (zS (mCB zc (Zc (Zd 0) (Zc (Zd 2) Zk))))
    (ZJ ["End"] "owes_syn" (Zd 0) (mC (.bl true))))))
def ZaT:SM:=Zax
def zM:GM:=ZR 3 3 ZaT
def Zev:SM:=(mIf (Zae (mCB Z6 (Zc (Zd 1) (Zc (mC (.int 16)) Zk)))) (Zq (ZJ ["End"] "state" (Zd 0) (mC (.str "closed")))
    (ZJ ["End"] "error" (Zd 0) (mC (.str "refused")))) ZN)
def ZfS:SM:=Zev
def ZeX:GM:=ZR 2 2 ZfS
def zJ:SM:=(mIf (Zae (mCB Z6 (Zc (Zd 1) (Zc (mC (.int 2)) Zk)))) (Zq (zS (mCB ZbS (Zc (Zd 0) (Zc (Zd 1) Zk))))
        (zS (mCB zM (Zc (Zd 0) (Zc (Zd 1) (Zc (Zd 2) Zk)))))) ZN)
def Z8:SM:=(mIf (Zae (mCB Z6 (Zc (Zd 1) (Zc (mC (.int 4)) Zk)))) (zS (mCB ZeX (Zc (Zd 0) (Zc (Zd 1) Zk)))) zJ)
def ZY:SM:=(mIf (ZfA (Zae (mCB Z6 (Zc (Zd 1) (Zc (mC (.int 16)) Zk)))) (Zeq (Zae (mCB ZbJ (Zc (Zd 0) (Zc (Zd 1) Zk)))))) (zS (mCB Z1 (Zc (Zd 0) (Zc (Zd 1) Zk)))) Z8)
def Z5:SM:=ZY
def ZU:GM:=ZR 3 3 Z5
def Zd6:SM:=(ZO (Zer leM ltM (mC (.int 0)) (mCB zG (Zc (Zd 1) (Zc (ZM ["End"] "rcv" (Zd 0)) Zk))) (mCB zU (Zc (Zd 0) Zk))))
def zq:GM:=ZR 2 2 Zd6
def ZfT:SM:=(mIf (ZI (mOp eqM (Zd 2) (mC (.int 0)))) (ZO (Zer leM leM (mC (.int 0)) (mCB zG (Zc (mOp ixM (Zd 1) (mC (.int 2))) (Zc (ZM ["End"] "rcv" (Zd 0)) Zk))) (mC (.int 64)))) ZN)
def Ziw:SM:=(Zq (ZP 2 (mCB ZcD (Zc (Zd 1) Zk)))
  (Zq ZfT
  (Zq (ZP 3 (mCB zv (Zc (mOp ixM (Zd 1) (mC (.int 2))) (Zc (mOp ZeS (Zd 2) (mC (.int 1))) Zk))))
  (ZO (ZlL (mCB zq (Zc (Zd 0) (Zc (mOp ixM (Zd 1) (mC (.int 2))) Zk))) (mCB zq (Zc (Zd 0) (Zc (Zd 3) Zk))))))))
def ZgI:GM:=ZR 2 4 Ziw
def zn:SM:=(mIf (mOr (Zeq (Zae (mCB Zbl (Zc (Zd 0) Zk)))) (ZI (mOp neM (ZM ["End"] "una" (Zd 0)) (ZM ["End"] "nxt" (Zd 0))))) Zgg ZN)
def ZaW:SM:=(mIf (ZI (mOp eqM (ZM ["End"] "state" (Zd 0)) (mC (.str "last ack")))) (ZJ ["End"] "state" (Zd 0) (mC (.str "closed"))) ZN)
def ZaV:SM:=(mIf (ZI (mOp eqM (ZM ["End"] "state" (Zd 0)) (mC (.str "closing")))) (Zq (ZJ ["End"] "state" (Zd 0) (mC (.str "time wait")))
      (ZJ ["End"] "since" (Zd 0) (Zd 1))) ZaW)
def ZaU:SM:=(mIf (ZI (mOp eqM (ZM ["End"] "state" (Zd 0)) (mC (.str "wait one")))) (ZJ ["End"] "state" (Zd 0) (mC (.str "wait two"))) ZaV)
def zu:SM:=(Zq zn
  ZaU)
def ZT:GM:=ZR 2 2 zu
def ZeK:SM:=(Zq (ZJ ["End"] "wnd" (Zd 0) (mOp ixM (Zd 1) (mC (.int 5))))
  (Zq (ZJ ["End"] "told" (Zd 0) (mOp ixM (Zd 1) (mC (.int 2))))
  (ZJ ["End"] "told_by" (Zd 0) (mOp ixM (Zd 1) (mC (.int 3))))))
def ZaI:GM:=ZR 2 2 ZeK
def Zag:SM:=(mIf (mOr (ZI (mOp eqM (ZM ["End"] "nxt" (Zd 0)) (ZM ["End"] "first" (Zd 0)))) (ZI (mOp neM (mOp ixM (Zd 1) (mC (.int 3))) (ZM ["End"] "nxt" (Zd 0))))) (Zq (zS (mCB Z1 (Zc (Zd 0) (Zc (Zd 1) Zk))))
    (ZO (mC (.bl false)))) ZN)
def ZaC:SM:=(Zq Zag
  (Zq (ZJ ["End"] "una" (Zd 0) (mOp ixM (Zd 1) (mC (.int 3))))
  (Zq (ZJ ["End"] "state" (Zd 0) (Zgh (Zae (ZM ["End"] "has_closed" (Zd 0))) (mC (.str "wait one")) (mC (.str "open"))))
  (Zq (zS (mCB ZaI (Zc (Zd 0) (Zc (Zd 1) Zk))))
  (ZO (mC (.bl true)))))))
def zw:GM:=ZR 2 2 ZaC
def Zff:SM:=(mIf (ZI (mOp eqM (mOp ixM (Zd 1) (mC (.int 2))) (ZM ["End"] "told" (Zd 0)))) (ZO (Zns (mCB Zcl (Zc (ZM ["End"] "told_by" (Zd 0)) (Zc (mOp ixM (Zd 1) (mC (.int 3))) Zk))))) ZN)
def Zgt:SM:=(Zq Zff
  (ZO (mCB Zcl (Zc (mOp ixM (Zd 1) (mC (.int 2))) (Zc (ZM ["End"] "told" (Zd 0)) Zk)))))
def Zdd:GM:=ZR 2 2 Zgt
def Zcg:SM:=(mIf (ZI (mOp neM (ZM ["End"] "una" (Zd 0)) (ZM ["End"] "nxt" (Zd 0)))) (zS (mCB zc (Zc (Zd 0) (Zc (Zd 2) Zk)))) ZN)
def ZaB:SM:=(mIf (Zae (Zd 4)) (Zq (zS (mCB Zck (Zc (ZM ["End"] "written" (Zd 0)) (Zc (mCB zG (Zc (Zd 3) (Zc (ZM ["End"] "una" (Zd 0)) Zk))) Zk))))
    (Zq (ZJ ["End"] "una" (Zd 0) (Zd 3))
    Zcg)) ZN)
def ZaA:SM:=(mIf (Zae (mCB Zcl (Zc (ZM ["End"] "una" (Zd 0)) (Zc (Zd 3) Zk)))) Zgg ZN)
def Zbh:SM:=(mIf (mOr (Zae (Zd 4)) (Zae (mCB Zdd (Zc (Zd 0) (Zc (Zd 1) Zk))))) (zS (mCB ZaI (Zc (Zd 0) (Zc (Zd 1) Zk)))) ZN)
def Zbg:SM:=(mIf (mOr (Zae (Zd 5)) (ZI (mOp eqM (ZM ["End"] "wnd" (Zd 0)) (mC (.int 0))))) (ZJ ["End"] "tries" (Zd 0) (mC (.int 0))) ZN)
def Za7:SM:=(Zq (ZP 3 (mOp ixM (Zd 1) (mC (.int 3))))
  (Zq (ZP 4 (mCB Zcl (Zc (Zd 3) (Zc (ZM ["End"] "una" (Zd 0)) Zk))))
  (Zq ZaB
  (Zq ZaA
  (Zq (ZP 5 (mOp eqM (ZM ["End"] "wnd" (Zd 0)) (mC (.int 0))))
  (Zq Zbh
  Zbg))))))
def zV:GM:=ZR 3 6 Za7
def zC:SM:=(mIf (ZI (mOp eqM (ZM ["End"] "state" (Zd 0)) (mC (.str "syn come")))) (ZO (mCB zw (Zc (Zd 0) (Zc (Zd 1) Zk)))) ZN)
def Zah:SM:=(mIf (Zae (mCB Zcl (Zc (mOp ixM (Zd 1) (mC (.int 3))) (Zc (ZM ["End"] "nxt" (Zd 0)) Zk)))) (Zq (ZJ ["End"] "owes_answer" (Zd 0) (mC (.bl true)))
    (ZO (mC (.bl false)))) ZN)
def zL:SM:=(Zq zC
  (Zq Zah
  (Zq (zS (mCB zV (Zc (Zd 0) (Zc (Zd 1) (Zc (Zd 2) Zk)))))
  (Zq (zS (mCB ZT (Zc (Zd 0) (Zc (Zd 2) Zk))))
  (ZO (mOp neM (ZM ["End"] "state" (Zd 0)) (mC (.str "closed"))))))))
def Z2:GM:=ZR 3 3 zL
def Zcu:SM:=(mIf (ZI (mOp eqM (ZM ["End"] "state" (Zd 0)) (mC (.str "time wait")))) Zgg ZN)
def Zct:SM:=(mIf (ZI (mOp eqM (mOp ixM (Zd 1) (mC (.int 2))) (ZM ["End"] "rcv" (Zd 0)))) (Zq (ZJ ["End"] "state" (Zd 0) (mC (.str "closed")))
    (ZJ ["End"] "error" (Zd 0) (mC (.str "reset")))) (ZJ ["End"] "owes_answer" (Zd 0) (mC (.bl true))))
def Zdp:SM:=(Zq Zcu
  Zct)
def Zbt:GM:=ZR 2 2 Zdp
def ZbG:SM:=(ZcL (ZfA (ZI (mOp neM (ZM ["End"] "rcv" (Zd 0)) (ZM ["End"] "early_fin" (Zd 0)))) (ZI (Zq5 (ZM ["End"] "rcv" (Zd 0)) (ZM ["End"] "early" (Zd 0))))) (Zq (Zdy 1 (Znt (ZM ["End"] "early" (Zd 0)) (ZM ["End"] "rcv" (Zd 0))))
    (ZJ ["End"] "rcv" (Zd 0) (mCB zv (Zc (ZM ["End"] "rcv" (Zd 0)) (Zc (mC (.int 1)) Zk))))) 200)
def ZdD:SM:=(Zq (Zgf 1 Zk)
  (Zq ZbG
  (Zc1 1 (zS (mCB Zf7 (Zc (ZM ["End"] "come" (Zd 0)) (Zc (Zd 1) Zk)))))))
def Za2:GM:=ZR 1 2 ZdD
def Zfh:SM:=(mIf (ZI (mOp eqM (ZM ["End"] "state" (Zd 0)) (mC (.str "wait one")))) (ZJ ["End"] "state" (Zd 0) (mC (.str "closing"))) (Zq (ZJ ["End"] "state" (Zd 0) (mC (.str "time wait")))
      (ZJ ["End"] "since" (Zd 0) (Zd 1))))
def Zdq:SM:=(mIf (ZI (mOp eqM (ZM ["End"] "state" (Zd 0)) (mC (.str "open")))) (ZJ ["End"] "state" (Zd 0) (mC (.str "close wait"))) Zfh)
def Zey:SM:=(Zq (ZJ ["End"] "rcv" (Zd 0) (mCB zv (Zc (ZM ["End"] "rcv" (Zd 0)) (Zc (mC (.int 1)) Zk))))
  Zdq)
def Zco:GM:=ZR 2 2 Zey
def Za6:SM:=(mIf (Zae (mCB zq (Zc (Zd 0) (Zc (Zd 4) Zk)))) (zS (ZmF (ZM ["End"] "early" (Zd 0)) (Zd 4) (Zd 3))) ZN)
def ZcU:SM:=(Zq4 (Zc (mOp ixM (Zd 1) (mC (.int 7))) Zk) 2 3 (Zq (ZP 4 (mCB zv (Zc (mOp ixM (Zd 1) (mC (.int 2))) (Zc (Zd 2) Zk))))
    Za6))
def ZcT:SM:=(mIf (ZI (mOp gtM (mCB Zes (Zc (mOp ixM (Zd 1) (mC (.int 7))) Zk)) (mC (.int 0)))) (ZJ ["End"] "owes_answer" (Zd 0) (mC (.bl true))) ZN)
def ZdL:SM:=(Zq ZcU
  ZcT)
def ZbZ:GM:=ZR 2 5 ZdL
def Zdo:SM:=(mIf (Zeq (Zae (mCB Z6 (Zc (Zd 1) (Zc (mC (.int 1)) Zk))))) Zgg ZN)
def ZaS:SM:=(mIf (ZfA (ZI (mOp isM (ZM ["End"] "early_fin" (Zd 0)) (mC .non))) (Zae (mCB zq (Zc (Zd 0) (Zc (Zd 2) Zk))))) (ZJ ["End"] "early_fin" (Zd 0) (Zd 2)) ZN)
def Zex:SM:=(Zq Zdo
  (Zq (ZJ ["End"] "owes_answer" (Zd 0) (mC (.bl true)))
  (Zq (ZP 2 (mCB zv (Zc (mOp ixM (Zd 1) (mC (.int 2))) (Zc (mCB Zes (Zc (mOp ixM (Zd 1) (mC (.int 7))) Zk)) Zk))))
  ZaS)))
def Zcn:GM:=ZR 2 3 Zex
def Zbf:SM:=(mIf (ZI (mOp Zcq (ZM ["End"] "state" (Zd 0)) (Zak (Zc (mC (.str "open")) (Zc (mC (.str "wait one")) (Zc (mC (.str "wait two")) Zk)))))) Zgg ZN)
def Zcf:SM:=(mIf (ZI (mOp eqM (ZM ["End"] "rcv" (Zd 0)) (ZM ["End"] "early_fin" (Zd 0)))) (zS (mCB Zco (Zc (Zd 0) (Zc (Zd 2) Zk)))) ZN)
def ZbP:SM:=(Zq Zbf
  (Zq (zS (mCB ZbZ (Zc (Zd 0) (Zc (Zd 1) Zk))))
  (Zq (zS (mCB Zcn (Zc (Zd 0) (Zc (Zd 1) Zk))))
  (Zq (zS (mCB Za2 (Zc (Zd 0) Zk)))
  Zcf))))
def ZaJ:GM:=ZR 3 3 ZbP
def ZbO:SM:=(mIf (Zae (mCB Z6 (Zc (Zd 1) (Zc (mC (.int 4)) Zk)))) Zgg ZN)
def ZcR:SM:=(mIf (ZfA (ZI (mOp eqM (ZM ["End"] "state" (Zd 0)) (mC (.str "syn come")))) (ZfA (Zae (mCB Z6 (Zc (Zd 1) (Zc (mC (.int 2)) Zk)))) (Zeq (Zae (mCB Z6 (Zc (Zd 1) (Zc (mC (.int 16)) Zk))))))) (ZJ ["End"] "owes_syn" (Zd 0) (mC (.bl true))) (ZJ ["End"] "owes_answer" (Zd 0) (mC (.bl true))))
def ZcQ:SM:=(mIf (ZI (mOp eqM (ZM ["End"] "state" (Zd 0)) (mC (.str "time wait")))) (ZJ ["End"] "since" (Zd 0) (Zd 2)) ZN)
def Zcz:SM:=(Zq ZbO
  (Zq ZcR
  ZcQ))
def Zbk:GM:=ZR 3 3 Zcz
def ZaF:SM:=(mIf (ZfA (Zae (mCB Z6 (Zc (Zd 1) (Zc (mC (.int 16)) Zk)))) (Zae (mCB Z2 (Zc (Zd 0) (Zc (Zd 1) (Zc (Zd 2) Zk)))))) (zS (mCB ZaJ (Zc (Zd 0) (Zc (Zd 1) (Zc (Zd 2) Zk))))) ZN)
def z9:SM:=(mIf (Zae (mCB Z6 (Zc (Zd 1) (Zc (mC (.int 2)) Zk)))) (ZJ ["End"] "owes_answer" (Zd 0) (mC (.bl true))) ZaF)
def zB:SM:=(mIf (Zae (mCB Z6 (Zc (Zd 1) (Zc (mC (.int 4)) Zk)))) (zS (mCB Zbt (Zc (Zd 0) (Zc (Zd 1) Zk)))) z9)
def zl:SM:=(mIf (Zeq (Zae (mCB ZgI (Zc (Zd 0) (Zc (Zd 1) Zk))))) (zS (mCB Zbk (Zc (Zd 0) (Zc (Zd 1) (Zc (Zd 2) Zk))))) zB)
def zz:SM:=zl
def ze:GM:=ZR 3 3 zz
def Zit:SM:=(ZO (ZcG (mOp eqM (mOp ixM (Zd 1) (mC (.int 1))) (ZM ["End"] "ours" (Zd 0))) (ZlL (mOp inM (ZM ["End"] "state" (Zd 0)) (Zak (Zc (mC (.str "closed")) (Zc (mC (.str "listen")) Zk)))) (mOp eqM (mOp ixM (Zd 1) (mC (.int 0))) (ZM ["End"] "theirs" (Zd 0))))))
def ZeY:GM:=ZR 2 2 Zit
def Za1:SM:=(mIf (Zeq (Zae (mCB Zap (Zc (Zd 1) Zk)))) (ZO (mC (.bl false))) ZN)
def Zbz:SM:=(mIf (Zeq (Zae (mCB ZeY (Zc (Zd 0) (Zc (Zd 3) Zk))))) (ZO (mC (.bl false))) ZN)
def Zez:SM:=(mIf (ZI (mOp eqM (ZM ["End"] "state" (Zd 0)) (mC (.str "syn sent")))) (zS (mCB ZU (Zc (Zd 0) (Zc (Zd 3) (Zc (Zd 2) Zk))))) (zS (mCB ze (Zc (Zd 0) (Zc (Zd 3) (Zc (Zd 2) Zk))))))
def Zc4:SM:=(mIf (ZI (mOp eqM (ZM ["End"] "state" (Zd 0)) (mC (.str "listen")))) (zS (mCB zA (Zc (Zd 0) (Zc (Zd 3) Zk)))) Zez)
def Zci:SM:=(mIf (ZI (mOp eqM (ZM ["End"] "state" (Zd 0)) (mC (.str "closed")))) (zS (mCB ZaQ (Zc (Zd 0) (Zc (Zd 3) Zk)))) Zc4)
def ZbW:SM:=(Zq Za1
  (Zq (ZP 3 (mCB ZiY (Zc (Zd 1) Zk)))
  (Zq Zbz
  (Zq Zci
  (ZO (mC (.bl true)))))))
def zb:GM:=ZR 3 4 ZbW
def ZdB:SM:=(mIf (mOr (Zae (ZM ["End"] "has_closed" (Zd 0))) (ZI (mOp Zcq (ZM ["End"] "state" (Zd 0)) (Zak (Zc (mC (.str "syn sent")) (Zc (mC (.str "syn come")) (Zc (mC (.str "open")) (Zc (mC (.str "close wait")) Zk)))))))) (ZO (mC (.int 0))) ZN)
def Zfv:SM:=(Zq ZdB
  (Zq (ZP 2 (mCB Zf7 (Zc (ZM ["End"] "written" (Zd 0)) (Zc (Zd 1) Zk))))
  (Zq (ZJ ["End"] "behind" (Zd 0) (mCB zv (Zc (ZM ["End"] "behind" (Zd 0)) (Zc (Zd 2) Zk))))
  (ZO (Zd 2)))))
def Zcv:GM:=ZR 2 3 Zfv
def Zdn:SM:=(mIf (ZfA (Zae (Zd 2)) (ZfA (ZI (mOp gtM (mCB zU (Zc (Zd 0) Zk)) (mC (.int 0)))) (ZI (mOp inM (ZM ["End"] "state" (Zd 0)) (Zak (Zc (mC (.str "open")) (Zc (mC (.str "wait one")) (Zc (mC (.str "wait two")) Zk)))))))) (ZJ ["End"] "owes_answer" (Zd 0) (mC (.bl true))) ZN)
def Zfa:SM:=(Zq (ZP 2 (mOp eqM (mCB zU (Zc (Zd 0) Zk)) (mC (.int 0))))
  (Zq (ZP 3 (mCB Zck (Zc (ZM ["End"] "come" (Zd 0)) (Zc (Zd 1) Zk))))
  (Zq Zdn
  (ZO (Zd 3)))))
def Zdc:GM:=ZR 2 4 Zfa
def Zl9:SM:=(ZO (mOp zD (mOp ZK (Zd 0) (Zd 1)) (mC (.int 4294967296))))
def Zdh:GM:=ZR 2 2 Zl9
def Zhn:SM:=(mIf (ZI (mOp eqM (mOp zD (Zd 0) (mC (.int 2))) (mC (.int 0)))) (ZO (mOp zD (mOp ZeS (mC (.int 4294967296)) (mOp zD (mOp Zdt (Zd 0) (mC (.int 2))) (mC (.int 90)))) (mC (.int 4294967296)))) ZN)
def Zjm:SM:=(Zq Zhn
  (ZO (Zd 0)))
def Zfr:GM:=ZR 1 1 Zjm
def Zma:SM:=(ZO (ZcG (mCB Zhh (Zc (Zd 0) (Zc (mC (.ty "int")) Zk))) (ZcG (Zns (mCB Zhh (Zc (Zd 0) (Zc (mC (.ty "bool")) Zk)))) (Zer leM leM (mC (.int 0)) (Zd 0) (mC (.int 255))))))
def ZfP:GM:=ZR 1 1 Zma
def b_l_read_1:SM:=(mIf (mOr (Zeq (Zae (mCB Zhh (Zc (Zd 0) (Zc (mC (.ty "list")) Zk))))) (ZI (mOp ltM (mCB Zes (Zc (Zd 0) Zk)) (mC (.int 20))))) (ZO (mC .non)) ZN)
def b_l_read_2:SM:=(mIf (Zeq (Zae (mCB Zou (Zc (ZeH (mIn (Zd 0)) [] (mCB ZfP (Zc (Zd 0) Zk))) Zk)))) (ZO (mC .non)) ZN)
def b_l_read_3:SM:=(mIf (mOr (ZI (mOp Zcq (mOp ixM (Zd 0) (mC (.int 12))) (Zak (Zc (mC (.int 80)) (Zc (mC (.int 96)) Zk))))) (mOr (ZI (mOp gtM (mOp ixM (Zd 0) (mC (.int 13))) (mC (.int 31)))) (ZI (mOp gtM (mOp ZK (mOp ixM (Zd 0) (mC (.int 18))) (mOp ixM (Zd 0) (mC (.int 19)))) (mC (.int 0)))))) (ZO (mC .non)) ZN)
def b_l_read_4:SM:=(mIf (mOr (Zeq (ZI (Zer leM leM (Zd 1) (mCB Zes (Zc (Zd 0) Zk)) (mOp ZK (Zd 1) (mC (.int 16)))))) (ZI (mOp neM (mCB Zbp (Zc (Zd 0) Zk)) (mC (.int 65535))))) (ZO (mC .non)) ZN)
def Zds:SM:=(mIf (mOr (ZI (mOp eqM (mOp zD (mOp Zdt (mOp ixM (Zd 0) (mC (.int 13))) (mC (.int 2))) (mC (.int 2))) (mC (.int 0)))) (mOr (ZI (mOp neM (mSl (Zd 0) (zO (mC (.int 20))) (zO (mC (.int 22)))) (Zb5 (Zc (mC (.int 2)) (Zc (mC (.int 4)) Zk))))) (ZI (mOp ltM (Zd 2) (mC (.int 4)))))) (ZO (mC .non)) ZN)
def b_l_read_6:SM:=(mIf (ZI (mOp eqM (Zd 1) (mC (.int 24)))) (Zq (ZP 2 (mOp ZK (mOp Zba (mOp ixM (Zd 0) (mC (.int 22))) (mC (.int 256))) (mOp ixM (Zd 0) (mC (.int 23)))))
    Zds) ZN)
def Zeb:SM:=(Zq b_l_read_1
  (Zq b_l_read_2
  (Zq (ZP 1 (mOp Zdt (mOp ixM (Zd 0) (mC (.int 12))) (mC (.int 4))))
  (Zq b_l_read_3
  (Zq b_l_read_4
  (Zq (ZP 2 (mC (.int 0)))
  (Zq b_l_read_6
  (Zq (ZP 3 (ZeH (ZcW (Zc (mC (.int 8)) Zk)) [0] (mOp ZK (mOp Zba (mC (.int 256)) (mOp ixM (Zd 1) (mOp Zba (mC (.int 2)) (Zd 0)))) (mOp ixM (Zd 1) (mOp ZK (mOp Zba (mC (.int 2)) (Zd 0)) (mC (.int 1)))))))
  (Zq (ZP 4 (Zak (Zc (mOp ixM (Zd 3) (mC (.int 0))) (Zc (mOp ixM (Zd 3) (mC (.int 1))) (Zc (mOp ZK (mOp Zba (mOp ixM (Zd 3) (mC (.int 2))) (mC (.int 65536))) (mOp ixM (Zd 3) (mC (.int 3)))) (Zc (mOp ZK (mOp Zba (mOp ixM (Zd 3) (mC (.int 4))) (mC (.int 65536))) (mOp ixM (Zd 3) (mC (.int 5)))) Zk))))))
  (ZO (mOp ZK (Zd 4) (Zak (Zc (mOp ixM (Zd 0) (mC (.int 13))) (Zc (mOp ixM (Zd 3) (mC (.int 7))) (Zc (Zd 2) (Zc (mCB ZfK (Zc (mSl (Zd 0) (zO (Zd 1)) zh) Zk)) Zk))))))))))))))))
def Zb9:GM:=ZR 1 5 Zeb
def ZdG:SM:=(mIf (ZI (mOp eqM (Zd 4) (Zb5 Zk))) (Zc1 2 (ZO (Zd 2))) ZN)
def Zfk:SM:=(ZeP (ZcW (Zc (mC (.int 40)) Zk)) (gNm 3) (Zq (ZP 4 (mCB ZcN (Zc (Zd 0) (Zc (Zd 1) Zk))))
    (Zq ZdG
    (Zdy 2 (mCB Zb9 (Zc (Zd 4) Zk))))))
def Zg5:SM:=(Zq (Zgf 2 Zk)
  (Zq Zfk
  (Zc1 2 (ZO (Zd 2)))))
def Zc2:GM:=ZR 2 5 Zg5
def Zix:SM:=(Zq (ZP 4 (Zak (Zc (mOp zD (mCB zP (Zc (Zd 0) (Zc (Zd 1) Zk))) (mC (.int 65536))) (Zc (mOp zD (mCB zP (Zc (Zd 0) (Zc (mOp ZK (Zd 1) (mC (.int 1))) Zk))) (mC (.int 65536))) Zk))))
  (Zq (ZP 5 (mCB Zfr (Zc (mCB zP (Zc (Zd 0) (Zc (mOp ZK (Zd 1) (mC (.int 2))) Zk))) Zk)))
  (Zq (ZP 6 (mCB Zfr (Zc (mCB zP (Zc (Zd 0) (Zc (mOp ZK (Zd 1) (mC (.int 3))) Zk))) Zk)))
  (Zq (ZP 7 (mCB ZcC (Zc (mOp ixM (Zd 4) (mC (.int 0))) (Zc (mC (.int 7)) (Zc (Zd 5) (Zc (mC (.bl false)) Zk))))))
  (Zq (zS (mCB zb (Zc (Zd 7) (Zc (mCB ZaO (Zc (Zak (Zc (mOp ixM (Zd 4) (mC (.int 1))) (Zc (mOp ixM (Zd 4) (mC (.int 0))) (Zc (Zd 6) (Zc (mC (.int 0)) (Zc (mC (.int 2)) (Zc (Zd 2) (Zc (Zd 3) (Zc (Zak Zk) Zk))))))))) Zk)) (Zc (mC (.int 0)) Zk)))))
  (Zq (zS (mCB ZcN (Zc (Zd 7) (Zc (mC (.int 0)) Zk))))
  (Zq (zS (mCB zb (Zc (Zd 7) (Zc (mCB ZaO (Zc (Zak (Zc (mOp ixM (Zd 4) (mC (.int 1))) (Zc (mOp ixM (Zd 4) (mC (.int 0))) (Zc (mCB Zdh (Zc (Zd 6) (Zc (mC (.int 1)) Zk))) (Zc (mCB Zdh (Zc (Zd 5) (Zc (mC (.int 1)) Zk))) (Zc (mC (.int 16)) (Zc (Zd 2) (Zc (mC (.int 0)) (Zc (Zak Zk) Zk))))))))) Zk)) (Zc (mC (.int 0)) Zk)))))
  (ZO (Zak (Zc (Zd 7) (Zc (Zd 4) (Zc (mCB Zdh (Zc (Zd 5) (Zc (mC (.int 1)) Zk))) (Zc (mCB Zdh (Zc (Zd 6) (Zc (mC (.int 1)) Zk))) Zk)))))))))))))
def Zd0:GM:=ZR 4 8 Zix
end
end My
namespace My
open PySem L2 L2.MM
noncomputable section
def bears (s:Seg) (f:Int):Bool:=decide (bit s.flags f=1)
def Zod (s:Seg):Int:=s.data.length+bit s.flags 2+bit s.flags 1
def ZdS (s:Seg):Seg:=if bears s 16=true then ⟨s.goal,s.src,s.ans,0,4,0,0,[]⟩ else ⟨s.goal,s.src,0,ZF s.num (Zod s),20,0,0,[]⟩
def ZaR (e:Zu) (s:Seg):Zu:=if bears s 4=true then e else { e with owed_reset:=some (ZdS s) }
def hearSyn (e:Zu) (s:Seg):Zu:={ e with rcv:=ZF s.num 1,wnd:=s.win,told:=s.num,told_by:=if bears s 16=true then s.ans else 0,most:=if s.most=0 then e.most else s.most }
def Zbs (e:Zu) (s:Seg):Zu:=
  if bears s 4=true then e
  else if bears s 16=true then ZaR e s
  else if bears s 2=true then { hearSyn { e with theirs:=s.src } s with state:=.synCome }
  else e
def ZbX (e:Zu) (s:Seg):Bool:=!decide (e.nxt=e.first) && decide (s.ans=ZF e.first 1)
def z8 (e:Zu) (s:Seg) (now:Int):Zu:=
  if bears s 16=true∧ZbX e s=false then ZaR e s
  else if bears s 4=true then (if bears s 16=true then { e with state:=.closed,error:=.refused } else e)
  else if bears s 2=true then
    (if bears s 16=true then { hearSyn e s with una:=s.ans,state:=.opn,owes_answer:=true }
     else { ZV { hearSyn e s with state:=.synCome } now with owes_syn:=true })
  else e
def Zdi (e:Zu) (s:Seg):Bool:=decide (s.goal=e.ours) && (decide (e.state∈[State.closed,.listen]) || decide (s.src=e.theirs))
section
variable {θ:Sto} {l:Nat} {e:Zu} {s:Seg} {now f:Int}
@[simp] theorem Zxj:Z6 [s.d,.int f] θ=.ok (.bl (bears s f)) θ:=by
  simp [Z6,Zjl,bears]
theorem ZgB:ZcD [s.d] θ=.ok (.int (Zod s)) θ:=Zp7 s θ
@[simp] theorem Ztf:ZbY [s.d] θ=.ok (ZdS s).d θ:=by
  by_cases c:bears s 16=true
  · simp [ZbY,ZdI,ZcS,c,ZdS,Zjw]
  · simp [ZbY,ZdI,ZcS,c,ZdS,Zjw,ZgB]
@[simp] theorem Ztg (h:l+3 < θ.length):Z1 [.ref l,s.d] (upE θ l e)=.ok .non (upE θ l (ZaR e s)):=by
  by_cases c:bears s 4=true
  · simp [Z1,Zcd,ZbE,h,c,ZaR]
  · simp [Z1,Zcd,ZbE,h,c,ZaR]
@[simp] theorem ZnS (h:l+3 < θ.length):ZaQ [.ref l,s.d] (upE θ l e)=.ok .non (upE θ l (ZaR e s)):=by
  simp [ZaQ,Zdr,h]
@[simp] theorem Zt7 (h:l+3 < θ.length):ZbS [.ref l,s.d] (upE θ l e)=.ok .non (upE θ l (hearSyn e s)):=by
  by_cases c:bears s 16=true<;>by_cases c2:s.most=0<;>simp [ZbS,Zgu,Zfg,h,c,c2,hearSyn]
@[simp] theorem ZnR (h:l+3 < θ.length):zA [.ref l,s.d] (upE θ l e)=.ok .non (upE θ l (Zbs e s)):=by
  by_cases c:bears s 4=true
  · simp [zA,Zau,Zaa,h,c,Zbs]
  · by_cases c1:bears s 16=true
    · simp [zA,Zau,Zaa,ZaH,ZaG,h,c,c1,Zbs]
    · by_cases c2:bears s 2=true
      · simp [zA,Zau,Zaa,ZaH,ZaG,h,c,c1,c2,Zbs]
      · simp [zA,Zau,Zaa,ZaH,ZaG,h,c,c1,c2,Zbs]
@[simp] theorem ZrT (h:l+3 < θ.length):ZbJ [.ref l,s.d] (upE θ l e)=.ok (.bl (ZbX e s)) (upE θ l e):=by
  by_cases c:e.nxt=e.first<;>simp [ZbJ,ZeN,h,ZbX,c]
@[simp] theorem Zmi (h:l+3 < θ.length):ZU [.ref l,s.d,.int now] (upE θ l e)=.ok .non (upE θ l (z8 e s now)):=by
  by_cases c:bears s 16=true
  · by_cases c1:ZbX e s=true
    · by_cases c2:bears s 4=true
      · simp [ZU,Z5,ZY,Z8,ZeX,ZfS,Zev,h,c,c1,c2,z8]
      · by_cases c3:bears s 2=true
        · simp [ZU,Z5,ZY,Z8,zJ,zM,ZaT,Zax,h,c,c1,c2,c3,z8]
        · simp [ZU,Z5,ZY,Z8,zJ,h,c,c1,c2,c3,z8]
    · simp [ZU,Z5,ZY,h,c,c1,z8]
  · by_cases c2:bears s 4=true
    · simp [ZU,Z5,ZY,Z8,ZeX,ZfS,Zev,h,c,c2,z8]
    · by_cases c3:bears s 2=true
      · simp [ZU,Z5,ZY,Z8,zJ,zM,ZaT,Zax,h,c,c2,c3,z8]
      · simp [ZU,Z5,ZY,Z8,zJ,h,c,c2,c3,z8]
@[simp] theorem Zv0 (h:l+3 < θ.length):ZeY [.ref l,s.d] (upE θ l e)=.ok (.bl (Zdi e s)) (upE θ l e):=by
  simp [ZeY,Zit,h,Zdi]
theorem Zlj (h:l+3 < θ.length) {r:List Int} (hb:Byt r) (hr:zI r=false):zb [.ref l,il r,.int now] (upE θ l e)=.ok (.bl false) (upE θ l e):=by
  simp [zb,ZbW,Za1,ZbQ hb,hr]
theorem ZhR (h:l+3 < θ.length) {r:List Int} (hb:Byt r) (hr:zI r=true) (hf:Zdi e (Zbc r)=false):zb [.ref l,il r,.int now] (upE θ l e)=.ok (.bl false) (upE θ l e):=by
  simp [zb,ZbW,Za1,Zbz,ZbQ hb,hr,Zlh hb hr,h,hf]
theorem Zhu (h:l+3 < θ.length) {r:List Int} (hb:Byt r) (hr:zI r=true) (hf:Zdi e (Zbc r)=true) (hs:e.state=.closed):zb [.ref l,il r,.int now] (upE θ l e)=.ok (.bl true) (upE θ l (ZaR e (Zbc r))):=by
  simp [zb,ZbW,Za1,Zbz,Zci,ZbQ hb,hr,Zlh hb hr,h,hf,hs]
theorem Zht (h:l+3 < θ.length) {r:List Int} (hb:Byt r) (hr:zI r=true) (hf:Zdi e (Zbc r)=true) (hs:e.state=.listen):zb [.ref l,il r,.int now] (upE θ l e)=.ok (.bl true) (upE θ l (Zbs e (Zbc r))):=by
  simp [zb,ZbW,Za1,Zbz,Zci,Zc4,ZbQ hb,hr,Zlh hb hr,h,hf,hs]
theorem ZgD (h:l+3 < θ.length) {r:List Int} (hb:Byt r) (hr:zI r=true) (hf:Zdi e (Zbc r)=true) (hs:e.state=.synSent):zb [.ref l,il r,.int now] (upE θ l e)=.ok (.bl true) (upE θ l (z8 e (Zbc r) now)):=by
  simp [zb,ZbW,Za1,Zbz,Zci,Zc4,Zez,ZbQ hb,hr,Zlh hb hr,h,hf,hs]
@[simp] theorem Zxi {n k:Int}:Zdh [.int n,.int k] θ=.ok (.int (ZF n k)) θ:=by simp [Zdh,Zl9,ZF]
def Zbx (n:Int):Int:=if n % 2=0 then (4294967296-n/2 % 90) % 4294967296 else n
@[simp] theorem ZvZ {n:Int}:Zfr [.int n] θ=.ok (.int (Zbx n)) θ:=by
  by_cases c:n % 2=0<;>simp [Zfr,Zjm,Zhn,Zbx,c]
end
end
end My
namespace My
open PySem L2 L2.MM
noncomputable section
section
variable {θ:Sto} {ρ:List Sl} {fi fo fe ff:EM} {fa:AM} {i j k:Nat} {b:SM} {x:D} {r:List D}
theorem nr' {p:Prop} (h:p):p:=h
@[simp] theorem ZAQ:Zq5 fi fo ρ θ=(fi ρ θ).bind fun y θ=>(fo ρ θ).bind fun d θ=>match ZlO y,ZgW θ d with
  | some k,some (_,kvs)=>.ok (.bl (valD kvs k).isSome) θ
  | _,_=>.bad:=nr' rfl
@[simp] theorem Zzy:Znt fo fe ρ θ=(fo ρ θ).bind fun d θ=>match ZgW θ d with
  | none=>.bad
  | some _=>(fe ρ θ).bind fun y θ=>match ZlO y,ZgW θ d with
    | some k,some (l,kvs)=>match valD kvs k with
      | some v=>.ok v (θ.set l (.dK (dropD kvs k)))
      | none=>.bad
    | _,_=>.bad:=nr' rfl
@[simp] theorem Zxc:ZmF fo fe ff ρ θ=(fo ρ θ).bind fun d θ=>match ZgW θ d with
  | none=>.bad
  | some _=>(fe ρ θ).bind fun y θ=>(ff ρ θ).bind fun z θ=>match ZlO y,ZgW θ d with
    | some k,some (l,kvs)=>if kvs.length<BIG then (match valD kvs k with
      | some v=>.ok v θ
      | none=>.ok z (θ.set l (.dK (putD kvs k z)))) else .bad
    | _,_=>.bad:=nr' rfl
@[simp] theorem Zzv {n:Int}:ZlO (.int n)=some (.inl n):=nr' rfl
end
abbrev EL:=List (Int×Int)
def atE (m:EL) (n:Int):Option Int:=(m.find? fun p=>decide (p.1=n)).map (·.2)
def ZcX (m:EL) (n:Int):EL:=m.filter fun p=>decide (p.1≠n)
def Zgk (m:EL) (n b:Int):EL:=match atE m n with | some _=>m | none=>m++[(n,b)]
abbrev ed (p:Int×Int):Key×D:=(Sum.inl p.1,D.int p.2)
theorem ZfY (n:Int):∀m:EL,valD (m.map ed) (.inl n)=(atE m n).map D.int
  | []=>rfl
  | p::r=>by
    have ih:=ZfY n r
    unfold valD atE at ih ⊢
    by_cases e:p.1=n
    · simp [ed,e]
    · simpa [ed,e] using ih
theorem Zl0 (n:Int):∀m:EL,dropD (m.map ed) (.inl n)=(ZcX m n).map ed
  | []=>rfl
  | p::r=>by
    have ih:=Zl0 n r
    unfold dropD ZcX at ih ⊢
    by_cases e:p.1=n
    · simpa [ed,e] using ih
    · simpa [ed,e] using ih
theorem ZrJ (n:Int):∀m:EL,((m.map ed).any fun kv=>decide (kv.1=Sum.inl n))=(atE m n).isSome
  | []=>rfl
  | p::r=>by
    have ih:=ZrJ n r
    unfold atE at ih ⊢
    by_cases e:p.1=n
    · simp [ed,e]
    · simpa [ed,e] using ih
theorem Zsk (n b:Int) (m:EL) (h:atE m n=none):putD (m.map ed) (.inl n) (.int b)=(m++[(n,b)]).map ed:=by
  unfold putD
  rw [ZrJ,h]
  simp [ed]
section
variable {θ:Sto} {l:Nat} {e:Zu} {s:Seg} {now:Int}
theorem dk3 (h:l+3 < θ.length):ZgW (upE θ l e) (.ref (l+3))=some (l+3,e.early.map ed):=by
  have:(upE θ l e)[l+3]?=some (c3 e):=by
    unfold upE
    rw [List.getElem?_set_self (by simpa using h)]
  show (match (upE θ l e)[l+3]? with | some (Cell.dK kvs)=>some (l+3,kvs) | _=>none)=_
  rw [this]
  rfl
theorem Zv8 (h:l+3 < θ.length) (m:EL):(upE θ l e).set (l+3) (.dK (m.map ed))=upE θ l { e with early:=m }:=by
  unfold upE
  rw [List.set_set]
  rfl
end
def inWin (e:Zu) (n:Int):Bool:=decide (0≤zr n e.rcv) && decide (zr n e.rcv<ZX e)
def Zie (e:Zu) (s:Seg):Bool:=if Zod s=0 then decide (0≤zr s.num e.rcv) && decide (zr s.num e.rcv≤64) else inWin e s.num || inWin e (ZF s.num (Zod s-1))
def ZdO (e:Zu) (s:Seg) (now:Int):Zu:=
  if bears s 4=true then e
  else if e.state=.timeWait then { e with owes_answer:=true,since:=now }
  else if e.state=.synCome∧bears s 2=true∧bears s 16=false then { e with owes_syn:=true }
  else { e with owes_answer:=true }
def Zd2 (e:Zu) (s:Seg):Zu:=if e.state=.timeWait then e else if s.num=e.rcv then { e with state:=.closed,error:=.reset } else { e with owes_answer:=true }
def Zb8 (a b:Int):Bool:=decide (0<zr a b)
def Zeg (e:Zu) (s:Seg):Zu:={ e with wnd:=s.win,told:=s.num,told_by:=s.ans }
def Zaj (e:Zu) (s:Seg):Bool×Zu:=
  if e.nxt=e.first∨¬s.ans=e.nxt then (false,ZaR e s)
  else (true,Zeg { e with una:=s.ans,state:=if e.has_closed=true then .waitOne else .opn } s)
def isNewer (e:Zu) (s:Seg):Bool:=if s.num=e.told then !Zb8 e.told_by s.ans else Zb8 s.num e.told
def Zcy (e:Zu) (s:Seg) (now:Int):Zu:=
  if Zb8 s.ans e.una=true then
    (if s.ans=e.nxt then { e with written:=e.written.drop (zr s.ans e.una).toNat,una:=s.ans } else ZV { e with written:=e.written.drop (zr s.ans e.una).toNat,una:=s.ans } now)
  else e
def zQ (e:Zu) (s:Seg) (now:Int):Zu:=
  let e1:=Zcy e s now
  if Zb8 e1.una s.ans=true then e1
  else
    let e2:=if (Zb8 s.ans e.una || isNewer e1 s)=true then Zeg e1 s else e1
    if e1.wnd=0∨e2.wnd=0 then { e2 with tries:=0 } else e2
def Zhz (e:Zu):Bool:=Zb8 e.nxt e.behind
def Za5 (e:Zu) (now:Int):Zu:=
  if Zhz e=false∨¬e.una=e.nxt then e
  else if e.state=.waitOne then { e with state:=.waitTwo }
  else if e.state=.closing then { e with state:=.timeWait,since:=now }
  else if e.state=.lastAck then { e with state:=.closed }
  else e
def Zbb (e:Zu) (s:Seg) (now:Int):Bool×Zu:=
  if e.state=.synCome then Zaj e s
  else if Zb8 s.ans e.nxt=true then (false,{ e with owes_answer:=true })
  else (!decide ((Za5 (zQ e s now) now).state=.closed),Za5 (zQ e s now) now)
def keepAll (e:Zu) (num:Int):Nat→List Int→Zu
  | _,[]=>e
  | k,b::r=>keepAll (if inWin e (ZF num k)=true then { e with early:=Zgk e.early (ZF num k) b } else e) num (k+1) r
def keepData (e:Zu) (s:Seg):Zu:=if 0<s.data.length then { keepAll e s.num 0 s.data with owes_answer:=true } else keepAll e s.num 0 s.data
def keepFin (e:Zu) (s:Seg):Zu:=
  if bears s 1=false then e
  else if e.early_fin=none∧inWin e (ZF s.num s.data.length)=true then { e with owes_answer:=true,early_fin:=some (ZF s.num s.data.length) }
  else { e with owes_answer:=true }
def drawn:Nat→Zu→List Int×Zu
  | 0,e=>([],e)
  | n+1,e=>if e.early_fin=some e.rcv then ([],e) else match atE e.early e.rcv with
    | none=>([],e)
    | some b=>(b::(drawn n { e with early:=ZcX e.early e.rcv,rcv:=ZF e.rcv 1 }).1,(drawn n { e with early:=ZcX e.early e.rcv,rcv:=ZF e.rcv 1 }).2)
def Zgj (e:Zu) (r:List Int):Zu:={ e with come:=e.come++Zaw r none (some (ZX e)) }
def Zfs (e:Zu) (now:Int):Zu:=
  if e.state=.opn then { e with rcv:=ZF e.rcv 1,state:=.closeWait }
  else if e.state=.waitOne then { e with rcv:=ZF e.rcv 1,state:=.closing }
  else { e with rcv:=ZF e.rcv 1,state:=.timeWait,since:=now }
section
variable {θ:Sto} {l:Nat} {e:Zu} {s:Seg} {now n a b:Int}
@[simp] theorem ZzF:Zcl [.int a,.int b] θ=.ok (.bl (Zb8 a b)) θ:=by simp [Zcl,Zl8,Zb8]
@[simp] theorem ZtY (h:l+3 < θ.length):Zbl [.ref l] (upE θ l e)=.ok (.bl (Zhz e)) (upE θ l e):=by
  simp [Zbl,Zd7,h,Zhz]
@[simp] theorem Zti (h:l+3 < θ.length):zq [.ref l,.int n] (upE θ l e)=.ok (.bl (inWin e n)) (upE θ l e):=by
  by_cases c:0≤zr n e.rcv<;>simp [zq,Zd6,h,inWin,ZX,c]<;>exact decide_eq_decide.mpr Iff.rfl
@[simp] theorem ZzG (h:l+3 < θ.length):ZgI [.ref l,s.d] (upE θ l e)=.ok (.bl (Zie e s)) (upE θ l e):=by
  by_cases c:Zod s=0
  · by_cases c1:0≤zr s.num e.rcv<;>simp [ZgI,Ziw,ZfT,h,ZgB,c,c1,Zie]
  · by_cases c1:inWin e s.num=true<;>simp [ZgI,Ziw,ZfT,h,ZgB,c,c1,Zie]
@[simp] theorem Zte (h:l+3 < θ.length):Zbk [.ref l,s.d,.int now] (upE θ l e)=.ok .non (upE θ l (ZdO e s now)):=by
  by_cases c4:bears s 4=true
  · simp [Zbk,Zcz,ZbO,h,c4,ZdO]
  · by_cases ct:e.state=.timeWait
    · simp [Zbk,Zcz,ZbO,ZcR,ZcQ,h,c4,ct,ZdO]
    · by_cases cs:e.state=.synCome<;>by_cases c2:bears s 2=true<;>by_cases c16:bears s 16=true<;>simp [Zbk,Zcz,ZbO,ZcR,ZcQ,h,c4,ct,cs,c2,c16,ZdO]
@[simp] theorem Zr4 (h:l+3 < θ.length):Zbt [.ref l,s.d] (upE θ l e)=.ok .non (upE θ l (Zd2 e s)):=by
  by_cases ct:e.state=.timeWait
  · simp [Zbt,Zdp,Zcu,Zct,h,ct,Zd2]
  · by_cases c:s.num=e.rcv<;>simp [Zbt,Zdp,Zcu,Zct,h,ct,c,Zd2]
@[simp] theorem ZrP (h:l+3 < θ.length):ZaI [.ref l,s.d] (upE θ l e)=.ok .non (upE θ l (Zeg e s)):=by
  simp [ZaI,ZeK,h,Zeg]
@[simp] theorem Zqa (h:l+3 < θ.length):zw [.ref l,s.d] (upE θ l e)=.ok (.bl (Zaj e s).1) (upE θ l (Zaj e s).2):=by
  by_cases c1:e.nxt=e.first
  · simp [zw,ZaC,Zag,h,c1,Zaj]
  · by_cases c2:s.ans=e.nxt
    · by_cases c3:e.has_closed=true<;>simp [zw,ZaC,Zag,h,c1,c2,c3,Zaj]
    · simp [zw,ZaC,Zag,h,c1,c2,Zaj]
@[simp] theorem Zt5 (h:l+3 < θ.length):Zdd [.ref l,s.d] (upE θ l e)=.ok (.bl (isNewer e s)) (upE θ l e):=by
  by_cases c:s.num=e.told<;>simp [Zdd,Zgt,Zff,h,c,isNewer]
theorem Zr0 (h:l+3 < θ.length):Zck [.ref (l+1),.int n] (upE θ l e)=.ok (il (e.written.take n.toNat)) (upE θ l { e with written:=e.written.drop n.toNat }):=by
  by_cases c:0<n
  · simp [Zck,Zdm,h,Zcc,ZbL,c,show 0≤n by omega,show ¬n<0 by omega]
  · have z:n.toNat=0:=by omega
    by_cases c0:n<0
    · simp [Zck,Zdm,h,Zcc,ZbL,z,c0,Zdj]
    · have n0:n=0:=by omega
      simp [Zck,Zdm,h,Zcc,ZbL,n0,Zdj]
theorem ZrZ (h:l+3 < θ.length):Zck [.ref (l+2),.int n] (upE θ l e)=.ok (il (e.come.take n.toNat)) (upE θ l { e with come:=e.come.drop n.toNat }):=by
  by_cases c:0<n
  · simp [Zck,Zdm,h,Zcc,ZbL,c,show 0≤n by omega,show ¬n<0 by omega]
  · have z:n.toNat=0:=by omega
    by_cases c0:n<0
    · simp [Zck,Zdm,h,Zcc,ZbL,z,c0,Zdj]
    · have n0:n=0:=by omega
      simp [Zck,Zdm,h,Zcc,ZbL,n0,Zdj]
@[simp] theorem ZrR (h:l+3 < θ.length):zV [.ref l,s.d,.int now] (upE θ l e)=.ok .non (upE θ l (zQ e s now)):=by
  have tk:=fun (e:Zu) (n:Int)=>Zr0 (θ:=θ) (l:=l) (e:=e) (n:=n) h
  have h2:ZaB [.val (.ref l),.val s.d,.val (.int now),.val (.int s.ans),.val (.bl (Zb8 s.ans e.una)),.no] (upE θ l e)=.ok (.nx,[.val (.ref l),.val s.d,.val (.int now),.val (.int s.ans),.val (.bl (Zb8 s.ans e.una)),.no]) (upE θ l (Zcy e s now)):=by
    unfold Zcy
    by_cases c1:Zb8 s.ans e.una=true
    · rw [if_pos c1]
      by_cases c2:s.ans=e.nxt
      · rw [if_pos c2,c1]
        simp [ZaB,Zcg,h,tk,c2]
      · rw [if_neg c2,c1]
        simp [ZaB,Zcg,h,tk,c2]
    · rw [if_neg c1]
      simp [ZaB,c1]
  unfold zQ
  obtain ⟨e1,he1⟩:∃x,x=Zcy e s now:=⟨_,rfl⟩
  rw [←he1] at h2 ⊢
  obtain ⟨g,hg⟩:∃x,x=Zb8 s.ans e.una:=⟨_,rfl⟩
  rw [←hg] at h2 ⊢
  clear he1
  by_cases c3:Zb8 e1.una s.ans=true
  · simp [zV,Za7,h,←hg,h2,ZaA,c3]
  · have w0:∀x:Zu,(if (g || isNewer e1 s)=true then Zeg e1 s else e1)=x→zV [.ref l,s.d,.int now] (upE θ l e)=.ok .non (upE θ l (if e1.wnd=0∨x.wnd=0 then { x with tries:=0 } else x)):=by
      intro x hx
      have h4:Zbh [.val (.ref l),.val s.d,.val (.int now),.val (.int s.ans),.val (.bl g),.val (.bl (decide (e1.wnd=0)))] (upE θ l e1)=.ok (.nx,[.val (.ref l),.val s.d,.val (.int now),.val (.int s.ans),.val (.bl g),.val (.bl (decide (e1.wnd=0)))]) (upE θ l x):=by
        rw [←hx]
        cases g
        · by_cases c:isNewer e1 s=true<;>simp [Zbh,h,c]
        · simp [Zbh,h]
      by_cases c5:e1.wnd=0
      · rw [if_pos (.inl c5)]
        simp [zV,Za7,h,←hg,h2,ZaA,c3,c5] at h4 ⊢
        simp [h4,Zbg,h]
      · by_cases c6:x.wnd=0
        · rw [if_pos (.inr c6)]
          simp [zV,Za7,h,←hg,h2,ZaA,c3,c5] at h4 ⊢
          simp [h4,Zbg,h,c6]
        · rw [if_neg (by intro z; exact z.elim c5 c6)]
          simp [zV,Za7,h,←hg,h2,ZaA,c3,c5] at h4 ⊢
          simp [h4,Zbg,h,c6]
    simp only [if_neg c3]
    exact w0 _ rfl
@[simp] theorem Ztk (h:l+3 < θ.length):ZT [.ref l,.int now] (upE θ l e)=.ok .non (upE θ l (Za5 e now)):=by
  by_cases c1:Zhz e=true
  · by_cases c2:e.una=e.nxt
    · cases c:e.state<;>simp [ZT,zu,zn,ZaW,ZaV,ZaU,h,c,c1,c2,Za5]
    · simp [ZT,zu,zn,h,c1,c2,Za5]
  · simp [ZT,zu,zn,h,c1,Za5]
@[simp] theorem Zvu (h:l+3 < θ.length):Z2 [.ref l,s.d,.int now] (upE θ l e)=.ok (.bl (Zbb e s now).1) (upE θ l (Zbb e s now).2):=by
  by_cases c1:e.state=.synCome
  · simp [Z2,zL,zC,h,c1,Zbb]
  · by_cases c2:Zb8 s.ans e.nxt=true
    · simp [Z2,zL,zC,Zah,h,c1,c2,Zbb]
    · simp [Z2,zL,zC,Zah,h,c1,c2,Zbb]
end
end
end My
namespace My
open PySem L2 L2.MM
noncomputable section
theorem Zi9 (m:EL) (n b:Int):(Zgk m n b).length≤m.length+1:=by
  unfold Zgk
  cases atE m n<;>simp
section
variable {θ:Sto} {l:Nat} {e:Zu} {s:Seg} {now n b:Int}
abbrev keepB:SM:=Zq (ZP 4 (mCB zv (Zc (mOp ixM (Zd 1) (mC (.int 2))) (Zc (Zd 2) Zk)))) Za6
theorem Zr3 (h:l+3 < θ.length) (k:Nat) (x:Sl) (he:e.early.length<1000):keepB [.val (.ref l),.val s.d,.val (.int k),.val (.int b),x] (upE θ l e)=.ok (.nx,[.val (.ref l),.val s.d,.val (.int k),.val (.int b),.val (.int (ZF s.num k))]) (upE θ l (if inWin e (ZF s.num k)=true then { e with early:=Zgk e.early (ZF s.num k) b } else e)):=by
  have hd:=fun (e:Zu)=>dk3 (θ:=θ) (l:=l) (e:=e) h
  have hs:=fun (e:Zu) (m:EL)=>Zv8 (θ:=θ) (l:=l) (e:=e) h m
  have hB:(e.early.map ed).length<BIG:=by simp [BIG]; omega
  obtain ⟨n,hn⟩:∃n,n=ZF s.num k:=⟨_,rfl⟩
  by_cases c:inWin e n=true
  · unfold Zgk
    cases c2:atE e.early n with
    | some v=>
      simp [Za6,h,←hn,c,hd,hB,ZfY,c2,-List.length_map]
    | none=>
      simp [Za6,h,←hn,c,hd,hB,ZfY,c2,Zsk,hs,-List.length_map,-List.map_append]
  · simp [Za6,h,←hn,c]
theorem Zm0 (h:l+3 < θ.length):∀(r:List Int) (k:Nat) (x y z:Sl) (e:Zu),e.early.length+r.length<1000→
    ∃x' y' z',forE 2 3 keepB k (r.map D.int) [.val (.ref l),.val s.d,x,y,z] (upE θ l e)=.ok (.nx,[.val (.ref l),.val s.d,x',y',z']) (upE θ l (keepAll e s.num k r))
  | [],k,x,y,z,e,_=>⟨x,y,z,rfl⟩
  | b::r,k,x,y,z,e,hl=>by
    have hl':e.early.length+r.length+1<1000:=by simpa [Nat.add_assoc] using hl
    show ∃x' y' z',(keepB [.val (.ref l),.val s.d,.val (.int k),.val (.int b),z] (upE θ l e)).bind (ZfF (forE 2 3 keepB (k+1) (r.map D.int)))=_
    rw [Zr3 h k z (by omega)]
    exact Zm0 h r (k+1) _ _ _ _ (by
      split
      · have:=Zi9 e.early (ZF s.num k) b
        show (Zgk e.early (ZF s.num k) b).length+r.length<1000
        omega
      · omega)
@[simp] theorem Zlg (h:l+3 < θ.length) (hl:e.early.length+s.data.length<1000):ZbZ [.ref l,s.d] (upE θ l e)=.ok .non (upE θ l (keepData e s)):=by
  obtain ⟨x,y,z,g⟩:=Zm0 (s:=s) h s.data 0 .no .no .no e hl
  have h2:ZcU [.val (.ref l),.val s.d,.no,.no,.no] (upE θ l e)=.ok (.nx,[.val (.ref l),.val s.d,x,y,z]) (upE θ l (keepAll e s.num 0 s.data)):=by
    rw [←g]
    simp [ZcU,Zq4]
    rfl
  obtain ⟨e1,he1⟩:∃q,q=keepAll e s.num 0 s.data:=⟨_,rfl⟩
  unfold keepData
  rw [←he1] at h2 ⊢
  by_cases c:0<s.data.length
  · rw [if_pos c]
    simp [ZbZ,ZdL,h2,ZcT,h,c]
  · rw [if_neg c]
    simp [ZbZ,ZdL,h2,ZcT,h,c]
@[simp] theorem Zuk (h:l+3 < θ.length) (e:Zu) (n:Int):zg ["End"] "early_fin" (.int n) (.ref l) (upE θ l e)=some (upE θ l { e with early_fin:=some n }):=Zlr h e (some n)
@[simp] theorem ZvC (r:Option Int):Zb1 (Zgn r)=r.isNone:=by cases r<;>rfl
theorem Zlf (h:l+3 < θ.length):ZaS [.val (.ref l),.val s.d,.val (.int n)] (upE θ l e)=.ok (.nx,[.val (.ref l),.val s.d,.val (.int n)]) (upE θ l (if e.early_fin=none∧inWin e n=true then { e with early_fin:=some n } else e)):=by
  by_cases c2:e.early_fin=none
  · by_cases c3:inWin e n=true
    · rw [if_pos ⟨c2,c3⟩]
      have q:∀f,e.early_fin=f→f=none→ZaS [.val (.ref l),.val s.d,.val (.int n)] (upE θ l e)=.ok (.nx,[.val (.ref l),.val s.d,.val (.int n)]) (upE θ l { e with early_fin:=some n }):=by
        intro f hf h0
        have h1:e.early_fin.isNone=true:=by rw [hf,h0]; rfl
        simp [ZaS,h,h1,c3]
      exact q _ rfl c2
    · rw [if_neg fun z=>c3 z.2]
      have h1:e.early_fin.isNone=true:=by rw [c2]; rfl
      simp [ZaS,h,h1,c3]
  · rw [if_neg fun z=>c2 z.1]
    have h1:e.early_fin.isNone=false:=by cases q:e.early_fin<;>first | exact absurd q c2 | rfl
    simp [ZaS,h,h1]
@[simp] theorem Zmh (h:l+3 < θ.length):Zcn [.ref l,s.d] (upE θ l e)=.ok .non (upE θ l (keepFin e s)):=by
  unfold keepFin
  by_cases c1:bears s 1=true
  · obtain ⟨n,hn⟩:∃n,n=ZF s.num s.data.length:=⟨_,rfl⟩
    have k2:=Zlf (e:={ e with owes_answer:=true }) (s:=s) (n:=n) h
    rw [←hn,c1]
    simp [Zcn,Zex,Zdo,h,c1,←hn,k2]
    rfl
  · simp [Zcn,Zex,Zdo,c1]
@[simp] theorem Zz7 (n:Int) (r:Option Int):neM (.int n) (Zgn r) θ=.ok (.bl (!decide (r=some n))) θ:=by
  cases r with
  | none=>rw [ZfL (by exact Zdk rfl rfl rfl rfl)]; simp [look,Zgn]
  | some m=>simp [Zgn,eq_comm]
@[simp] theorem ZAu (n:Int) (r:Option Int):eqM (.int n) (Zgn r) θ=.ok (.bl (decide (r=some n))) θ:=by
  cases r with
  | none=>rw [Zig (by exact Zdk rfl rfl rfl rfl)]; simp [look,Zgn]
  | some m=>simp [Zgn,eq_comm]
abbrev Zrr:TMr:=ZfA (ZI (mOp neM (ZM ["End"] "rcv" (Zd 0)) (ZM ["End"] "early_fin" (Zd 0)))) (ZI (Zq5 (ZM ["End"] "rcv" (Zd 0)) (ZM ["End"] "early" (Zd 0))))
abbrev Zrs:SM:=Zq (Zdy 1 (Znt (ZM ["End"] "early" (Zd 0)) (ZM ["End"] "rcv" (Zd 0))))
    (ZJ ["End"] "rcv" (Zd 0) (mCB zv (Zc (ZM ["End"] "rcv" (Zd 0)) (Zc (mC (.int 1)) Zk))))
theorem Zr7 (h:l+3 < θ.length) (x:Sl):Zrr [.val (.ref l),x] (upE θ l e)=.ok (!decide (e.early_fin=some e.rcv) && (atE e.early e.rcv).isSome) (upE θ l e):=by
  have hd:=fun (e:Zu)=>dk3 (θ:=θ) (l:=l) (e:=e) h
  by_cases c:e.early_fin=some e.rcv<;>simp [h,hd,ZfY,c]
theorem Zr8 (h:l+3 < θ.length) {b:Int} (xs:List D) (hx:xs.length<BIG) (hv:atE e.early e.rcv=some b):Zrs [.val (.ref l),.own xs] (upE θ l e)=.ok (.nx,[.val (.ref l),.own (xs++[.int b])]) (upE θ l { e with early:=ZcX e.early e.rcv,rcv:=ZF e.rcv 1 }):=by
  have hd:=fun (e:Zu)=>dk3 (θ:=θ) (l:=l) (e:=e) h
  have hs:=fun (e:Zu) (m:EL)=>Zv8 (θ:=θ) (l:=l) (e:=e) h m
  simp [h,hd,ZfY,hv,Zl0,hs,hx]
theorem ZlY {m:EL} {n b:Int} (h:atE m n=some b):(ZcX m n).length<m.length:=by
  induction m with
  | nil=>simp [atE] at h
  | cons p r ih=>
    unfold ZcX atE at *
    by_cases e:p.1=n
    · simp [e]
      exact Nat.lt_succ_of_le (List.length_filter_le ..)
    · simp [e] at h ⊢
      have:=ih (by simpa using h)
      simpa using this
theorem Zm3 (h:l+3 < θ.length):∀(n:Nat) (e:Zu) (xs:List Int),e.early.length<n→xs.length+n<1000→ZcL Zrr Zrs n [.val (.ref l),.own (xs.map D.int)] (upE θ l e)=.ok (.nx,[.val (.ref l),.own ((xs++(drawn n e).1).map D.int)]) (upE θ l (drawn n e).2)
  | 0,e,xs,hn,_=>absurd hn (Nat.not_lt_zero _)
  | n+1,e,xs,hn,hx=>by
    rw [Zhx,Zr7 h]
    unfold drawn
    by_cases c:e.early_fin=some e.rcv
    · simp [c]
    · cases c2:atE e.early e.rcv with
      | none=>simp [c]
      | some b=>
        have:=Zm3 h n { e with early:=ZcX e.early e.rcv,rcv:=ZF e.rcv 1 } (xs++[b]) (by have:=ZlY c2; simp only; omega) (by simp; omega)
        rw [if_neg c]
        simp only [c,decide_false,Bool.not_false,Bool.true_and,Option.isSome_some,R.bind,if_true]
        rw [Zr8 h (xs.map D.int) (by simp [BIG]; omega) c2]
        simp only [R.bind,ZfF]
        rw [List.map_append] at this
        simpa [List.append_assoc] using this
theorem Zii:∀(n:Nat) (e:Zu),(drawn n e).2.come=e.come
  | 0,e=>rfl
  | n+1,e=>by
    unfold drawn
    split
    · rfl
    · split
      · rfl
      · exact Zii n _
theorem ZhH {r:List Int} {k:Int} (h:0≤k):((Zaw r none (some k)).length:Int)≤k:=by
  rw [Zcc r h]
  have:=List.length_take_le k.toNat r
  omega
theorem Zt4 (h:l+3 < θ.length) (hc:e.come.length≤64) (r:List Int):Zf7 [.ref (l+2),il r] (upE θ l e)=.ok (.int (Zaw r none (some (ZX e))).length) (upE θ l (Zgj e r)):=by
  have h1:e.come.length+(Zaw r none (some (ZX e))).length≤100000:=by
    have:=ZhH (r:=r) (k:=ZX e) (by unfold ZX; omega)
    unfold ZX at *
    omega
  simp [Zf7,ZjO,h,Zgj,h1]
@[simp] theorem Zxg (h:l+3 < θ.length):Zel [.ref (l+1)] (upE θ l e)=.ok (.int (64-(e.written.length:Int))) (upE θ l e):=by
  simp [Zel,Zip,h]
theorem Zt3 (h:l+3 < θ.length) (hc:e.written.length≤64) (r:List Int):Zf7 [.ref (l+1),il r] (upE θ l e)=.ok (.int (Zaw r none (some (64-(e.written.length:Int)))).length) (upE θ l { e with written:=e.written++Zaw r none (some (64-(e.written.length:Int))) }):=by
  have h1:e.written.length+(Zaw r none (some (64-(e.written.length:Int)))).length≤100000:=by
    have:=ZhH (r:=r) (k:=64-(e.written.length:Int)) (by omega)
    omega
  simp [Zf7,ZjO,h,h1]
def Zfu (e:Zu):Zu:=Zgj (drawn 200 e).2 (drawn 200 e).1
theorem Zhr (h:l+3 < θ.length) (hc:e.come.length≤64) (he:e.early.length<200):Za2 [.ref l] (upE θ l e)=.ok .non (upE θ l (Zfu e)):=by
  have g:=Zm3 h 200 e [] he (by simp)
  have g1:ZbG [.val (.ref l),.own []] (upE θ l e)=.ok (.nx,[.val (.ref l),.own ((drawn 200 e).1.map D.int)]) (upE θ l (drawn 200 e).2):=by
    have q:ZbG=ZcL Zrr Zrs 200:=rfl
    rw [q]
    simpa using g
  have hc1:(drawn 200 e).2.come.length≤64:=by rw [Zii]; exact hc
  obtain ⟨e1,he1⟩:∃q,q=(drawn 200 e).2:=⟨_,rfl⟩
  obtain ⟨r1,hr1⟩:∃q,q=(drawn 200 e).1:=⟨_,rfl⟩
  unfold Zfu
  rw [←he1,←hr1] at g1 ⊢
  rw [←he1] at hc1
  have tl:=Zt4 (e:=e1) h hc1 r1
  simp [Za2,ZdD,g1,h,tl]
@[simp] theorem Zt8 (h:l+3 < θ.length):Zco [.ref l,.int now] (upE θ l e)=.ok .non (upE θ l (Zfs e now)):=by
  by_cases c1:e.state=.opn
  · simp [Zco,Zey,Zdq,h,c1,Zfs]
  · by_cases c2:e.state=.waitOne<;>simp [Zco,Zey,Zfh,Zdq,h,c1,c2,Zfs]
def Zbj (e:Zu) (s:Seg):Zu:=Zfu (keepFin (keepData e s) s)
def Zbq (e:Zu) (s:Seg) (now:Int):Zu:=
  if e.state=.opn∨e.state=.waitOne∨e.state=.waitTwo then
    (if (Zbj e s).early_fin=some (Zbj e s).rcv then Zfs (Zbj e s) now else Zbj e s)
  else e
theorem Ze3 (num:Int):∀(r:List Int) (k:Nat) (e:Zu),(keepAll e num k r).early.length≤e.early.length+r.length
  | [],k,e=>Nat.le_refl _
  | b::r,k,e=>by
    unfold keepAll
    refine Nat.le_trans (Ze3 num r (k+1) _) ?_
    split
    · have:=Zi9 e.early (ZF num k) b
      simp only [List.length_cons]
      omega
    · simp only [List.length_cons]; omega
theorem ZiG (e:Zu) (s:Seg):(keepFin e s).early=e.early:=by
  unfold keepFin
  split
  · rfl
  · split<;>rfl
theorem ZjF (e:Zu) (s:Seg):(keepData e s).early.length≤e.early.length+s.data.length:=by
  unfold keepData
  split<;>exact Ze3 ..
theorem Zgl (num:Int):∀(r:List Int) (k:Nat) (e:Zu),(keepAll e num k r).come=e.come
  | [],k,e=>rfl
  | b::r,k,e=>by
    unfold keepAll
    rw [Zgl num r (k+1) _]
    split<;>rfl
theorem ZjE (e:Zu) (s:Seg):(keepFin e s).come=e.come:=by
  unfold keepFin
  split
  · rfl
  · split<;>rfl
theorem ZiH (e:Zu) (s:Seg):(keepData e s).come=e.come:=by
  unfold keepData
  split<;>exact Zgl ..
theorem ZiE (h:l+3 < θ.length) (hc:e.come.length≤64) (hl:e.early.length+s.data.length<200):ZaJ [.ref l,s.d,.int now] (upE θ l e)=.ok .non (upE θ l (Zbq e s now)):=by
  unfold Zbq
  by_cases c:e.state=.opn∨e.state=.waitOne∨e.state=.waitTwo
  · rw [if_pos c]
    have k1:=Zlg (e:=e) (s:=s) h (by omega)
    have k2:=Zmh (e:=keepData e s) (s:=s) h
    have k3:=Zhr (e:=keepFin (keepData e s) s) h (by rw [ZjE,ZiH]; exact hc) (by rw [ZiG]; have:=ZjF e s; omega)
    have k4:Zfu (keepFin (keepData e s) s)=Zbj e s:=rfl
    rw [k4] at k3
    obtain ⟨e3,he3⟩:∃q,q=Zbj e s:=⟨_,rfl⟩
    rw [←he3] at k3 ⊢
    have c':e.state∈[State.opn,.waitOne,.waitTwo]:=by simpa using c
    by_cases c2:e3.early_fin=some e3.rcv
    · simp [ZaJ,ZbP,Zbf,h,c,k1,k2,k3,Zcf,c2]
    · simp [ZaJ,ZbP,Zbf,h,c,k1,k2,k3,Zcf,c2]
  · rw [if_neg c]
    simp [ZaJ,ZbP,Zbf,h,c]
def Zbr (e:Zu) (s:Seg) (now:Int):Zu:=
  if Zie e s=false then ZdO e s now
  else if bears s 4=true then Zd2 e s
  else if bears s 2=true then { e with owes_answer:=true }
  else if bears s 16=true then (if (Zbb e s now).1=true then Zbq (Zbb e s now).2 s now else (Zbb e s now).2)
  else e
theorem ZjI (e:Zu) (s:Seg) (now:Int):(Zbb e s now).2.early=e.early:=by
  unfold Zbb
  split
  · unfold Zaj
    split
    · unfold ZaR; split<;>rfl
    · rfl
  · split
    · rfl
    · show (Za5 (zQ e s now) now).early=e.early
      have h1:(Zcy e s now).early=e.early:=by
        unfold Zcy
        split
        · split<;>rfl
        · rfl
      have h2:(zQ e s now).early=e.early:=by
        unfold zQ
        simp only
        split
        · exact h1
        · split
          · split<;>exact h1
          · split<;>exact h1
      unfold Za5
      split
      · exact h2
      · split
        · exact h2
        · split
          · exact h2
          · split<;>exact h2
theorem ZlV (e:Zu) (s:Seg) (now:Int):(Zbb e s now).2.come=e.come:=by
  unfold Zbb
  split
  · unfold Zaj
    split
    · unfold ZaR; split<;>rfl
    · rfl
  · split
    · rfl
    · show (Za5 (zQ e s now) now).come=e.come
      have h1:(Zcy e s now).come=e.come:=by
        unfold Zcy
        split
        · split<;>rfl
        · rfl
      have h2:(zQ e s now).come=e.come:=by
        unfold zQ
        simp only
        split
        · exact h1
        · split
          · split<;>exact h1
          · split<;>exact h1
      unfold Za5
      split
      · exact h2
      · split
        · exact h2
        · split
          · exact h2
          · split<;>exact h2
theorem ZgC (h:l+3 < θ.length) (hc:e.come.length≤64) (hl:e.early.length+s.data.length<200):ze [.ref l,s.d,.int now] (upE θ l e)=.ok .non (upE θ l (Zbr e s now)):=by
  unfold Zbr
  by_cases c1:Zie e s=true
  · by_cases c2:bears s 4=true
    · simp [ze,zz,zl,zB,h,c1,c2]
    · by_cases c3:bears s 2=true
      · simp [ze,zz,zl,zB,z9,h,c1,c2,c3]
      · by_cases c4:bears s 16=true
        · have hs:=ZiE (e:=(Zbb e s now).2) (s:=s) (now:=now) h (by rw [ZlV]; exact hc) (by rw [ZjI]; exact hl)
          by_cases c5:(Zbb e s now).1=true
          · simp [ze,zz,zl,zB,z9,ZaF,h,c1,c2,c3,c4,c5,hs]
          · simp [ze,zz,zl,zB,z9,ZaF,h,c1,c2,c3,c4,c5]
        · simp [ze,zz,zl,zB,z9,ZaF,h,c1,c2,c3,c4]
  · simp [ze,zz,zl,h,c1]
theorem Zhs (h:l+3 < θ.length) (hc:e.come.length≤64) {r:List Int} (hb:Byt r) (hr:zI r=true) (hf:Zdi e (Zbc r)=true) (hl:e.early.length+(Zbc r).data.length<200) (h1:¬e.state=.closed) (h2:¬e.state=.listen) (h3:¬e.state=.synSent):zb [.ref l,il r,.int now] (upE θ l e)=.ok (.bl true) (upE θ l (Zbr e (Zbc r) now)):=by
  simp [zb,ZbW,Za1,Zbz,Zci,Zc4,Zez,ZbQ hb,hr,Zlh hb hr,h,hf,h1,h2,h3,ZgC h hc hl]
def Zd3 (e:Zu) (s:Seg) (now:Int):Zu:=
  match e.state with
  | .closed=>ZaR e s
  | .listen=>Zbs e s
  | .synSent=>z8 e s now
  | _=>Zbr e s now
theorem ZcY (h:l+3 < θ.length) (hc:e.come.length≤64) (hs:s.Ok) (hf:Zdi e s=true) (hl:e.early.length<150):zb [.ref l,il (putL s),.int now] (upE θ l e)=.ok (.bl true) (upE θ l (Zd3 e s now)):=by
  have hb:=Zf4 hs.put
  have hr:=ZgG hs
  have hg:=Znz hs
  have hd:s.data.length≤16:=hs.data.2
  unfold Zd3
  cases c:e.state
  · simp only
    rw [Zhu h hb hr (by rw [hg]; exact hf) c,hg]
  · simp only
    rw [Zht h hb hr (by rw [hg]; exact hf) c,hg]
  · simp only
    rw [ZgD h hb hr (by rw [hg]; exact hf) c,hg]
  all_goals
    simp only
    rw [Zhs h hc hb hr (by rw [hg]; exact hf) (by rw [hg]; omega) (by rw [c]; decide) (by rw [c]; decide) (by rw [c]; decide),hg]
def Zd4 (e:Zu):Bool:=!e.has_closed && decide (e.state∈[State.synSent,.synCome,.opn,.closeWait])
def ZeF (e:Zu) (r:List Int):List Int:=Zaw r none (some (64-(e.written.length:Int)))
def Zee (e:Zu) (r:List Int):Zu:=if Zd4 e=true then { e with written:=e.written++ZeF e r,behind:=ZF e.behind (ZeF e r).length } else e
theorem ZmX (h:l+3 < θ.length) (hc:e.written.length≤64) (r:List Int):Zcv [.ref l,il r] (upE θ l e)=.ok (.int (if Zd4 e=true then (ZeF e r).length else 0)) (upE θ l (Zee e r)):=by
  have hw:ZeF e r=Zaw r none (some (64-(e.written.length:Int))):=rfl
  unfold Zee Zd4
  by_cases c:e.has_closed=true
  · simp [Zcv,Zfv,ZdB,h,c]
  · by_cases c2:e.state∈[State.synSent,.synCome,.opn,.closeWait]
    · have c2':e.state=State.synSent∨e.state=State.synCome∨e.state=State.opn∨e.state=State.closeWait:=by simpa using c2
      simp [Zcv,Zfv,ZdB,h,c,c2',←hw,Zt3 h hc]
    · have c2':¬(e.state=State.synSent∨e.state=State.synCome∨e.state=State.opn∨e.state=State.closeWait):=by simpa using c2
      simp [Zcv,Zfv,ZdB,h,c,c2']
def Zf3 (e:Zu) (n:Int):Zu:=
  if ZX e=0∧0<ZX { e with come:=e.come.drop n.toNat }∧e.state∈[State.opn,.waitOne,.waitTwo] then { e with come:=e.come.drop n.toNat,owes_answer:=true } else { e with come:=e.come.drop n.toNat }
theorem Zp5 (h:l+3 < θ.length):Zdc [.ref l,.int n] (upE θ l e)=.ok (il (e.come.take n.toNat)) (upE θ l (Zf3 e n)):=by
  have tk:=ZrZ (θ:=θ) (l:=l) (e:=e) (n:=n) h
  obtain ⟨e1,he1⟩:∃q:Zu,q={ e with come:=e.come.drop n.toNat }:=⟨_,rfl⟩
  obtain ⟨k1,hk1⟩:∃q,q=il (e.come.take n.toNat):=⟨_,rfl⟩
  have s1:e.state=e1.state:=by rw [he1]
  unfold Zf3
  have e2:({ e with come:=e.come.drop n.toNat,owes_answer:=true }:Zu)={ e1 with owes_answer:=true }:=by rw [he1]
  rw [e2,←he1,←hk1,s1]
  rw [←he1,←hk1] at tk
  by_cases c1:ZX e=0
  · by_cases c2:0<ZX e1
    · by_cases c3:e1.state∈[State.opn,.waitOne,.waitTwo]
      · have c3':e1.state=State.opn∨e1.state=State.waitOne∨e1.state=State.waitTwo:=by simpa using c3
        simp [Zdc,Zfa,Zdn,h,tk,c1,c2,c3']
      · have c3':¬(e1.state=State.opn∨e1.state=State.waitOne∨e1.state=State.waitTwo):=by simpa using c3
        simp [Zdc,Zfa,Zdn,h,tk,c1,c2,c3']
    · simp [Zdc,Zfa,Zdn,h,tk,c1,c2]
  · simp [Zdc,Zfa,Zdn,h,tk,c1]
end
end
end My
namespace My
open PySem L2 L2.MM
noncomputable section
theorem ZhY {n k:Int} (h : -2147483648≤k∧k<2147483648):zr (ZF n k) n=k:=by
  unfold zr ZF; omega
theorem ZiZ {n j k:Int} (h : -2147483648≤j-k∧j-k<2147483648):zr (ZF n j) (ZF n k)=j-k:=by
  unfold zr ZF; omega
@[simp] theorem ZwC (n:Int):zr n n=0:=by
  unfold zr; omega
@[simp] theorem ZiX (n:Int):Zb8 n n=false:=by simp [Zb8]
theorem Zcj (n j k:Int):ZF (ZF n j) k=ZF n (j+k):=by
  unfold ZF; omega
theorem Zbe (n k:Int):0≤ZF n k∧ZF n k≤4294967295:=by
  unfold ZF; omega
theorem ZiW {n:Int} (h:0≤n∧n≤4294967295):ZF n 0=n:=by
  unfold ZF; omega
theorem Zne {n k:Int} (h:0<k∧k<4294967296):¬ZF n k=n:=by
  unfold ZF; omega
theorem ZhV {n j k:Int} (h:0≤j∧0≤k∧j<4294967296∧k<4294967296):ZF n j=ZF n k↔j=k:=by
  unfold ZF; omega
def ZeT (num:Int):Nat→List Int→EL
  | _,[]=>[]
  | k,b::r=>(ZF num k,b)::ZeT num (k+1) r
theorem Zed (p:Int×Int) (m:EL) (n:Int):atE (p::m) n=if p.1=n then some p.2 else atE m n:=by
  unfold atE
  by_cases h:p.1=n<;>simp [h]
theorem Zs7 (m m':EL) (n:Int) (h:atE m n=none):atE (m++m') n=atE m' n:=by
  induction m with
  | nil=>rfl
  | cons p r ih=>
    rw [Zed] at h
    rw [List.cons_append,Zed]
    by_cases e:p.1=n
    · rw [if_pos e] at h; cases h
    · rw [if_neg e] at h ⊢
      exact ih h
theorem ZnM (num:Int):∀(r:List Int) (k j:Nat),j<k→k+r.length<4294967296→atE (ZeT num k r) (ZF num j)=none
  | [],k,j,_,_=>rfl
  | b::r,k,j,h,hl=>by
    have hl':k+r.length+1<4294967296:=by simpa [Nat.add_assoc] using hl
    rw [ZeT,Zed,if_neg (by rw [ZhV (by omega)]; omega)]
    exact ZnM num r (k+1) j (by omega) (by omega)
theorem ZmL (m:EL) (n:Int) (h:atE m n=none):ZcX m n=m:=by
  induction m with
  | nil=>rfl
  | cons p r ih=>
    rw [Zed] at h
    by_cases e:p.1=n
    · rw [if_pos e] at h; cases h
    · rw [if_neg e] at h
      unfold ZcX at *
      rw [List.filter_cons_of_pos (by simp [e]),ih h]
theorem Zom (num b:Int) (r:List Int) (k:Nat) (hl:k+1+r.length<4294967296):ZcX ((ZF num k,b)::ZeT num (k+1) r) (ZF num k)=ZeT num (k+1) r:=by
  have:=ZmL (ZeT num (k+1) r) (ZF num k) (ZnM num r (k+1) k (by omega) hl)
  unfold ZcX at *
  rw [List.filter_cons_of_neg (by simp),this]
theorem Zh9 (num:Int):∀(r:List Int) (k:Nat) (e:Zu),k+r.length<4294967296→(∀i:Nat,k≤i→i<k+r.length→inWin e (ZF num i)=true∧atE e.early (ZF num i)=none)→keepAll e num k r={ e with early:=e.early++ZeT num k r }
  | [],k,e,_,_=>by simp [keepAll,ZeT]
  | b::r,k,e,hl,h=>by
    have hl':k+r.length+1<4294967296:=by simpa [Nat.add_assoc] using hl
    obtain ⟨h1,h2⟩:=h k (Nat.le_refl _) (by simp)
    unfold keepAll
    rw [if_pos h1]
    have h3:Zgk e.early (ZF num k) b=e.early++[(ZF num k,b)]:=by unfold Zgk; rw [h2]
    rw [h3,Zh9 num r (k+1) _ (by omega)]
    · simp [ZeT]
    · intro i hi hj
      obtain ⟨g1,g2⟩:=h i (by omega) (by simp; omega)
      refine ⟨g1,?_⟩
      show atE (e.early++[(ZF num k,b)]) (ZF num i)=none
      rw [Zs7 _ _ _ g2,Zed,if_neg (by rw [ZhV (by omega)]; omega)]
      rfl
theorem Zl1 (num:Int):∀(r:List Int) (k n:Nat) (e:Zu),k+r.length<4294967296→r.length<n→e.rcv=ZF num k→e.early=ZeT num k r→(∀i:Nat,k≤i→i<k+r.length→¬e.early_fin=some (ZF num i))→drawn n e=(r,{ e with early:=[],rcv:=ZF num (k+r.length:Nat) })
  | [],k,0,e,_,hn,_,_,_=>by simp at hn
  | [],k,n+1,e,_,_,h1,h2,_=>by
    unfold drawn
    have:atE e.early e.rcv=none:=by rw [h2]; rfl
    have he:e={ e with early:=[],rcv:=ZF num k }:=by
      obtain ⟨_⟩:=e
      simp only [ZeT] at h1 h2
      subst h1 h2
      rfl
    split
    · simpa using he
    · rw [this]
      simpa using he
  | b::r,k,0,e,_,hn,_,_,_=>by simp at hn
  | b::r,k,n+1,e,hl,hn,h1,h2,h3=>by
    have hl':k+r.length+1<4294967296:=by simpa [Nat.add_assoc] using hl
    have hn':r.length<n:=by simpa using hn
    unfold drawn
    rw [if_neg (by rw [h1]; exact h3 k (Nat.le_refl _) (by simp))]
    have:atE e.early e.rcv=some b:=by rw [h2,h1,ZeT,Zed]; simp
    rw [this]
    simp only
    have g:=Zl1 num r (k+1) n { e with early:=ZcX e.early e.rcv,rcv:=ZF e.rcv 1 } (by omega) hn' (by show ZF e.rcv 1=_; rw [h1,Zcj]; simp) (by show ZcX e.early e.rcv=_; rw [h2,h1,ZeT,Zom _ _ _ _ (by omega)]) (fun i hi hj=>h3 i (by omega) (by simp; omega))
    rw [g]
    simp [Nat.add_assoc,Nat.add_comm 1]
theorem Zs3 {r:List Int} {k:Int} (h:(r.length:Int)≤k):Zaw r none (some k)=r:=by
  rw [Zcc r (by omega)]
  exact List.take_of_length_le (by omega)
theorem Zlm {e:Zu} {s:Seg} (hd:s.data.length≤16) (hn:s.num=e.rcv) (hr:0≤e.rcv∧e.rcv≤4294967295) (he:e.early=[]) (hf:e.early_fin=none) (hw:e.come.length+s.data.length+(if bears s 1=true then 1 else 0)≤64) :
    Zbj e s={ e with come:=e.come++s.data,rcv:=ZF e.rcv s.data.length,owes_answer:=e.owes_answer || decide (0<s.data.length) || bears s 1,early_fin:=if bears s 1=true then some (ZF e.rcv s.data.length) else none }:=by
  have w:∀i:Nat,i<s.data.length∨(i=s.data.length∧bears s 1=true)→inWin e (ZF e.rcv i)=true:=by
    intro i hi
    unfold inWin ZX
    rw [ZhY (by omega)]
    have:(i:Int)<64-e.come.length:=by
      rcases hi with hi | ⟨rfl,hi⟩
      · omega
      · rw [if_pos hi] at hw; omega
    simp; omega
  have k1:keepAll e s.num 0 s.data={ e with early:=ZeT e.rcv 0 s.data }:=by
    rw [hn,Zh9 e.rcv s.data 0 e (by omega) (fun i _ hi=>⟨w i (.inl (by omega)),by rw [he]; rfl⟩),he]
    rfl
  have k2:keepData e s={ e with early:=ZeT e.rcv 0 s.data,owes_answer:=e.owes_answer || decide (0<s.data.length) }:=by
    unfold keepData
    rw [k1]
    by_cases c:0<s.data.length
    · rw [if_pos c]; simp [c]
    · rw [if_neg c]; simp [c]
  obtain ⟨oa,hoa⟩:∃x,x=(e.owes_answer || decide (0<s.data.length)):=⟨_,rfl⟩
  rw [←hoa] at k2 ⊢
  have k3:keepFin (keepData e s) s={ e with early:=ZeT e.rcv 0 s.data,owes_answer:=oa || bears s 1,early_fin:=if bears s 1=true then some (ZF e.rcv s.data.length) else none }:=by
    rw [k2]
    unfold keepFin
    by_cases c:bears s 1=true
    · have iw:inWin ({ e with early:=ZeT e.rcv 0 s.data,owes_answer:=oa }) (ZF s.num s.data.length)=true:=by
        rw [hn]; exact w _ (.inr ⟨rfl,c⟩)
      rw [if_neg (by simp [c]),if_pos ⟨hf,iw⟩,hn]
      simp [c]
    · rw [if_pos (by simpa using c)]
      simp [c,hf]
  unfold Zbj Zfu
  rw [k3]
  obtain ⟨bf,hbf⟩:∃x,x=bears s 1:=⟨_,rfl⟩
  rw [←hbf]
  rw [Zl1 e.rcv s.data 0 200 _ (by omega) (by omega) (by simpa using (ZiW hr).symm) rfl (by
    intro i _ hi
    simp only
    cases bf
    · simp
    · simp only [if_true,Option.some.injEq]
      rw [ZhV (by omega)]
      omega)]
  unfold Zgj
  simp only
  rw [Zs3 (by unfold ZX; simp only; split at hw<;>omega)]
  simp [he]
end
end My
namespace My
open PySem L2 L2.MM
noncomputable section
@[simp] theorem ZBg {f:Int} (h0:0≤f) (h1:f≤31):bit f 1=f % 2:=(ZrG ⟨h0,h1⟩).1
@[simp] theorem ZtJ {f:Int} (h0:0≤f) (h1:f≤31):bit f 2=f/2 % 2:=(ZrG ⟨h0,h1⟩).2.1
@[simp] theorem ZBf {f:Int} (h0:0≤f) (h1:f≤31):bit f 4=f/4 % 2:=(ZrG ⟨h0,h1⟩).2.2.1
@[simp] theorem ZAy {f:Int} (h0:0≤f) (h1:f≤31):bit f 16=f/16 % 2:=(ZrG ⟨h0,h1⟩).2.2.2.2
@[simp] theorem Zw3 {a b c d f w m k:Int} {x:List Int}:bears ⟨a,b,c,d,f,w,m,x⟩ k=decide (bit f k=1):=rfl
@[simp] theorem Zxp {a b c d f w m:Int} {x:List Int}:Zod ⟨a,b,c,d,f,w,m,x⟩=x.length+bit f 2+bit f 1:=rfl
def Zqg:Option Seg→List Int
  | none=>[]
  | some s=>putL s
@[simp] theorem Zuo:Zqg none=[]:=rfl
@[simp] theorem Zun (s:Seg):Zqg (some s)=putL s:=rfl
theorem Zm8 {base:Sto} {l:Nat} {e:Zu} {t:Int} {r:Option Seg} {e':Zu} (hl:l+3<base.length) (g:going e t=(r,e')) (hp:∀s,r=some s→s.Put):ZcN [.ref l,.int t] (upE base l e)=.ok (il (Zqg r)) (upE base l e'):=by
  rw [ZtZ hl (by rw [g]; exact hp),g]
  unfold Zjv
  rw [g]
  cases r<;>rfl
theorem Zn0 {base:Sto} {l:Nat} {e:Zu} {t:Int} {e':Zu} (hl:l+3<base.length) (g:going e t=(none,e')):ZcN [.ref l,.int t] (upE base l e)=.ok (il []) (upE base l e'):=Zm8 hl g (fun s h=>by cases h)
theorem ZiS {base:Sto} {l:Nat} {e:Zu} {t:Int} {e':Zu} {s:Seg} (hl:l+3<base.length) (g:going e t=(some s,e')) (hp:s.Ok):ZcN [.ref l,.int t] (upE base l e)=.ok (il (putL s)) (upE base l e'):=Zm8 hl g (fun s h=>by cases h; exact hp.put)
theorem Zus (s:Seg):putL s≠[]:=fun z=>by
  have:=Znb (s:=s)
  rw [z] at this
  simp at this
  split at this<;>omega
def synE (a b f g W m:Int):Zu:={ newEnd a b f false with state:=.synCome,rcv:=ZF g 1,wnd:=W,told:=g,told_by:=0,most:=if m=0 then 12 else m }
def Zdu (a b f g W m t:Int):Zu:={ synE a b f g W m with nxt:=ZF f 1,since:=t }
def Zdg (a b f g W m t:Int):Zu:={ newEnd a b f false with state:=.opn,una:=ZF f 1,nxt:=ZF f 1,rcv:=ZF g 1,wnd:=W,told:=ZF g 1,told_by:=ZF f 1,most:=if m=0 then 12 else m,since:=t }
section
variable {a b f g W m t t' x:Int} {ex:List Int} {fl:Int}
theorem Zww (hf:fl=2∨fl=3):Zd3 (newEnd a x f false) ⟨b,a,g,0,fl,W,m,ex⟩ t=synE a b f g W m:=by
  rcases hf with rfl | rfl<;>simp [Zd3,newEnd,Zbs,hearSyn,synE]
theorem Zwv:going (synE a b f g W m) t=(some ⟨a,b,f,ZF g 1,18,64,16,[]⟩,Zdu a b f g W m t):=by
  simp [going,Zcb,goingAsNew,Ze0,newEnd,Zek,ZV,synE,Zdu]
theorem Zwu:Zd3 (Zdu a b f g W m t) ⟨b,a,ZF g 1,ZF f 1,16,W,0,[]⟩ t'=Zdg a b f g W m t:=by
  have h2:¬ZF f 1=f:=Zne (by omega)
  have ft:Zie (Zdu a b f g W m t) ⟨b,a,ZF g 1,ZF f 1,16,W,0,[]⟩=true:=by
    simp [Zie,Zdu,synE,newEnd]
  have go:Zbb (Zdu a b f g W m t) ⟨b,a,ZF g 1,ZF f 1,16,W,0,[]⟩ t'=(true,Zdg a b f g W m t):=by
    simp [Zbb,Zaj,Zdu,synE,newEnd,h2,Zeg,Zdg]
  have st:Zbj (Zdg a b f g W m t) ⟨b,a,ZF g 1,ZF f 1,16,W,0,[]⟩=Zdg a b f g W m t:=by
    rw [Zlm (by simp) rfl (Zbe _ _) rfl rfl (by simp [Zdg,newEnd])]
    simp [Zdg,newEnd,Zcj]
  have hs:Zbq (Zdg a b f g W m t) ⟨b,a,ZF g 1,ZF f 1,16,W,0,[]⟩ t'=Zdg a b f g W m t:=by
    unfold Zbq
    rw [st]
    simp [Zdg,newEnd]
  have:Zd3 (Zdu a b f g W m t) ⟨b,a,ZF g 1,ZF f 1,16,W,0,[]⟩ t'=Zbr (Zdu a b f g W m t) ⟨b,a,ZF g 1,ZF f 1,16,W,0,[]⟩ t':=rfl
  rw [this]
  unfold Zbr
  rw [ft,go,hs]
  simp
end
section
variable {θ:Sto} {l:Nat} {e:Zu} {s:Seg} {now n:Int}
theorem Zgq (θ:Sto) (e e':Zu):upE (θ++cells θ.length e) θ.length e'=θ++cells θ.length e':=by
  have h0:∀(i:Nat) (c:Cell) (r:Sto),(θ++r).set (θ.length+i) c=θ++r.set i c:=by
    intro i c r
    rw [List.set_append_right _ _ (by omega)]
    congr 2
    omega
  have h1:∀(c:Cell) (r:Sto),(θ++r).set θ.length c=θ++r.set 0 c:=fun c r=>h0 0 c r
  unfold upE cells
  rw [h1,h0,h0,h0]
  rfl
theorem Zha {a b n k f w m:Int} {x:List Int} (ha:0≤a∧a≤65535) (hb:0≤b∧b≤65535) (hn:0≤n∧n≤4294967295) (hk:0≤k∧k≤4294967295) (hf:0≤f∧f≤31) (hw:0≤w∧w≤65535) (hm:m=0∨(4≤m∧m≤65535∧f/2 % 2=1)) (hx:(∀z∈x,0≤z∧z≤255)∧x.length≤16):(Seg.mk a b n k f w m x).Ok:=⟨ha,hb,hn,hk,hf,hw,hm,hx⟩
theorem Zc0:(∀z∈([]:List Int),0≤z∧z≤255)∧([]:List Int).length≤16:=⟨by simp,by simp⟩
theorem Zif {n:Int} (h:0≤n∧n≤4294967295):0≤Zbx n∧Zbx n≤4294967295:=by
  unfold Zbx
  split<;>omega
theorem ZiM {ns:List Int} {base W m:Int} (θ:Sto) (hW:0≤W∧W≤65535) (hm:m=0∨(4≤m∧m≤65535)) :
    Zd0 [.scr ns,.int base,.int W,.int m] θ=.ok (.tup [.ref θ.length,.tup [.int (mix ns base % 65536),.int (mix ns (base+1) % 65536)],.int (ZF (Zbx (mix ns (base+2))) 1),.int (ZF (Zbx (mix ns (base+3))) 1)])
      (θ++cells θ.length (Zdg (mix ns base % 65536) (mix ns (base+1) % 65536) (Zbx (mix ns (base+2))) (Zbx (mix ns (base+3))) W m 0)):=by
  obtain ⟨a,ha⟩:∃x,x=mix ns base % 65536:=⟨_,rfl⟩
  obtain ⟨b,hb⟩:∃x,x=mix ns (base+1) % 65536:=⟨_,rfl⟩
  obtain ⟨f,hf⟩:∃x,x=Zbx (mix ns (base+2)):=⟨_,rfl⟩
  obtain ⟨g,hg⟩:∃x,x=Zbx (mix ns (base+3)):=⟨_,rfl⟩
  have ra:0≤a∧a≤65535:=by omega
  have rb:0≤b∧b≤65535:=by omega
  have rf:0≤f∧f≤4294967295:=by rw [hf]; exact Zif (by have:=Zh4 ns (base+2); omega)
  have rg:0≤g∧g≤4294967295:=by rw [hg]; exact Zif (by have:=Zh4 ns (base+3); omega)
  rw [←ha,←hb,←hf,←hg]
  have k1:(Seg.mk b a g 0 2 W m []).Ok:=Zha rb ra rg (by omega) (by omega) hW (hm.imp id fun h=>⟨h.1,h.2,by decide⟩) Zc0
  have k2:(Seg.mk a b f (ZF g 1) 18 64 16 []).Ok:=Zha ra rb rf (Zbe _ _) (by omega) (by omega) (.inr (by decide)) Zc0
  have k3:(Seg.mk b a (ZF g 1) (ZF f 1) 16 W 0 []).Ok:=Zha rb ra (Zbe _ _) (Zbe _ _) (by omega) hW (.inl rfl) Zc0
  have hl:θ.length+3<(θ++cells θ.length (newEnd a 7 f false)).length:=by simp [cells]
  have q1:=ZhQ (a:=a) (b:=7) (c:=f) (act:=false) θ
  have q2:=ZcY (e:=newEnd a 7 f false) (now:=0) hl (by simp [newEnd]) k1 (by simp [Zdi,newEnd]) (by simp [newEnd])
  have q3:=ZiS hl (Zwv (a:=a) (b:=b) (f:=f) (g:=g) (W:=W) (m:=m) (t:=0)) k2
  have q4:=ZcY (e:=Zdu a b f g W m 0) (now:=0) hl (by simp [Zdu,synE,newEnd]) k3 (by simp [Zdi,newEnd,Zdu,synE]) (by simp [newEnd,Zdu,synE])
  rw [Zww (.inl rfl)] at q2
  rw [Zwu] at q4
  rw [Zgq,Zgq] at q2 q3 q4
  have b1:=fun θ=>ZeQ k1 θ
  have b3:=fun θ=>ZeQ k3 θ
  obtain ⟨e1,he1⟩:∃x,x=newEnd a 7 f false:=⟨_,rfl⟩
  obtain ⟨e2,he2⟩:∃x,x=synE a b f g W m:=⟨_,rfl⟩
  obtain ⟨e3,he3⟩:∃x,x=Zdu a b f g W m 0:=⟨_,rfl⟩
  obtain ⟨e4,he4⟩:∃x,x=Zdg a b f g W m 0:=⟨_,rfl⟩
  rw [←he1] at q1 q2
  rw [←he2] at q2 q3
  rw [←he3] at q3 q4
  rw [←he4] at q4 ⊢
  simp [Zd0,Zix,←ha,←hb,←hf,←hg,Zjw,b1,b3,q1,q2,q3,q4]
end
end
end My
namespace My
open PySem L2 L2.MM
noncomputable section
theorem Zgd (x y z:Int) (θ:Sto):Zcq (.int x) (.tup [.int y,.int z]) θ=.ok (.bl (!decide (x=y∨x=z))) θ:=by
  have e:inD θ (.int x) (.tup [.int y,.int z])=some (decide (y=x) || (decide (z=x) || false)):=rfl
  have e2:(decide (y=x) || (decide (z=x) || false))=decide (x=y∨x=z):=by
    rw [Bool.eq_iff_iff]
    simp only [Bool.or_eq_true,decide_eq_true_eq,Bool.false_eq_true,or_false]
    constructor
    · rintro (h | h)
      · exact .inl h.symm
      · exact .inr h.symm
    · rintro (h | h)
      · exact .inl h.symm
      · exact .inr h.symm
  unfold Zcq
  rw [e,e2]
theorem ZmZ {z:Int} (h:0≤z∧z≤255) (θ:Sto):ZfP [.int z] θ=.ok (.bl true) θ:=by
  have h1:Zhh [.int z,.ty "int"] θ=.ok (.bl true) θ:=rfl
  have h2:Zhh [.int z,.ty "bool"] θ=.ok (.bl false) θ:=rfl
  simp [ZfP,Zma,h1,h2,h.1,h.2]
theorem ZnF {α:Type} (xs:List α):ZjN (xs.map fun _=>D.bl true)=some (List.replicate xs.length true):=by
  induction xs with
  | nil=>rfl
  | cons x xs ih=>rw [List.map_cons,ZjN,ih]; rfl
theorem Zmb (n:Nat):(List.replicate n true).all id=true:=by
  induction n with
  | zero=>rfl
  | succ n ih=>rw [List.replicate_succ,List.all_cons,ih]; rfl
theorem ZmY {a:List Int} (h:Byt a) (hr:zI a=true) (θ:Sto):Zb9 [il a] θ=.ok (Zbc a).d θ:=by
  obtain ⟨l1,l2,l3,l4⟩:=Zdz hr
  have hr':=hr
  unfold zI at hr'
  simp only [Bool.and_eq_true,decide_eq_true_eq,Bool.or_eq_true] at hr'
  obtain ⟨r1,r2,r3,r4,r5,r6,r7⟩:=hr'
  have gg:∀i:Nat,i<a.length→0≤gt a i∧gt a i≤255:=fun i hi=>by
    unfold gt
    have:=h.1 a[i] (List.getElem_mem hi)
    rw [List.getD_eq_getElem?_getD,List.getElem?_eq_getElem hi]
    exact this
  have b13:=gg 13 (by omega)
  have b18:=gg 18 (by omega)
  have b19:=gg 19 (by omega)
  have ix:∀i:Nat,i<a.length→ixM (il a) (.int (i:Int)) θ=.ok (.int (gt a i)) θ:=fun i hi=>ZaZ (a:=a) (θ:=θ) (i:=(i:Int)) (by omega) (by omega)
  have i12:ixM (il a) (.int 12) θ=.ok (.int (gt a 12)) θ:=ix 12 (by omega)
  have i13:ixM (il a) (.int 13) θ=.ok (.int (gt a 13)) θ:=ix 13 (by omega)
  have i18:ixM (il a) (.int 18) θ=.ok (.int (gt a 18)) θ:=ix 18 (by omega)
  have i19:ixM (il a) (.int 19) θ=.ok (.int (gt a 19)) θ:=ix 19 (by omega)
  have z5:gt a 18+gt a 19=0:=by unfold at2 at r5; simp only [Nat.reduceAdd] at r5; omega
  have len20:¬(a.length:Int)<20:=by omega
  have R1:∀r,b_l_read_1 (.val (il a)::r) θ=.ok (.nx,.val (il a)::r) θ:=by
    intro r
    simp [b_l_read_1,isT,len20]
  have R2:∀r,b_l_read_2 (.val (il a)::r) θ=.ok (.nx,.val (il a)::r) θ:=by
    intro r
    have cp:=Zi5 (ρ:=.val (il a)::r) (θ:=θ) (fi:=mIn (Zd 0)) (src:=[]) (elt:=mCB ZfP (Zc (Zd 0) Zk)) (d:=il a) (xs:=a.map D.int) (θ':=θ) (fun _=>.bl true) (by simp) rfl (by have:=h.2; simp [BIG]; omega) (by
      intro x hx
      obtain ⟨z,hz,rfl⟩:=List.mem_map.mp hx
      simp [ZmZ (h.1 z hz)])
    have al:Zou [D.lst ((a.map D.int).map fun _=>D.bl true)] θ=.ok (.bl true) θ:=by
      rw [Zta,ZnF]
      simp only [Zmb]
    obtain ⟨q,hq⟩:∃x,x=D.lst ((a.map D.int).map fun _=>D.bl true):=⟨_,rfl⟩
    rw [←hq] at cp al
    simp [b_l_read_2,cp,al]
  have hb:Za4 a=gt a 12/4:=by unfold Za4; rcases r2 with e | e<;>rw [e]<;>rfl
  have q4:gt a 12/4≤a.length∧(a.length:Int)≤gt a 12/4+16:=by rw [←hb]; omega
  have R3:∀r,b_l_read_3 (.val (il a)::r) θ=.ok (.nx,.val (il a)::r) θ:=by
    intro r
    simp [b_l_read_3,i12,i13,i18,i19,Zgd,r2,z5,show ¬(31:Int)<gt a 13 by omega]
  have fo:=Zfo h θ
  rw [r7] at fo
  have R4:∀r,b_l_read_4 (.val (il a)::.val (.int (gt a 12/4))::r) θ=.ok (.nx,.val (il a)::.val (.int (gt a 12/4))::r) θ:=by
    intro r
    simp [b_l_read_4,fo,q4.1,q4.2]
  obtain ⟨hd,hhd⟩:∃x,x=gt a 12/4:=⟨_,rfl⟩
  rw [←hhd] at R4 hb q4
  have R6:∀x y,b_l_read_6 [.val (il a),.val (.int hd),.val (.int 0),x,y] θ=.ok (.nx,[.val (il a),.val (.int hd),.val (.int (if Za4 a=24 then at2 a 22 else 0)),x,y]) θ:=by
    intro x y
    by_cases c:hd=24
    · have lo:=(l2.resolve_left (by rw [hb,c]; decide)).2
      have i20:gt a 20=2∧gt a 21=4∧gt a 13/2 % 2=1∧4≤at2 a 22:=by
        have:=lo.2
        unfold longOk at this
        simp only [Bool.and_eq_true,decide_eq_true_eq] at this
        obtain ⟨t1,t2,t3,t4⟩:=this
        rw [ZtJ (by omega) (by omega)] at t1
        exact ⟨t2,t3,t1,t4⟩
      obtain ⟨e20,e21,e13,e22⟩:=i20
      have i22:ixM (il a) (.int 22) θ=.ok (.int (gt a 22)) θ:=ix 22 (by omega)
      have i23:ixM (il a) (.int 23) θ=.ok (.int (gt a 23)) θ:=ix 23 (by omega)
      have cu:Zaw a (some 20) (some 22)=[2,4]:=by
        have:Zaw a (some 20) (some 22)=[gt a 20,gt a 21]:=by
          rw [ZhG _ (by decide) (by decide),show (20:Int).toNat=20 from rfl,show (22:Int).toNat-20=2 from rfl,List.drop_eq_getElem_cons (show 20<a.length by omega),List.drop_eq_getElem_cons (show 21<a.length by omega)]
          rw [List.take_succ_cons,List.take_succ_cons,List.take_zero]
          unfold gt
          rw [List.getD_eq_getElem?_getD,List.getD_eq_getElem?_getD,List.getElem?_eq_getElem (show 20<a.length by omega),List.getElem?_eq_getElem (show 21<a.length by omega)]
          rfl
        rw [this,e20,e21]
      have m22:gt a 22*256+gt a 23=at2 a 22:=by unfold at2; simp only [Nat.reduceAdd]; omega
      have mb:ZdN (gt a 22) 256:=.inr (by omega)
      rw [hb,if_pos c]
      simp [b_l_read_6,Zds,c,i22,i23,i13,e13,cu,m22,mb,show ¬at2 a 22<4 by omega]
    · rw [hb,if_neg c]
      simp [b_l_read_6,c]
  have cp:=fun y z=>ZgQ (ρ:=[.val (il a),.val (.int hd),.val (.int (if Za4 a=24 then at2 a 22 else 0)),y,z]) (θ:=θ) (fi:=ZcW (Zc (mC (.int 8)) Zk)) (src:=[0])
    (elt:=mOp ZK (mOp Zba (mC (.int 256)) (mOp ixM (Zd 1) (mOp Zba (mC (.int 2)) (Zd 0)))) (mOp ixM (Zd 1) (mOp ZK (mOp Zba (mC (.int 2)) (Zd 0)) (mC (.int 1))))) (lo:=0) (n:=8) (θ':=θ) (fun k=>.int (256*gt a (2*k).toNat+gt a (2*k+1).toNat))
    (by simp) (by simp [BIG]) (by
      intro i hi
      have j1:=ZaZ (a:=a) (θ:=θ) (i:=2*(i:Int)) (by omega) (by omega)
      have j2:=ZaZ (a:=a) (θ:=θ) (i:=2*(i:Int)+1) (by omega) (by omega)
      simp [ZdN,j1,j2])
  have wl:(List.range 8).map (fun (i:Nat)=>D.int (256*gt a (2*((0:Int)+(i:Int))).toNat+gt a (2*((0:Int)+(i:Int))+1).toNat))=[.int (at2 a 0),.int (at2 a 2),.int (at2 a 4),.int (at2 a 6),.int (at2 a 8),.int (at2 a 10),.int (at2 a 12),.int (at2 a 14)]:=rfl
  have dr:Zaw a (some hd) none=a.drop hd.toNat:=ZbL a (by omega)
  have c4:at2 a 4*65536+at2 a 6=at4 a 4:=by unfold at4; simp only [Nat.reduceAdd]; omega
  have c8:at2 a 8*65536+at2 a 10=at4 a 8:=by unfold at4; simp only [Nat.reduceAdd]; omega
  obtain ⟨most,hmo⟩:∃x,x=if Za4 a=24 then at2 a 22 else 0:=⟨_,rfl⟩
  rw [←hmo] at R6 cp
  unfold Zbc
  rw [←hmo,hb]
  obtain ⟨W,hW⟩:∃x,x=(List.range 8).map (fun (i:Nat)=>D.int (256*gt a (2*((0:Int)+(i:Int))).toNat+gt a (2*((0:Int)+(i:Int))+1).toNat)):=⟨_,rfl⟩
  rw [←hW] at wl
  simp only [←hW] at cp
  have w0:ixM (.lst W) (.int 0) θ=.ok (.int (at2 a 0)) θ:=by rw [wl]; rfl
  have w1:ixM (.lst W) (.int 1) θ=.ok (.int (at2 a 2)) θ:=by rw [wl]; rfl
  have w2:ixM (.lst W) (.int 2) θ=.ok (.int (at2 a 4)) θ:=by rw [wl]; rfl
  have w3:ixM (.lst W) (.int 3) θ=.ok (.int (at2 a 6)) θ:=by rw [wl]; rfl
  have w4:ixM (.lst W) (.int 4) θ=.ok (.int (at2 a 8)) θ:=by rw [wl]; rfl
  have w5:ixM (.lst W) (.int 5) θ=.ok (.int (at2 a 10)) θ:=by rw [wl]; rfl
  have w7:ixM (.lst W) (.int 7) θ=.ok (.int (at2 a 14)) θ:=by rw [wl]; rfl
  obtain ⟨wd,hwd⟩:∃x,x=D.lst W:=⟨_,rfl⟩
  rw [←hwd] at w0 w1 w2 w3 w4 w5 w7
  simp only [←hwd] at cp
  have mb:∀x:Int,ZdN x 65536:=fun x=>.inr (by omega)
  simp [Zb9,Zeb,R1,R2,i12,R3,←hhd,R4,R6,cp,w0,w1,w2,w3,w4,w5,w7,mb,i13,dr,c4,c8,Seg.d]
end
end My
namespace My
open PySem L2 L2.MM
noncomputable section
inductive ZrN (t:Int):Zu→List Seg→Zu→Prop
  | nil {e e':Zu} (h:going e t=(none,e')):ZrN t e [] e'
  | cons {e e1 e':Zu} {s:Seg} {r:List Seg} (h:going e t=(some s,e1)) (hs:s.Ok) (hr:ZrN t e1 r e'):ZrN t e (s::r) e'
section
variable {θ:Sto} {l:Nat} {t:Int}
abbrev ZmH:SM:=Zq (ZP 4 (mCB ZcN (Zc (Zd 0) (Zc (Zd 1) Zk)))) (Zq ZdG (Zdy 2 (mCB Zb9 (Zc (Zd 4) Zk))))
theorem Zub (h:l+3 < θ.length) {e e':Zu} (g:going e t=(none,e')) (acc:List D) (x y:Sl):ZmH [.val (.ref l),.val (.int t),.own acc,x,y] (upE θ l e)=.ok (.rt (.lst acc),[.val (.ref l),.val (.int t),.val (.lst acc),x,.val (il [])]) (upE θ l e'):=by
  simp [Zn0 h g,ZdG,Zdj]
theorem Zua (h:l+3 < θ.length) {e e':Zu} {s:Seg} (g:going e t=(some s,e')) (hs:s.Ok) (acc:List D) (ha:acc.length<BIG) (x y:Sl):ZmH [.val (.ref l),.val (.int t),.own acc,x,y] (upE θ l e)=.ok (.nx,[.val (.ref l),.val (.int t),.own (acc++[s.d]),x,.val (il (putL s))]) (upE θ l e'):=by
  have lr:=ZmY (Zf4 hs.put) (ZgG hs) (upE θ l e')
  rw [Znz hs] at lr
  simp [ZiS h g hs,ZdG,Zdj,Zus,lr,ha]
end
end
end My
namespace My
open PySem L2 L2.MM
noncomputable section
theorem Zry {nE:EM} {src:List Nat} {elt:EM} {ρ:List Sl} {θ:Sto} {j:Int} (F:Nat→Int) (hn:nE ρ θ=.ok (.int j) θ) (h0:0≤j) (h1:j≤1000) (he:∀i:Nat,i<j.toNat→elt (Ze5 src ρ (.int (i:Int))) θ=.ok (.int (F i)) θ) :
    ZeH (ZcW (Zc nE Zk)) src elt ρ θ=.ok (il ((List.range j.toNat).map F)) θ:=by
  have:=ZgQ (ρ:=ρ) (θ:=θ) (fi:=ZcW (Zc nE Zk)) (src:=src) (elt:=elt) (lo:=0) (n:=j.toNat) (θ':=θ) (fun k=>.int (F k.toNat)) (by simp [hn]; omega) (by simp [BIG]; omega) (by
    intro i hi
    simpa using he i hi)
  rw [this]
  simp [il]
end
end My
namespace My
open PySem L2 L2.MM
noncomputable section
structure Q where
  st:State
  una:Int
  nxt:Int
  beh:Int
  rcv:Int
  told:Int
  by_:Int
  wnd:Int
  most:Int
  written:List Int
  come:List Int
  fin:Option Int
  cl:Bool
  oa:Bool
  pr:Bool
  since:Int
  wait:Int
  tries:Int
def qE (a b f g:Int) (q:Q):Zu:=⟨a,b,q.st,.none,f,ZF f q.una,ZF f q.nxt,ZF g q.rcv,q.wnd,ZF g q.told,ZF f q.by_,q.most,q.written,q.come,[],q.fin.map (ZF g ·),q.cl,ZF f q.beh,none,false,q.oa,q.pr,q.since,q.wait,q.tries⟩
def q0 (W m:Int) (t:Int):Q:=⟨.opn,1,1,1,1,1,1,W,if m=0 then 12 else m,[],[],none,false,false,false,t,1000,0⟩
theorem ZuM (a b f g W m t:Int):Zdg a b f g W m t=qE a b f g (q0 W m t):=rfl
theorem Zsr (n:Nat) (xs:List Int):pls n (xs.map D.int)=true:=by
  induction xs with
  | nil=>simp [pls]
  | cons x r ih=>simp [pls,ih,pl]
theorem ZqP (xs:List Int):ZeO (xs.map D.int)=true:=by
  induction xs with
  | nil=>simp [ZeO]
  | cons x r ih=>simp [ZeO,ih,noB]
theorem Zuy (n:Nat) (s:Seg):pl (n+2) s.d=true:=by
  unfold Seg.d
  simp only [pl,pls,pl,Bool.true_and,Bool.and_true]
  unfold itp
  simp only [pl]
  exact Zsr _ _
theorem ZsD (s:Seg):noB s.d=true:=by
  unfold Seg.d
  simp only [noB,ZeO,Bool.true_and,Bool.and_true]
  unfold itp
  simp only [noB]
  exact ZqP _
theorem Zlu (n:Nat) (r:List Seg):pls (n+2) (r.map Seg.d)=true:=by
  induction r with
  | nil=>simp [pls]
  | cons s r ih=>simp [pls,ih,Zuy]
theorem Zi2 (r:List Seg):ZeO (r.map Seg.d)=true:=by
  induction r with
  | nil=>simp [ZeO]
  | cons s r ih=>simp [ZeO,ih,ZsD]
theorem Zsd {s t:Seg} (h:s.d=t.d):s=t:=by
  obtain ⟨⟩:=s
  obtain ⟨⟩:=t
  unfold Seg.d itp at h
  simp only [D.tup.injEq,List.cons.injEq,D.int.injEq,and_true] at h
  obtain ⟨h1,h2,h3,h4,h5,h6,h7,h8⟩:=h
  have:∀xs ys:List Int,xs.map D.int=ys.map D.int→xs=ys:=by
    intro xs
    induction xs with
    | nil=>intro ys hy; cases ys with
      | nil=>rfl
      | cons _ _=>simp at hy
    | cons x xs ih=>intro ys hy; cases ys with
      | nil=>simp at hy
      | cons y ys=>
        simp only [List.map_cons,List.cons.injEq,D.int.injEq] at hy
        rw [hy.1,ih ys hy.2]
  have:=this _ _ h8
  subst h1 h2 h3 h4 h5 h6 h7 this
  rfl
open Classical in
theorem ZsF (x y:List Seg) (θ:Sto):neM (.lst (x.map Seg.d)) (.lst (y.map Seg.d)) θ=.ok (.bl (!decide (x=y))) θ:=by
  rw [ZfL (Zdk (by simpa [pl,look] using Zlu 6 x) (by simpa [pl,look] using Zlu 6 y) (by simpa [noB,look] using Zi2 x) (by simpa [noB,look] using Zi2 y))]
  congr 3
  simp only [look,D.lst.injEq]
  have:∀x y:List Seg,x.map Seg.d=y.map Seg.d↔x=y:=by
    intro x
    induction x with
    | nil=>intro y; cases y<;>simp
    | cons s x ih=>intro y; cases y with
      | nil=>simp
      | cons t y=>
        simp only [List.map_cons,List.cons.injEq,ih]
        exact ⟨fun h=>⟨Zsd h.1,h.2⟩,fun h=>⟨by rw [h.1],h.2⟩⟩
  exact decide_eq_decide.mpr (this x y)
end
end My
namespace My
open PySem L2 L2.MM
noncomputable section
section
variable {e:Zu} {t:Int}
structure ZBt (e:Zu) (t:Int):Prop where
  rst:e.owed_reset=none
  st:e.state∉[State.closed,.listen,.synSent,.synCome]
  tw:e.state=.timeWait→t-e.since<120000
  due:¬e.nxt=e.una→t-e.since<e.wait
end
section
variable {e:Zu} {s:Seg} {t:Int}
end
end
end My
namespace My
open PySem L2 L2.MM
noncomputable section
section
variable {a b f g W m t:Int}
structure ZBh (q:Q) (t:Int):Prop where
  st:q.st∉[State.closed,.listen,.synSent,.synCome]
  tw:q.st=.timeWait→t-q.since<120000
  due:¬q.nxt=q.una→t-q.since<q.wait
  pr:q.pr=false
  un:q.beh≤q.nxt∧q.nxt-q.beh<1000∧0≤q.una∧q.una≤q.nxt∧q.nxt<1000
  fin:q.beh=q.nxt→q.st∉[State.waitOne,.closing,.lastAck]
end
end
end My
namespace My
open PySem L2 L2.MM
noncomputable section
end
end My
namespace L2.MM
open PySem PySem.Spec PyProof.Rows
def kvS (kvs:List (Str×Str)):List (Key×V):=kvs.map fun p=>(.inr p.1,.str p.2)
def trS (kvs:List (Str×Str)):List (TE×TE):=kvs.map fun p=>(tC (.str p.1),tC (.str p.2))
section
variable {X:Cx}
end
section
variable {ρ:List Sl} {θ:Sto}
end
end L2.MM
namespace L2.MM
open PySem L2
structure BE (X:Cx) (e:Expr) (f:EM):Prop where
  h:ME X e f
structure BA (X:Cx) (es:List Expr) (f:AM):Prop where
  h:MA X es f
structure BS (X:Cx) (st:Stmt) (f:SM):Prop where
  h:MS X st f
section
variable {X:Cx} {e:Expr} {es:List Expr} {f:EM} {fs:AM} {pos:Pos}
end
end L2.MM
namespace L2.MM
open PySem PySem.Spec PyProof.Rows
structure BP (X:Cx) (pos:Pos) (keys:List (Option Expr)) (values:List Expr) (kvs:List (Str×Str)):Prop where
  h:PPs X pos keys values (trS kvs)
  m:Zu0 [] (kvS kvs)=kvS kvs
  a:keys.all (·.isSome)=true
  l:keys.length=values.length
  n:kvs.length=keys.length
section
variable {X:Cx} {pos apos cpos pos' p1 p2:Pos} {k0:Option Expr} {keys:List (Option Expr)} {values:List Expr} {kvs:List (Str×Str)} {x y:Str} {fi ff:EM} {k:Nat}
variable {e:Expr} {es:List Expr} {f:EM} {fs:AM}
end
end L2.MM
namespace My
open PySem L2 L2.MM
noncomputable section
def room (q:Q):Int:=q.wnd-(q.nxt-q.una)
def ZtL (q:Q):Prop:=q.st∈[State.opn,.waitOne,.closeWait,.closing,.lastAck]∧q.nxt<q.beh
def ZtK (q:Q):Prop:=q.st∈[State.waitOne,.closing,.lastAck]∧q.nxt=q.beh
instance (q:Q):Decidable (ZtL q):=by unfold ZtL; infer_instance
instance (q:Q):Decidable (ZtK q):=by unfold ZtK; infer_instance
structure WF (q:Q):Prop where
  una:0≤q.una∧q.una≤q.nxt
  nxt:q.nxt≤q.beh+1∧q.beh<1000000
  wr:q.una≤q.beh→(q.written.length:Int)=q.beh-q.una
  wnd:0≤q.wnd∧q.wnd≤65535
  most:4≤q.most
  come:q.come.length≤64
  byt:∀z∈q.written,0≤z∧z≤255
structure ZBj (q:Q) (t:Int):Prop where
  st:q.st∉[State.closed,.listen,.synSent,.synCome]
  tw:q.st=.timeWait→t-q.since<120000
  due:¬q.nxt=q.una→t-q.since<q.wait
section
variable {a b f g t:Int} {q:Q}
end
section
variable {a b f g t:Int}
end
end
end My
namespace My
open PySem L2 L2.MM
noncomputable section
structure ZBs (q q':Q):Prop where
  st:q'.st=q.st
  una:q'.una=q.una
  beh:q'.beh=q.beh
  rcv:q'.rcv=q.rcv
  told:q'.told=q.told
  by_:q'.by_=q.by_
  wnd:q'.wnd=q.wnd
  most:q'.most=q.most
  written:q'.written=q.written
  come:q'.come=q.come
  fin:q'.fin=q.fin
  cl:q'.cl=q.cl
section
variable {a b f g t:Int}
end
section
variable {a b f g t:Int}
end
end
end My
namespace My
open PySem L2 L2.MM
noncomputable section
section
variable {a b f g t:Int}
end
end
end My
namespace My
open PySem L2 L2.MM
noncomputable section
section
variable {a b f g t:Int} {q:Q}
structure Due (q:Q) (t:Int):Prop where
  st:q.st∉[State.closed,.listen,.synSent,.synCome,.timeWait]
  nx:¬q.nxt=q.una
  due:q.wait≤t-q.since
end
end
end My
namespace My
open PySem L2 L2.MM
noncomputable section
section
variable {a b f g t:Int} {q:Q}
end
end
end My
namespace My
open PySem L2 L2.MM
noncomputable section
section
variable {a b f g t:Int} {q:Q}
end
end
end My
namespace My
open PySem L2 L2.MM
noncomputable section
structure Ear (g R hi:Int) (l:EL) (F:Int→Option Int):Prop where
  at_:∀x,R≤x→x<hi→atE l (ZF g x)=F x
  keys:∀k∈l.map (·.1),∃x,R≤x∧x<hi∧k=ZF g x
  nd:(l.map (·.1)).Nodup
  out:∀x,¬(R≤x∧x<hi)→F x=none
end
end My
namespace My
open PySem L2 L2.MM
noncomputable section
theorem for_rng {fi:IM} {body:SM} {k:Nat} {ρ:List Sl} {θ:Sto} {lo:Int} {n:Nat} (Inv:Nat→List Sl→Sto→Prop) (hn:fi ρ θ=.ok (.rng lo n) θ) (hi:Inv 0 ρ θ)
    (step:∀(i:Nat) ρ θ,i<n→Inv i ρ θ→∃ρ' θ',body (ρ.set k (.val (.int (lo+(i:Int))))) θ=.ok (.nx,ρ') θ'∧Inv (i+1) ρ' θ') (hk:∀i ρ θ,Inv i ρ θ→k < ρ.length) :
    ∃ρ' θ',ZeP fi (gNm k) body ρ θ=.ok (.nx,ρ') θ'∧Inv n ρ' θ':=by
  obtain ⟨all,hall⟩:∃x,x=(List.range n).map fun (i:Nat)=>D.int (lo+(i:Int)):=⟨_,rfl⟩
  have hm:ZeP fi (gNm k) body ρ θ=forL (.rng lo n) all (gNm k) body all ρ θ:=by
    unfold ZeP
    rw [hn,R.bind_ok]
    simp only [Zc5,←hall]
  rw [hm]
  have key:∀(m:Nat) ρ θ,m≤n→Inv (n-m) ρ θ→∃ρ' θ',forL (.rng lo n) all (gNm k) body (all.drop (n-m)) ρ θ=.ok (.nx,ρ') θ'∧Inv n ρ' θ':=by
    intro m
    induction m with
    | zero=>
      intro ρ θ _ hI
      refine ⟨ρ,θ,?_,by simpa using hI⟩
      rw [Nat.sub_zero,List.drop_eq_nil_of_le (by rw [hall]; simp)]
      simp [forL,hall]
    | succ m ih=>
      intro ρ θ hm hI
      have hlt:n-(m+1)<n:=by omega
      have hla:n-(m+1)<all.length:=by rw [hall]; simpa using hlt
      have e:n-(m+1)+1=n-m:=by omega
      have hx:all[n-(m+1)]=D.int (lo+((n-(m+1):Nat):Int)):=by simp [hall]
      have hg:gNm k (D.int (lo+((n-(m+1):Nat):Int))) ρ=some (ρ.set k (.val (.int (lo+((n-(m+1):Nat):Int))))):=by
        have:=hk _ _ _ hI
        simp [gNm,this]
      have hit:(Src.rng lo n).items θ=some all:=by rw [Zc5,hall]
      rw [List.drop_eq_getElem_cons hla,hx,e]
      simp only [forL,hit,if_true,hg]
      obtain ⟨ρ',θ',h,hI'⟩:=step _ ρ θ hlt hI
      rw [h,R.bind_ok,Zfn]
      exact ih ρ' θ' (by omega) (by rw [←e]; exact hI')
  have:=key n ρ θ (Nat.le_refl _) (by rw [Nat.sub_self]; exact hi)
  rw [Nat.sub_self,List.drop_zero] at this
  exact this
def kd (K:List Int):List (Key×D):=K.map fun n=>(Sum.inl n,D.bl true)
section
variable {B:Sto} {l:Nat} {e:Zu} {m m':List (Key×D)}
theorem ZtU (h:l+3<B.length) (X:Sto):upE B l e++X=upE (B++X) l e:=by
  unfold upE
  rw [List.set_append_left _ _ (by omega),List.set_append_left _ _ (by simp; omega),List.set_append_left _ _ (by simp; omega),List.set_append_left _ _ (by simp; omega)]
end
end
end My
namespace L2.MM
open PySem PySem.Spec PyProof.Rows
section
variable {B:Bx} {H:Hp}
end
section
variable {X:Cx}
end
end L2.MM
namespace L2.MM
open PySem PySem.Spec PyProof.Rows
section
variable {X:Cx}
def ZmR:OM:=fun x y θ=>match Zav θ x,Zav θ y with
  | some xs,some ys=>if xs.length+ys.length≤BIG then .ok (.ref θ.length) (θ++[.lst (xs++ys)]) else .bad
  | _,_=>.bad
theorem ZuX:OpR X (binaryOp .Add) (rM X ZmR):=by
  refine OpR.imp ZqG fun x y H Q q=>?_
  obtain ⟨σ,B,θ,d,e,G,rd,re,w⟩:=q
  unfold ZmR at w
  split at w
  · rename_i xs ys e1 e2
    split at w
    · rename_i hz
      obtain ⟨a,vs,rfl,h1,l1⟩:=z7 G rd e1
      obtain ⟨b,us,rfl,h2,l2⟩:=z7 G re e2
      exact ⟨a,b,vs,us,rfl,rfl,h1,h2,by rw [l1.len,l2.len]; exact Zas hz,ZrX G (l1.app l2) w⟩
    · exact w.elim
  · exact w.elim
end
end L2.MM
namespace L2.MM
open PySem PySem.Spec PyProof.Rows
mutual
def ZdZ (n:Nat):D→Bool
  | .tup xs=>Zh6 n xs
  | .lst xs=>Zh6 n xs
  | .ref l=>decide (l<n)
  | _=>true
def Zh6 (n:Nat):List D→Bool
  | []=>true
  | d::r=>ZdZ n d && Zh6 n r
end
def ZcH (n:Nat):Cell→Bool
  | .lst xs=>Zh6 n xs
  | .dK kvs=>kvs.all fun p=>ZdZ n p.2
  | .dT kvs=>kvs.all fun p=>ZdZ n p.2
  | .ins _ fs=>fs.all fun p=>ZdZ n p.2
def Bx.pop (B:Bx) (l:Nat):Bx:={ B with n:=l,os:=B.m l::B.os }
section
variable {B:Bx} {H:Hp} {l:Nat}
theorem Zmw (hn:B.n=l+1) {b:Addr} (h:B.ok b):(B.pop l).ok b:=
  ⟨fun i hi=>h.1 i (by show i<B.n; rw [hn]; exact Nat.lt_succ_of_lt hi),h.2.1,fun z=>by
    rcases List.mem_cons.mp z with z | z
    · exact h.1 l (by omega) z.symm
    · exact h.2.2 z⟩
mutual
theorem Zm9 (hn:B.n=l+1):∀(d:D) (v:V),ZdZ l d=true→RepV B H d v→RepV (B.pop l) H d v
  | .non,v,_,r=>r
  | .bl _,v,_,r=>r
  | .int _,v,_,r=>r
  | .str _,v,_,r=>r
  | .ty _,v,_,r=>r
  | .scr ns,v,_,r=>by
    obtain ⟨a,e,h⟩:=r
    exact ⟨a,e,h.imp (fun ⟨o,h1,h2⟩=>⟨o,h1,Zmw hn h2⟩) id⟩
  | .tup xs,v,lo,r=>by
    obtain ⟨a,vs,e,h1,h2,h3⟩:=r
    exact ⟨a,vs,e,h1,Zmw hn h2,ZeU hn xs vs (by simpa [ZdZ] using lo) h3⟩
  | .lst xs,v,lo,r=>by
    obtain ⟨a,vs,e,h1,h2,h3⟩:=r
    exact ⟨a,vs,e,h1,Zmw hn h2,ZeU hn xs vs (by simpa [ZdZ] using lo) h3⟩
  | .ref k,v,lo,r=>⟨by have:=lo; simp only [ZdZ,decide_eq_true_eq] at this; exact this,r.2⟩
theorem ZeU (hn:B.n=l+1):∀(ds:List D) (vs:List V),Zh6 l ds=true→RepL B H ds vs→RepL (B.pop l) H ds vs
  | [],vs,_,r=>r
  | d::ds,vs,lo,r=>by
    obtain ⟨v,us,e,h1,h2⟩:=r
    simp only [Zh6,Bool.and_eq_true] at lo
    exact ⟨v,us,e,Zm9 hn d v lo.1 h1,ZeU hn ds us lo.2 h2⟩
end
theorem Zfp {κ:Type} (hn:B.n=l+1):∀{ks:List (κ×D)} {vs:List (κ×V)},(ks.all fun p=>ZdZ l p.2)=true→RepKV B H ks vs→RepKV (B.pop l) H ks vs
  | _,_,_,.nil=>.nil
  | _,_,lo,.cons h t=>by
    simp only [List.all_cons,Bool.and_eq_true] at lo
    exact .cons ⟨h.1,Zm9 hn _ _ lo.1 h.2⟩ (Zfp hn lo.2 t)
theorem ZrA {cl:Mo} (hn:B.n=l+1) {a:Addr} {c:Cell} (lo:ZcH l c=true) (k:CellOk cl B H a c):CellOk cl (B.pop l) H a c:=by
  cases c with
  | lst xs=>obtain ⟨vs,e,r⟩:=k; exact ⟨vs,e,ZeU hn _ _ lo r⟩
  | dK kvs=>obtain ⟨vs,e,r⟩:=k; exact ⟨vs,e,Zfp hn lo r⟩
  | dT kvs=>obtain ⟨vs,e,r⟩:=k; exact ⟨vs,e,Zfp hn lo r⟩
  | ins C fs=>obtain ⟨dx,vs,e,r⟩:=k; exact ⟨dx,vs,e,Zfp hn lo r⟩
theorem Zri {cl:Mo} {θ:Sto} (G:Good cl B θ H) (hl:l+1=θ.length) (lo:θ.dropLast.all (ZcH l)=true):Good cl (B.pop l) θ.dropLast H:=by
  have hn:B.n=l+1:=by rw [←G.len,hl]
  have lt:∀i,i<l→i<B.n:=fun i h=>by omega
  refine ⟨by rw [List.length_dropLast]; show θ.length-1=l; omega,fun i j hi hj=>G.inj i j (lt i hi) (lt j hj),fun i c e=>?_,fun i hi=>⟨(G.cF i (lt i hi)).1,fun z=>?_⟩,G.Fs,fun a z=>?_,fun a z=>?_,G.kc⟩
  · have hi:i < θ.dropLast.length:=(List.getElem?_eq_some_iff.mp e).1
    have e':θ[i]?=some c:=by
      rw [List.getElem?_dropLast] at e
      split at e
      · exact e
      · cases e
    exact ZrA hn (List.all_eq_true.mp lo c (List.mem_of_getElem? e)) (G.cel i c e')
  · rcases List.mem_cons.mp z with z | z
    · have:=G.inj i l (lt i hi) (by omega) z
      have hi':i<l:=hi
      omega
    · exact (G.cF i (lt i hi)).2 z
  · rcases List.mem_cons.mp z with rfl | z
    · exact G.there (by omega)
    · exact G.oS a z
  · rcases List.mem_cons.mp z with rfl | z
    · exact (G.cF l (by omega)).1
    · exact G.oF a z
end
section
variable {X:Cx}
def mTake (i:Nat) (f:EM):SM:=fun ρ θ=>(f ρ θ).bind fun d θ1=>match d,θ1.getLast? with
  | .ref l,some (.lst xs)=>if l+1=θ1.length∧θ.length≤l∧Zh6 l xs=true∧θ1.dropLast.all (ZcH l)=true then .ok (.nx,ρ.set i (.own xs)) θ1.dropLast else .bad
  | _,_=>.bad
theorem ZsH (i:Nat) {x:Str} {e:Expr} {f:EM} {pos pos':Pos} (hN:X.N.Nodup) (he:ME X e f) (hi:X.N[i]?=some x:=by rfl) (hx:Loc X.env.scope x:=by first | exact Or.inl rfl | exact Or.inr rfl)
    (hs:swapsWith e (some (.Name x pos')) pos.line X.env=pure false:=by rfl) (hf:X.fn x=true∨X.env.scope.names.lookup x=some .local:=by first | exact .inl rfl | exact .inr rfl):MS X (.Assign [.Name x pos'] e pos) (mTake i f):=
  PS.imp (Zmr hN hi hx he hs hf) fun D σ H h=>by
  obtain ⟨B,θ,ρ,F,w⟩:=h
  refine ⟨B,θ,ρ,F,?_⟩
  unfold mTake at w
  cases hfv:f ρ θ with
  | bad=>rw [hfv] at w; exact w.elim
  | ex c θ'=>rw [hfv] at w; exact False.elim w
  | ok d θ1=>
    rw [hfv,R.bind_ok] at w
    intro B1 H1 v E1 G1 r
    split at w
    · rename_i l xs eL
      split at w
      · rename_i hc
        obtain ⟨c1,c2,c3,c4⟩:=hc
        have hn:B1.n=l+1:=by rw [←G1.len,c1]
        obtain ⟨_,rfl⟩:=r
        have eL':θ1[l]?=some (.lst xs):=by
          rw [List.getLast?_eq_getElem?] at eL
          rw [←eL]
          congr 1
          omega
        obtain ⟨vs,hv1,hv2⟩:=G1.cel l _ eL'
        have lB:B.n≤l:=by rw [←F.good.len]; exact c2
        have G2:=Zri G1 c1 c4
        have hnone:H (B1.m l)=none:=E1.fr l lB (by omega)
        have E2:ExtS B (B1.pop l) H H1:=⟨lB,E1.m,fun j h1 h2=>E1.fr j h1 (by have:j<l:=h2; omega),E1.keep,E1.sm,fun a z=>by
          rcases List.mem_cons.mp z with rfl | z
          · exact .inr hnone
          · exact E1.os a z,E1.F,E1.ks⟩
        have oth:∀(j:Nat) (s:Sl),(ρ.set i (Sl.own xs))[j]?=some s→(j=i∧s=.own xs∧j < σ.length)∨(j≠i∧ρ[j]?=some s):=fun j s e=>by
          by_cases q:j=i
          · subst q
            have hl:j < ρ.length:=by
              have:=(List.getElem?_eq_some_iff.mp e).1
              simpa using this
            rw [List.getElem?_set_self hl] at e
            cases e
            exact .inl ⟨rfl,rfl,by rw [←F.len]; exact hl⟩
          · rw [List.getElem?_set_ne (Ne.symm q)] at e
            exact .inr ⟨q,e⟩
        have old:∀j ys,ρ[j]?=some (Sl.own ys)→∀a,σ[j]?=some (some (V.ref a))→a≠B1.m l:=fun j ys h a e z=>by
          obtain ⟨a',us,q1,q2,q3,q4⟩:=F.own j ys h
          rw [e] at q1
          cases q1
          rw [z,hnone] at q3
          cases q3
        have F2:Frm X.cl (B1.pop l) θ1.dropLast (ρ.set i (.own xs)) (σ.set i (some (.ref (B1.m l)))) H1:=by
          refine ⟨G2,by simp [F.len],fun j d h=>?_,fun j ys h=>?_,fun j k ys zs a hne h1 h2 h3=>?_⟩
          · rcases oth j _ h with ⟨_,z,_⟩ | ⟨q,z⟩
            · cases z
            · rw [List.getElem?_set_ne (Ne.symm q)]
              obtain ⟨v,q1,q2⟩:=F.val j d z
              exact ⟨v,q1,q2.ext E2⟩
          · rcases oth j _ h with ⟨rfl,z,hl⟩ | ⟨q,z⟩
            · cases z
              exact ⟨B1.m l,vs,by rw [List.getElem?_set_self hl],List.mem_cons_self,hv1,ZeU hn _ _ c3 hv2⟩
            · rw [List.getElem?_set_ne (Ne.symm q)]
              obtain ⟨a,us,q1,q2,q3,q4⟩:=F.own j ys z
              exact ⟨a,us,q1,List.mem_cons_of_mem _ (by rw [E1.osE]; exact q2),E1.ko a _ q2 (fun i hi z=>(F.good.cF i hi).2 (by rw [z]; exact q2)) q3,q4.ext E2⟩
          · rcases oth j _ h1 with ⟨rfl,z1,hl⟩ | ⟨q1,z1⟩
            · rcases oth k _ h2 with ⟨rfl,z2,_⟩ | ⟨q2,z2⟩
              · exact absurd rfl hne
              · rw [List.getElem?_set_self hl] at h3
                cases h3
                rw [List.getElem?_set_ne (Ne.symm q2)]
                exact fun z=>old k zs z2 _ z rfl
            · rw [List.getElem?_set_ne (Ne.symm q1)] at h3
              rcases oth k _ h2 with ⟨rfl,z2,hl⟩ | ⟨q2,z2⟩
              · rw [List.getElem?_set_self hl]
                intro z
                cases z
                exact old j ys z1 _ h3 rfl
              · rw [List.getElem?_set_ne (Ne.symm q2)]
                exact F.ne j k ys zs a hne z1 z2 h3
        exact w _ _ _ E2 F2
      · exact w.elim
    · exact w.elim
def Zq3 (i:Nat) (fi fv:EM):SM:=fun ρ θ=>(fv ρ θ).bind fun v θ=>(fi ρ θ).bind fun y θ=>match y,ρ[i]? with
  | .int n,some (Sl.own xs)=>match ixN xs.length n with
    | some k=>.ok (.nx,ρ.set i (.own (xs.set k v))) θ
    | none=>.bad
  | _,_=>.bad
theorem ZsI (i:Nat) {x:Str} {ie value:Expr} {fi fv:EM} {p pos pos':Pos} (hi:ME X ie fi) (hv:ME X value fv) (hN:X.N[i]?=some x:=by rfl) (hvi:Vis X.env.scope x:=by first | exact Or.inl rfl | exact Or.inr (Or.inl rfl) | exact Or.inr (Or.inr rfl))
    (hd:(x == ("__debug__":Str))=false:=by decide) (hcd:(x == ("__classdict__":Str))=false:=by decide)
    (hps:∀{to:TE},PE X (.Name x p) to→PS X (.Assign [.Subscript (.Name x p) ie pos'] value pos) (Zsb (tM X fv) (ZwT to (tM X fi) Ztu))):MS X (.Assign [.Subscript (.Name x p) ie pos'] value pos) (Zq3 i fi fv):=
  PS.imp (hps (ZhW hN hvi hd hcd)) fun D σ H h=>by
  obtain ⟨B,θ,ρ,F,w⟩:=h
  refine Z3 (Zf0 F w) ?_
  rintro v H1 ⟨B1,θ1,dv,E1,F1,rv,w1⟩
  have own:∃xs,ρ[i]?=some (Sl.own xs):=by
    cases q:fi ρ θ1 with
    | bad=>rw [q] at w1; exact w1.elim
    | ex c θ'=>rw [q] at w1; exact False.elim w1
    | ok d θ'=>
      rw [q] at w1
      simp only [R.bind_ok] at w1
      split at w1
      · rename_i xs e; exact ⟨_,e⟩
      · exact w1.elim
  obtain ⟨xs,hx⟩:=own
  obtain ⟨a,vs,q1,q2,q3,q4⟩:=F1.own i xs hx
  refine ⟨.ref a,q1,?_⟩
  refine Z3 (Zf0 F1 w1) ?_
  rintro y H2 ⟨B2,θ2,dy,E2,F2,ry,w2⟩
  rw [hx] at w2
  cases dy with
  | int n=>
    simp only at w2
    split at w2
    · rename_i k ek
      obtain ⟨a',us,p1,p2,p3,p4⟩:=F2.own i xs hx
      rw [q1] at p1
      cases p1
      obtain ⟨E3,F3⟩:=F2.updOwn hx q1 (p4.set (rv.ext E2.toExtS) k)
      exact ⟨a,us,n,k,rfl,ry,p3,by rw [p4.len]; exact ek,w2 _ _ _ E3 F3⟩
    · exact w2.elim
  | _=>exact w2.elim
def ZjC (i:Nat) (fe:EM):EM:=fun ρ θ=>(fe ρ θ).bind fun y θ=>match y,ρ[i]? with
  | .int n,some (Sl.own xs)=>match atI xs n with
    | some d=>.ok d θ
    | none=>.bad
  | _,_=>.bad
theorem ZlI (i:Nat) {x:Str} {e:Expr} {fe:EM} {p pos:Pos} (he:ME X e fe) (hN:X.N[i]?=some x:=by rfl) (hvi:Vis X.env.scope x:=by first | exact Or.inl rfl | exact Or.inr (Or.inl rfl) | exact Or.inr (Or.inr rfl))
    (hd:(x == ("__debug__":Str))=false:=by decide) (hcd:(x == ("__classdict__":Str))=false:=by decide) (hs:ZjT e:=by intro _ _; rfl):ME X (.Subscript (.Name x p) e pos) (ZjC i fe):=
  PE.imp (Ztw Zra (ZhW hN hvi hd hcd) he hs) fun σ H Q h=>by
  obtain ⟨B,θ,ρ,F,w⟩:=h
  have own:∃xs,ρ[i]?=some (Sl.own xs):=by
    unfold ZjC at w
    cases q:fe ρ θ with
    | bad=>rw [q] at w; exact w.elim
    | ex c θ'=>rw [q] at w; exact False.elim w
    | ok d θ'=>
      rw [q] at w
      simp only [R.bind_ok] at w
      split at w
      · rename_i xs e; exact ⟨_,e⟩
      · exact w.elim
  obtain ⟨xs,hx⟩:=own
  obtain ⟨a,vs,q1,q2,q3,q4⟩:=F.own i xs hx
  refine ⟨.ref a,q1,?_⟩
  refine Z3 (step F w) ?_
  rintro y H1 ⟨B1,θ1,dy,E1,F1,ry,w1⟩
  rw [hx] at w1
  obtain ⟨a',us,p1,p2,p3,p4⟩:=F1.own i xs hx
  rw [q1] at p1
  cases p1
  cases dy with
  | int n=>
    simp only at w1
    split at w1
    · rename_i d ed
      obtain ⟨v,h3,h4⟩:=p4.atI ed
      exact .inl ⟨a,us,n,v,rfl,ry,SqL.of p3,h3,ZQ (Rel:=RepV) F1.good h4 w1⟩
    · exact w1.elim
  | _=>exact w1.elim
def ZhB (i:Nat):EM:=fun ρ θ=>match ρ[i]? with
  | some (Sl.own xs)=>.ok (.int xs.length) θ
  | _=>.bad
theorem Zoa (i:Nat) {x f:Str} {p p' pos:Pos} (hm:X.mg f=none) (hv:bootBuiltins f=some (.builtin "len")) (hN:X.N[i]?=some x:=by rfl) (hvi:Vis X.env.scope x:=by first | exact Or.inl rfl | exact Or.inr (Or.inl rfl) | exact Or.inr (Or.inr rfl))
    (hd:(x == ("__debug__":Str))=false:=by decide) (hcd:(x == ("__classdict__":Str))=false:=by decide) (hg:Gl X f:=by rfl) (hn:f≠"__name__":=by decide) (hdb:(f == ("__debug__":Str))=false:=by decide):ME X (.Call (.Name f p') [.Name x p] [] pos) (ZhB i):=
  PE.imp (Zlw Zgr hg hm hv (Zf6 (ZhW hN hvi hd hcd) ZhX) hn hdb) fun σ H Q h=>by
  obtain ⟨B,θ,ρ,F,w⟩:=h
  unfold ZhB at w
  split at w
  · rename_i xs hx
    obtain ⟨a,vs,q1,q2,q3,q4⟩:=F.own i xs hx
    refine ⟨.ref a,q1,⟨a,vs,rfl,.inl (SqL.of q3),?_⟩⟩
    rw [q4.len]
    exact ZQ (Rel:=RepV) F.good (show RepV B H (.int _) (.int _) from rfl) w
  · exact w.elim
end
section
variable {ρ:List Sl} {θ:Sto} {fe fi fv f:EM} {i:Nat}
@[simp] theorem Zxa:ZjC i fe ρ θ=(fe ρ θ).bind fun y θ=>match y,ρ[i]? with
  | .int n,some (Sl.own xs)=>match atI xs n with
    | some d=>.ok d θ
    | none=>.bad
  | _,_=>.bad:=nr rfl
@[simp] theorem ZvL:ZhB i ρ θ=match ρ[i]? with
  | some (Sl.own xs)=>.ok (.int xs.length) θ
  | _=>.bad:=nr rfl
@[simp] theorem Zzp:Zq3 i fi fv ρ θ=(fv ρ θ).bind fun v θ=>(fi ρ θ).bind fun y θ=>match y,ρ[i]? with
  | .int n,some (Sl.own xs)=>match ixN xs.length n with
    | some k=>.ok (.nx,ρ.set i (.own (xs.set k v))) θ
    | none=>.bad
  | _,_=>.bad:=nr rfl
end
end L2.MM
namespace My
open PySem L2 L2.MM
noncomputable section
structure EOk (A T U:Int) (W:Int) (N:Nat) (e:Zu):Prop where
  ours:e.ours=A∧0≤A∧A≤65535
  theirs:e.theirs=T∧0≤T∧T≤65535
  first:0≤e.first∧e.first≤4294967295
  una:e.una=U∧0≤U∧U≤4294967295
  rcv:0≤e.rcv∧e.rcv≤4294967295
  come:e.come.length≤64
  wr:∀z∈e.written,0≤z∧z≤255
  wl:e.written.length≤64
  most:4≤e.most
  rst:∀s,e.owed_reset=some s→s.Ok
  syn:e.state=.synSent∨e.state=.synCome→e.una=e.first
  nl:¬e.state=.listen
  ear:e.early.length≤N
  num:∃w s:Int,0≤s∧s≤w+1∧0≤w∧w≤W∧e.nxt=ZF e.una s∧e.behind=ZF e.una w
section
variable {A T U W:Int} {N:Nat} {e:Zu} {t:Int}
theorem EOk.oursR (h:EOk A T U W N e):0≤e.ours∧e.ours≤65535:=by rw [h.ours.1]; exact h.ours.2
theorem EOk.theirsR (h:EOk A T U W N e):0≤e.theirs∧e.theirs≤65535:=by rw [h.theirs.1]; exact h.theirs.2
theorem EOk.unaR (h:EOk A T U W N e):0≤e.una∧e.una≤4294967295:=by rw [h.una.1]; exact h.una.2
theorem EOk.seg (h:EOk A T U W N e) {n f:Int} {data:List Int} (hn:0≤n∧n≤4294967295) (hf:f=0∨f=1∨f=8) (hd:(∀z∈data,0≤z∧z≤255)∧data.length≤16):(ZdR e n f data).Ok:=
  Zha h.oursR h.theirsR hn h.rcv (by omega) (by have:=h.come; unfold ZX; omega) (.inl rfl) hd
theorem EOk.nxt (h:EOk A T U W N e):0≤e.nxt∧e.nxt≤4294967295:=by
  obtain ⟨w,s,_,_,_,_,h1,_⟩:=h.num
  rw [h1]; exact Zbe _ _
theorem Zqc (h:EOk A T U W N e):(Zek e).Ok:=by
  unfold Zek
  split
  · exact Zha h.oursR h.theirsR h.first (by omega) (by omega) (by omega) (.inr ⟨by omega,by omega,by decide⟩) Zc0
  · exact Zha h.oursR h.theirsR h.first h.rcv (by omega) (by omega) (.inr ⟨by omega,by omega,by decide⟩) Zc0
theorem Zov (hW:W≤1000) (h:EOk A T U W N e):(∀s,(again e t).1=some s→s.Ok)∧EOk A T U W N (again e t).2:=by
  unfold again
  by_cases c:e.tries=6
  · rw [if_pos c]
    refine ⟨fun s z=>(by cases z),⟨h.ours,h.theirs,h.first,h.una,h.rcv,h.come,h.wr,h.wl,h.most,h.rst,fun z=>?_,by simp,h.ear,h.num⟩⟩
    rcases z with z | z<;>cases z
  · rw [if_neg c]
    have h1:EOk A T U W N { e with tries:=e.tries+1,wait:=mn (2*e.wait) 16000,since:=t }:=⟨h.ours,h.theirs,h.first,h.una,h.rcv,h.come,h.wr,h.wl,h.most,h.rst,h.syn,h.nl,h.ear,h.num⟩
    by_cases c2:e.state=.synSent∨e.state=.synCome
    · simp only [if_pos c2]
      exact ⟨fun s z=>(by cases z; exact Zqc h1),⟨h.ours,h.theirs,h.first,h.una,h.rcv,h.come,h.wr,h.wl,h.most,h.rst,h.syn,h.nl,h.ear,h.num⟩⟩
    · simp only [if_neg c2]
      refine ⟨fun s z=>?_,h1⟩
      cases z
      obtain ⟨w,s,s0,s1,w0,w1,n1,n2⟩:=h.num
      have o:zr e.nxt e.una=s:=by rw [n1]; exact ZhY (by omega)
      have m16:0≤mn s (Z7 e)∧mn s (Z7 e)≤16:=by
        have:=h.most
        unfold mn Z7
        split<;>split<;>omega
      refine h1.seg h.unaR ?_ ⟨fun z hz=>h.wr z ?_,?_⟩
      · split
        · exact .inl rfl
        · exact .inr (.inl rfl)
      · unfold ZbC at hz
        rw [o,Zcc _ m16.1] at hz
        exact List.mem_of_mem_take hz
      · unfold ZbC
        rw [o,Zcc _ m16.1,List.length_take]
        omega
theorem Zmy (hW:W≤1000) (h:EOk A T U W N e) {r:Int} (hr:0<r) (hd:0<ZbD e):(Zdx e r).1.Ok∧EOk A T U W N (Zdx e r).2:=by
  obtain ⟨w,s,s0,s1,w0,w1,n1,n2⟩:=h.num
  have o:zr e.nxt e.una=s:=by rw [n1]; exact ZhY (by omega)
  have us:ZbD e=w-s:=by unfold ZbD; rw [n1,n2]; exact ZiZ (by omega)
  have mo:0<Z7 e∧Z7 e≤16:=by
    have:=h.most
    unfold Z7
    split<;>omega
  have nm:0<Zcx e r∧Zcx e r≤16∧Zcx e r≤w-s:=by
    unfold Zcx mn3
    rw [us] at hd ⊢
    split<;>split<;>omega
  have h1:EOk A T U W N { e with nxt:=ZF e.nxt (Zcx e r) }:=⟨h.ours,h.theirs,h.first,h.una,h.rcv,h.come,h.wr,h.wl,h.most,h.rst,h.syn,h.nl,h.ear,⟨w,s+Zcx e r,by omega,by omega,w0,w1,by show ZF e.nxt _=_; rw [n1,Zcj],n2⟩⟩
  unfold Zdx
  refine ⟨h1.seg h.nxt ?_ ⟨fun z hz=>h.wr z ?_,?_⟩,h1⟩
  · split
    · exact .inr (.inr rfl)
    · exact .inl rfl
  · rw [o,ZhG _ (by omega) (by omega)] at hz
    exact List.mem_of_mem_drop (List.mem_of_mem_take hz)
  · rw [o,ZhG _ (by omega) (by omega),List.length_take]
    omega
theorem Zn9 (hW:W≤1000) (h:EOk A T U W N e) (hd:ZbD e=0):(ZgL e).1.Ok∧EOk A T U W N (ZgL e).2:=by
  obtain ⟨w,s,s0,s1,w0,w1,n1,n2⟩:=h.num
  have us:ZbD e=w-s:=by unfold ZbD; rw [n1,n2]; exact ZiZ (by omega)
  exact ⟨h.seg h.nxt (.inr (.inl rfl)) Zc0,⟨h.ours,h.theirs,h.first,h.una,h.rcv,h.come,h.wr,h.wl,h.most,h.rst,h.syn,h.nl,h.ear,⟨w,s+1,by omega,by omega,w0,w1,by show ZF e.nxt 1=ZF e.una (s+1); rw [n1,Zcj],n2⟩⟩⟩
theorem Zhc (hW:W≤1000) (h:EOk A T U W N e) {r:Int} (hr:0<r) (hm:ZaP e=true):(Zbm e r).1.Ok∧EOk A T U W N (Zbm e r).2:=by
  have h1:EOk A T U W N { e with probes:=false }:=⟨h.ours,h.theirs,h.first,h.una,h.rcv,h.come,h.wr,h.wl,h.most,h.rst,h.syn,h.nl,h.ear,h.num⟩
  unfold Zbm
  by_cases c:Za0 e=true
  · rw [if_pos c]
    refine Zmy hW h1 hr ?_
    unfold Za0 at c
    simp only [Bool.and_eq_true,decide_eq_true_eq] at c
    exact c.2
  · rw [if_neg c]
    refine Zn9 hW h1 ?_
    unfold ZaP at hm
    have:hasNewFin e=true:=by simpa [c] using hm
    unfold hasNewFin at this
    simp only [Bool.and_eq_true,decide_eq_true_eq] at this
    exact this.2
theorem EOk.timer (h:EOk A T U W N e):EOk A T U W N (ZV e t):=⟨h.ours,h.theirs,h.first,h.una,h.rcv,h.come,h.wr,h.wl,h.most,h.rst,h.syn,h.nl,h.ear,h.num⟩
theorem ZuY (hW:W≤1000) (h:EOk A T U W N e):(∀s,(goingAsNew e t).1=some s→s.Ok)∧EOk A T U W N (goingAsNew e t).2:=by
  have h1:EOk A T U W N (if e.nxt=e.una then ZV e t else e):=by split; exact h.timer; exact h
  unfold goingAsNew
  by_cases c:e.state=.synSent∨e.state=.synCome
  · rw [if_pos c]
    by_cases c2:e.nxt=e.first∨e.owes_syn=true
    · rw [if_pos c2]
      have uf:=h.syn c
      have h2:EOk A T U W N { (if e.nxt=e.una then ZV e t else e) with nxt:=ZF e.first 1 }:=by
        obtain ⟨w,s,s0,s1,w0,w1,n1,n2⟩:=h1.num
        have hu:(if e.nxt=e.una then ZV e t else e).una=e.una:=by split<;>rfl
        exact ⟨h1.ours,h1.theirs,h1.first,h1.una,h1.rcv,h1.come,h1.wr,h1.wl,h1.most,h1.rst,h1.syn,h1.nl,h1.ear,⟨w,1,by omega,by omega,w0,w1,by show ZF e.first 1=ZF (if e.nxt=e.una then ZV e t else e).una 1; rw [hu,uf],n2⟩⟩
      unfold Ze0
      exact ⟨fun s z=>(by cases z; exact Zqc h2),⟨h2.ours,h2.theirs,h2.first,h2.una,h2.rcv,h2.come,h2.wr,h2.wl,h2.most,h2.rst,h2.syn,h2.nl,h2.ear,h2.num⟩⟩
    · rw [if_neg c2]
      exact ⟨fun s z=>(by cases z),h⟩
  · rw [if_neg c]
    by_cases c2:e.wnd-zr e.nxt e.una≤0∨ZaP e=false
    · rw [if_pos c2]
      exact ⟨fun s z=>(by cases z),h⟩
    · rw [if_neg c2]
      have h2:EOk A T U W N { (if e.nxt=e.una then ZV e t else e) with owes_answer:=false }:=⟨h1.ours,h1.theirs,h1.first,h1.una,h1.rcv,h1.come,h1.wr,h1.wl,h1.most,h1.rst,h1.syn,h1.nl,h1.ear,h1.num⟩
      have hm:ZaP { (if e.nxt=e.una then ZV e t else e) with owes_answer:=false }=true:=by
        have e1:ZaP { (if e.nxt=e.una then ZV e t else e) with owes_answer:=false }=ZaP e:=by split<;>rfl
        rw [e1]
        have:=fun z=>c2 (.inr z)
        simpa using this
      have:=Zhc hW h2 (r:=e.wnd-zr e.nxt e.una) (by have:=fun z=>c2 (.inl z); omega) hm
      exact ⟨fun s z=>(by cases z; exact this.1),this.2⟩
theorem Zqr (hW:W≤1000) (h:EOk A T U W N e):(∀s,(goingAsProbe e t).1=some s→s.Ok)∧EOk A T U W N (goingAsProbe e t).2:=by
  unfold goingAsProbe
  by_cases c:¬e.nxt=e.una∨¬e.wnd=0∨ZaP e=false
  · rw [if_pos c]
    exact ⟨fun s z=>(by cases z),⟨h.ours,h.theirs,h.first,h.una,h.rcv,h.come,h.wr,h.wl,h.most,h.rst,h.syn,h.nl,h.ear,h.num⟩⟩
  · rw [if_neg c]
    obtain ⟨e1,he1⟩:∃x,x=(if e.probes=true then e else ZV { e with probes:=true } t):=⟨_,rfl⟩
    have h1:EOk A T U W N e1:=by
      rw [he1]
      split
      · exact h
      · exact ⟨h.ours,h.theirs,h.first,h.una,h.rcv,h.come,h.wr,h.wl,h.most,h.rst,h.syn,h.nl,h.ear,h.num⟩
    have hm:ZaP e1=true:=by
      have:ZaP e1=ZaP e:=by rw [he1]; split<;>rfl
      rw [this]
      have:=fun z=>c (.inr (.inr z))
      simpa using this
    simp only [←he1]
    by_cases c2:Zd1 e1 t=true
    · rw [if_pos c2]
      have:=Zhc hW (e:={ e1 with since:=t }) ⟨h1.ours,h1.theirs,h1.first,h1.una,h1.rcv,h1.come,h1.wr,h1.wl,h1.most,h1.rst,h1.syn,h1.nl,h1.ear,h1.num⟩ (r:=1) (by omega) hm
      exact ⟨fun s z=>(by cases z; exact this.1),this.2⟩
    · rw [if_neg c2]
      exact ⟨fun s z=>(by cases z),h1⟩
theorem Zos (h:EOk A T U W N e):(∀s,(Zai e).1=some s→s.Ok)∧EOk A T U W N (Zai e).2:=by
  unfold Zai
  split
  · exact ⟨fun s z=>(by cases z; exact h.seg h.nxt (.inl rfl) Zc0),⟨h.ours,h.theirs,h.first,h.una,h.rcv,h.come,h.wr,h.wl,h.most,h.rst,h.syn,h.nl,h.ear,h.num⟩⟩
  · exact ⟨fun s z=>(by cases z),h⟩
theorem ZwB (hW:W≤1000) (h:EOk A T U W N e):(∀s,(Zcb e t).1=some s→s.Ok)∧EOk A T U W N (Zcb e t).2:=by
  unfold Zcb
  have a:=ZuY (t:=t) hW h
  obtain ⟨r1,e1,h1⟩:∃r e1,goingAsNew e t=(r,e1):=⟨_,_,rfl⟩
  rw [h1] at a ⊢
  cases r1 with
  | some s=>exact a
  | none=>
    simp only
    have b:=Zqr (t:=t) hW a.2
    obtain ⟨r2,e2,h2⟩:∃r e2,goingAsProbe e1 t=(r,e2):=⟨_,_,rfl⟩
    rw [h2] at b ⊢
    cases r2 with
    | some s=>exact b
    | none=>exact Zos b.2
theorem ZlU (hW:W≤1000) (h:EOk A T U W N e):(∀s,(going e t).1=some s→s.Ok)∧EOk A T U W N (going e t).2:=by
  unfold going
  split
  · rename_i s c
    refine ⟨fun s' z=>?_,⟨h.ours,h.theirs,h.first,h.una,h.rcv,h.come,h.wr,h.wl,h.most,fun _ z=>(by cases z),h.syn,h.nl,h.ear,h.num⟩⟩
    cases z
    exact h.rst s c
  · simp only
    obtain ⟨e1,he1⟩:∃x,x=(if e.state=.timeWait∧120000≤t-e.since then { e with state:=.closed } else e):=⟨_,rfl⟩
    have h1:EOk A T U W N e1:=by
      rw [he1]
      split
      · exact ⟨h.ours,h.theirs,h.first,h.una,h.rcv,h.come,h.wr,h.wl,h.most,h.rst,fun z=>(by rcases z with z | z<;>cases z),by simp,h.ear,h.num⟩
      · exact h
    rw [←he1]
    by_cases c1:e1.state=.closed∨e1.state=.listen
    · rw [if_pos c1]; exact ⟨fun s z=>(by cases z),h1⟩
    · rw [if_neg c1]
      by_cases c2:¬e1.nxt=e1.una∧Zd1 e1 t=true
      · rw [if_pos c2]; exact Zov hW h1
      · rw [if_neg c2]; exact ZwB hW h1
def gvn (t:Int):Nat→Zu→List Seg×Zu
  | 0,e=>([],e)
  | n+1,e=>match going e t with
    | (none,e')=>([],e')
    | (some s,e')=>(s::(gvn t n e').1,(gvn t n e').2)
theorem Zrh (hW:W≤1000):∀(n:Nat) (e:Zu),EOk A T U W N e→EOk A T U W N (gvn t n e).2∧(gvn t n e).1.length≤n
  | 0,e,h=>⟨h,by simp [gvn]⟩
  | n+1,e,h=>by
    have a:=ZlU (t:=t) hW h
    unfold gvn
    obtain ⟨r1,e1,h1⟩:∃r e1,going e t=(r,e1):=⟨_,_,rfl⟩
    rw [h1] at a ⊢
    cases r1 with
    | none=>exact ⟨a.2,by simp⟩
    | some s=>
      have ih:=Zrh hW n e1 a.2
      exact ⟨ih.1,by simp only [List.length_cons]; omega⟩
theorem ZwP {θ:Sto} {l:Nat} (hW:W≤1000) (hl:l+3 < θ.length):∀(xs:List D) (e:Zu) (acc:List D) (x y:Sl),EOk A T U W N e→acc.length+xs.length<1000→
    (∃ρ,forL (.rng 0 40) ((List.range 40).map fun (i:Nat)=>D.int (0+(i:Int))) (gNm 3) ZmH xs [.val (.ref l),.val (.int t),.own acc,x,y] (upE θ l e)=.ok (.rt (.lst (acc++(gvn t xs.length e).1.map Seg.d)),ρ) (upE θ l (gvn t xs.length e).2))∨
    (∃x' y',forL (.rng 0 40) ((List.range 40).map fun (i:Nat)=>D.int (0+(i:Int))) (gNm 3) ZmH xs [.val (.ref l),.val (.int t),.own acc,x,y] (upE θ l e)=.ok (.nx,[.val (.ref l),.val (.int t),.own (acc++(gvn t xs.length e).1.map Seg.d),x',y']) (upE θ l (gvn t xs.length e).2))
  | [],e,acc,x,y,h,ha=>by
    right
    exact ⟨x,y,by simp [forL,gvn]⟩
  | d::xs,e,acc,x,y,h,ha=>by
    have a:=ZlU (t:=t) hW h
    obtain ⟨r1,e1,h1⟩:∃r e1,going e t=(r,e1):=⟨_,_,rfl⟩
    have tg:gNm 3 d [.val (.ref l),.val (.int t),.own acc,x,y]=some [.val (.ref l),.val (.int t),.own acc,.val d,y]:=rfl
    simp only [List.length_cons,gvn,h1] at ha ⊢
    rw [h1] at a
    cases r1 with
    | none=>
      left
      refine ⟨[.val (.ref l),.val (.int t),.val (.lst acc),.val d,.val (il [])],?_⟩
      simp only [forL,Zc5,if_true,tg]
      rw [Zub hl h1]
      simp [ZfF,R.bind]
    | some s=>
      have sok:=a.1 s rfl
      have ih:=ZwP hW hl xs e1 (acc++[s.d]) (.val d) (.val (il (putL s))) a.2 (by simp; omega)
      have st:forL (.rng 0 40) ((List.range 40).map fun (i:Nat)=>D.int (0+(i:Int))) (gNm 3) ZmH (d::xs) [.val (.ref l),.val (.int t),.own acc,x,y] (upE θ l e)=forL (.rng 0 40) ((List.range 40).map fun (i:Nat)=>D.int (0+(i:Int))) (gNm 3) ZmH xs [.val (.ref l),.val (.int t),.own (acc++[s.d]),.val d,.val (il (putL s))] (upE θ l e1):=by
        rw [forL]
        simp only [Zc5,if_true,tg]
        rw [Zua hl h1 sok acc (by simp [BIG]; omega)]
        simp only [R.bind,ZfF]
      rw [st]
      simpa using ih
theorem Ztj {θ:Sto} {l:Nat} (hW:W≤1000) (hl:l+3 < θ.length) (h:EOk A T U W N e):Zc2 [.ref l,.int t] (upE θ l e)=.ok (.lst ((gvn t 40 e).1.map Seg.d)) (upE θ l (gvn t 40 e).2):=by
  have q:=ZwP (t:=t) hW hl ((List.range 40).map fun (i:Nat)=>D.int (0+(i:Int))) e [] .no .no h (by simp)
  have l40:((List.range 40).map fun (i:Nat)=>D.int (0+(i:Int))).length=40:=by simp
  rw [l40,List.nil_append] at q
  have b2:Zfk [.val (.ref l),.val (.int t),.own [],.no,.no] (upE θ l e)=forL (.rng 0 40) ((List.range 40).map fun (i:Nat)=>D.int (0+(i:Int))) (gNm 3) ZmH ((List.range 40).map fun (i:Nat)=>D.int (0+(i:Int))) [.val (.ref l),.val (.int t),.own [],.no,.no] (upE θ l e):=by
    simp [Zfk,ZeP]
  rcases q with ⟨ρ,q⟩ | ⟨x',y',q⟩
  · rw [←b2] at q
    simp [Zc2,Zg5,q]
  · rw [←b2] at q
    simp [Zc2,Zg5,q]
end
end
end My
namespace My
open PySem L2 L2.MM
noncomputable section
section
variable {A T U W:Int} {N:Nat} {e:Zu} {s:Seg} {t:Int}
theorem Zqh (hs:s.Ok):(ZdS s).Ok:=by
  unfold ZdS
  split
  · exact Zha hs.goal hs.src hs.ans (by omega) (by omega) (by omega) (.inl rfl) Zc0
  · exact Zha hs.goal hs.src (by omega) (Zbe _ _) (by omega) (by omega) (.inl rfl) Zc0
theorem Zmv (hs:s.Ok) (h:EOk A T U W N e):EOk A T U W N (ZaR e s):=by
  unfold ZaR
  split
  · exact h
  · exact ⟨h.ours,h.theirs,h.first,h.una,h.rcv,h.come,h.wr,h.wl,h.most,fun _ z=>by cases z; exact Zqh hs,h.syn,h.nl,h.ear,h.num⟩
theorem Zjd:∀(n:Nat) (e:Zu),(0≤e.rcv∧e.rcv≤4294967295)→(0≤(drawn n e).2.rcv∧(drawn n e).2.rcv≤4294967295)∧(drawn n e).2.early.length≤e.early.length
  | 0,e,h=>⟨h,Nat.le_refl _⟩
  | n+1,e,h=>by
    unfold drawn
    split
    · exact ⟨h,Nat.le_refl _⟩
    · split
      · exact ⟨h,Nat.le_refl _⟩
      · rename_i b hb
        have ih:=Zjd n { e with early:=ZcX e.early e.rcv,rcv:=ZF e.rcv 1 } (Zbe _ _)
        refine ⟨ih.1,Nat.le_trans ih.2 ?_⟩
        exact Nat.le_of_lt (ZlY hb)
theorem Zih:∀(n:Nat) (e:Zu),∃l r,(drawn n e).2={ e with early:=l,rcv:=r }
  | 0,e=>⟨e.early,e.rcv,rfl⟩
  | n+1,e=>by
    unfold drawn
    split
    · exact ⟨e.early,e.rcv,rfl⟩
    · split
      · exact ⟨e.early,e.rcv,rfl⟩
      · obtain ⟨l,r,h⟩:=Zih n { e with early:=ZcX e.early e.rcv,rcv:=ZF e.rcv 1 }
        exact ⟨l,r,h⟩
theorem Zet (num:Int):∀(r:List Int) (k:Nat) (e:Zu),∃l,keepAll e num k r={ e with early:=l }
  | [],k,e=>⟨e.early,rfl⟩
  | b::r,k,e=>by
    unfold keepAll
    split
    · obtain ⟨l,h⟩:=Zet num r (k+1) { e with early:=Zgk e.early (ZF num k) b }
      exact ⟨l,h⟩
    · exact Zet num r (k+1) e
theorem Zog (e:Zu) (s:Seg):∃l o f,keepFin (keepData e s) s={ e with early:=l,owes_answer:=o,early_fin:=f }∧l.length≤e.early.length+s.data.length:=by
  obtain ⟨l,hl⟩:=Zet s.num s.data 0 e
  have len:=Ze3 s.num s.data 0 e
  rw [hl] at len
  have kd:∃o,keepData e s={ e with early:=l,owes_answer:=o }:=by
    unfold keepData
    rw [hl]
    split
    · exact ⟨true,rfl⟩
    · exact ⟨e.owes_answer,rfl⟩
  obtain ⟨o,hk⟩:=kd
  rw [hk]
  unfold keepFin
  split
  · exact ⟨l,o,e.early_fin,rfl,len⟩
  · split
    · exact ⟨l,true,_,rfl,len⟩
    · exact ⟨l,true,e.early_fin,rfl,len⟩
theorem Zll (hs:s.Ok) (h:EOk A T U W N e):EOk A T U W (N+16) (Zbj e s):=by
  obtain ⟨l,o,f,hk,len⟩:=Zog e s
  have dl:=hs.data.2
  have hear:=h.ear
  unfold Zbj Zfu
  rw [hk]
  have hr:=Zjd 200 { e with early:=l,owes_answer:=o,early_fin:=f } h.rcv
  obtain ⟨l2,r2,hd⟩:=Zih 200 { e with early:=l,owes_answer:=o,early_fin:=f }
  rw [hd] at hr ⊢
  obtain ⟨xs,hxs⟩:∃x,x=(drawn 200 { e with early:=l,owes_answer:=o,early_fin:=f }).1:=⟨_,rfl⟩
  rw [←hxs]
  unfold Zgj
  have cl:(Zaw xs none (some (64-(e.come.length:Int)))).length≤64-e.come.length:=by
    have hc:=h.come
    have:((Zaw xs none (some (64-(e.come.length:Int)))).length:Int)≤_:=ZhH (by omega)
    omega
  have hlen:l2.length≤N+16:=by
    have h2:l2.length≤l.length:=hr.2
    omega
  have hc:=h.come
  exact ⟨h.ours,h.theirs,h.first,h.una,hr.1,by show (e.come++Zaw xs none (some (64-(e.come.length:Int)))).length≤64; rw [List.length_append]; omega,h.wr,h.wl,h.most,h.rst,h.syn,h.nl,hlen,h.num⟩
theorem ZsT (ha:s.ans=e.una) (h:EOk A T U W N e):EOk A T U W N (zQ e s t)∧(zQ e s t).state=e.state:=by
  have ho:Zcy e s t=e:=by
    unfold Zcy
    rw [if_neg (by rw [ha,ZiX]; decide)]
  unfold zQ
  simp only [ho]
  rw [if_neg (by rw [ha,ZiX]; decide)]
  obtain ⟨e2,he2⟩:∃x,x=(if (Zb8 s.ans e.una || isNewer e s)=true then Zeg e s else e):=⟨_,rfl⟩
  rw [←he2]
  have h2:EOk A T U W N e2∧e2.state=e.state:=by
    rw [he2]
    split
    · exact ⟨⟨h.ours,h.theirs,h.first,h.una,h.rcv,h.come,h.wr,h.wl,h.most,h.rst,h.syn,h.nl,h.ear,h.num⟩,rfl⟩
    · exact ⟨h,rfl⟩
  split
  · exact ⟨⟨h2.1.ours,h2.1.theirs,h2.1.first,h2.1.una,h2.1.rcv,h2.1.come,h2.1.wr,h2.1.wl,h2.1.most,h2.1.rst,h2.1.syn,h2.1.nl,h2.1.ear,h2.1.num⟩,h2.2⟩
  · exact h2
theorem ZrM (h:EOk A T U W N e) (hst:¬e.state=.synCome∧¬e.state=.synSent):EOk A T U W N (Za5 e t):=by
  have z:∀st:State,¬st=.synSent→¬st=.synCome→¬st=.listen→EOk A T U W N { e with state:=st }:=fun st a b c=>⟨h.ours,h.theirs,h.first,h.una,h.rcv,h.come,h.wr,h.wl,h.most,h.rst,fun q=>q.elim (fun q=>absurd q a) (fun q=>absurd q b),c,h.ear,h.num⟩
  unfold Za5
  split
  · exact h
  · split
    · exact z _ (by decide) (by decide) (by decide)
    · split
      · have:=z .timeWait (by decide) (by decide) (by decide)
        exact ⟨this.ours,this.theirs,this.first,this.una,this.rcv,this.come,this.wr,this.wl,this.most,this.rst,this.syn,this.nl,this.ear,this.num⟩
      · split
        · exact z _ (by decide) (by decide) (by decide)
        · exact h
theorem ZsU (hs:s.Ok) (ha:s.ans=e.una) (h:EOk A T U W N e) (hst:¬e.state=.synSent):EOk A T U W N (Zbb e s t).2:=by
  unfold Zbb
  by_cases c:e.state=.synCome
  · rw [if_pos c]
    unfold Zaj
    have uf:=h.syn (.inr c)
    obtain ⟨w,k,k0,k1,w0,w1,n1,n2⟩:=h.num
    by_cases c2:e.nxt=e.first∨¬s.ans=e.nxt
    · rw [if_pos c2]; exact Zmv hs h
    · exfalso
      apply c2
      by_cases c3:e.nxt=e.first
      · exact .inl c3
      · right
        intro z
        rw [ha,uf] at z
        exact c3 z.symm
  · rw [if_neg c]
    by_cases c2:Zb8 s.ans e.nxt=true
    · rw [if_pos c2]
      exact ⟨h.ours,h.theirs,h.first,h.una,h.rcv,h.come,h.wr,h.wl,h.most,h.rst,h.syn,h.nl,h.ear,h.num⟩
    · rw [if_neg c2]
      have a:=ZsT (t:=t) ha h
      exact ZrM a.1 ⟨by rw [a.2]; exact c,by rw [a.2]; exact hst⟩
theorem EOk.wide (h:EOk A T U W N e) {M:Nat} (hm:N≤M):EOk A T U W M e:=⟨h.ours,h.theirs,h.first,h.una,h.rcv,h.come,h.wr,h.wl,h.most,h.rst,h.syn,h.nl,Nat.le_trans h.ear hm,h.num⟩
theorem ZsY (h:EOk A T U W N e):EOk A T U W N (Zfs e t):=by
  have z:∀st:State,¬st=.synSent→¬st=.synCome→¬st=.listen→EOk A T U W N { e with rcv:=ZF e.rcv 1,state:=st }:=fun st a b c=>⟨h.ours,h.theirs,h.first,h.una,Zbe _ _,h.come,h.wr,h.wl,h.most,h.rst,fun q=>q.elim (fun q=>absurd q a) (fun q=>absurd q b),c,h.ear,h.num⟩
  unfold Zfs
  split
  · exact z _ (by decide) (by decide) (by decide)
  · split
    · exact z _ (by decide) (by decide) (by decide)
    · have:=z .timeWait (by decide) (by decide) (by decide)
      exact ⟨this.ours,this.theirs,this.first,this.una,this.rcv,this.come,this.wr,this.wl,this.most,this.rst,this.syn,this.nl,this.ear,this.num⟩
theorem ZnV (hs:s.Ok) (h:EOk A T U W N e):EOk A T U W (N+16) (Zbq e s t):=by
  have a:=Zll hs h
  unfold Zbq
  split
  · split
    · exact ZsY a
    · exact a
  · exact h.wide (by omega)
theorem Zrz (hs:s.Ok) (ha:s.ans=e.una) (h:EOk A T U W N e):EOk A T U W (N+16) (Zd3 e s t):=by
  unfold Zd3
  split
  · exact (Zmv hs h).wide (by omega)
  · rename_i c; exact absurd c h.nl
  · rename_i c
    have uf:=h.syn (.inl c)
    have na:ZbX e s=false:=by
      unfold ZbX
      have:decide (s.ans=ZF e.first 1)=false:=decide_eq_false (fun z=>by rw [ha,uf] at z; exact Zne (n:=e.first) (k:=1) (by omega) z.symm)
      rw [this,Bool.and_false]
    unfold z8
    by_cases c1:bears s 16=true∧ZbX e s=false
    · rw [if_pos c1]; exact (Zmv hs h).wide (by omega)
    · rw [if_neg c1]
      have b16:bears s 16=false:=by
        have:=fun z=>c1 ⟨z,na⟩
        simpa using this
      rw [b16]
      split
      · exact h.wide (by omega)
      · split
        · have hm:4≤(if s.most=0 then e.most else s.most):=by
            split
            · exact h.most
            · rename_i c2
              have:=hs.most
              omega
          exact ⟨h.ours,h.theirs,h.first,h.una,Zbe _ _,h.come,h.wr,h.wl,hm,h.rst,fun _=>uf,by show ¬State.synCome=.listen; decide,Nat.le_trans h.ear (by omega),h.num⟩
        · exact h.wide (by omega)
  · rename_i c1 c2 c3
    unfold Zbr
    split
    · unfold ZdO
      have:EOk A T U W (N+16) e:=h.wide (by omega)
      split
      · exact this
      · split
        · exact ⟨this.ours,this.theirs,this.first,this.una,this.rcv,this.come,this.wr,this.wl,this.most,this.rst,this.syn,this.nl,this.ear,this.num⟩
        · split
          · exact ⟨this.ours,this.theirs,this.first,this.una,this.rcv,this.come,this.wr,this.wl,this.most,this.rst,this.syn,this.nl,this.ear,this.num⟩
          · exact ⟨this.ours,this.theirs,this.first,this.una,this.rcv,this.come,this.wr,this.wl,this.most,this.rst,this.syn,this.nl,this.ear,this.num⟩
    · split
      · unfold Zd2
        have:EOk A T U W (N+16) e:=h.wide (by omega)
        split
        · exact this
        · split
          · exact ⟨this.ours,this.theirs,this.first,this.una,this.rcv,this.come,this.wr,this.wl,this.most,this.rst,fun z=>(by rcases z with z | z<;>cases z),by show ¬State.closed=.listen; decide,this.ear,this.num⟩
          · exact ⟨this.ours,this.theirs,this.first,this.una,this.rcv,this.come,this.wr,this.wl,this.most,this.rst,this.syn,this.nl,this.ear,this.num⟩
      · split
        · have:EOk A T U W (N+16) e:=h.wide (by omega)
          exact ⟨this.ours,this.theirs,this.first,this.una,this.rcv,this.come,this.wr,this.wl,this.most,this.rst,this.syn,this.nl,this.ear,this.num⟩
        · split
          · have g:=ZsU (t:=t) hs ha h c3
            split
            · exact ZnV hs g
            · exact g.wide (by omega)
          · exact h.wide (by omega)
theorem ZpY (h:EOk A T U W N e) {r:List Int} (hr:∀z∈r,0≤z∧z≤255):EOk A T U (W+r.length) N (Zee e r):=by
  have hw:=h.wl
  have k:((ZeF e r).length:Int)≤64-(e.written.length:Int):=ZhH (by omega)
  have eq:ZeF e r=r.take (64-(e.written.length:Int)).toNat:=Zcc _ (by omega)
  obtain ⟨w,s,s0,s1,w0,w1,n1,n2⟩:=h.num
  unfold Zee
  split
  · refine ⟨h.ours,h.theirs,h.first,h.una,h.rcv,h.come,?_,?_,h.most,h.rst,h.syn,h.nl,h.ear,⟨w+(ZeF e r).length,s,s0,by omega,by omega,?_,n1,by show ZF e.behind _=_; rw [n2,Zcj]⟩⟩
    · intro z hz
      rcases List.mem_append.mp hz with q | q
      · exact h.wr z q
      · rw [eq] at q
        exact hr z (List.mem_of_mem_take q)
    · show (e.written++ZeF e r).length≤64
      rw [List.length_append]; omega
    · have:(ZeF e r).length≤r.length:=by rw [eq,List.length_take]; omega
      omega
  · exact ⟨h.ours,h.theirs,h.first,h.una,h.rcv,h.come,h.wr,h.wl,h.most,h.rst,h.syn,h.nl,h.ear,⟨w,s,s0,s1,w0,by omega,n1,n2⟩⟩
theorem Zsg (h:EOk A T U W N e) (n:Int):EOk A T U W N (Zf3 e n):=by
  have:(e.come.drop n.toNat).length≤64:=by have:=h.come; rw [List.length_drop]; omega
  unfold Zf3
  split
  · exact ⟨h.ours,h.theirs,h.first,h.una,h.rcv,this,h.wr,h.wl,h.most,h.rst,h.syn,h.nl,h.ear,h.num⟩
  · exact ⟨h.ours,h.theirs,h.first,h.una,h.rcv,this,h.wr,h.wl,h.most,h.rst,h.syn,h.nl,h.ear,h.num⟩
end
end
end My
namespace My
open PySem L2 L2.MM
noncomputable section
theorem Zmg {a:List Int} (h:Byt a) (hr:zI a=false) (θ:Sto):Zb9 [il a] θ=.ok .non θ:=by
  have gg:∀i:Nat,i<a.length→0≤gt a i∧gt a i≤255:=fun i hi=>by
    unfold gt
    have:=h.1 a[i] (List.getElem_mem hi)
    rw [List.getD_eq_getElem?_getD,List.getElem?_eq_getElem hi]
    exact this
  have ix:∀i:Nat,i<a.length→ixM (il a) (.int (i:Int)) θ=.ok (.int (gt a i)) θ:=fun i hi=>ZaZ (a:=a) (θ:=θ) (i:=(i:Int)) (by omega) (by omega)
  by_cases c1:(a.length:Int)<20
  · simp [Zb9,Zeb,b_l_read_1,isT,c1]
  · have R1:∀r,b_l_read_1 (.val (il a)::r) θ=.ok (.nx,.val (il a)::r) θ:=by
      intro r
      simp [b_l_read_1,isT,c1]
    have R2:∀r,b_l_read_2 (.val (il a)::r) θ=.ok (.nx,.val (il a)::r) θ:=by
      intro r
      have cp:=Zi5 (ρ:=.val (il a)::r) (θ:=θ) (fi:=mIn (Zd 0)) (src:=[]) (elt:=mCB ZfP (Zc (Zd 0) Zk)) (d:=il a) (xs:=a.map D.int) (θ':=θ) (fun _=>.bl true) (by simp) rfl (by have:=h.2; simp [BIG]; omega) (by
        intro x hx
        obtain ⟨z,hz,rfl⟩:=List.mem_map.mp hx
        simp [ZmZ (h.1 z hz)])
      have al:Zou [D.lst ((a.map D.int).map fun _=>D.bl true)] θ=.ok (.bl true) θ:=by
        rw [Zta,ZnF]
        simp only [Zmb]
      obtain ⟨q,hq⟩:∃x,x=D.lst ((a.map D.int).map fun _=>D.bl true):=⟨_,rfl⟩
      rw [←hq] at cp al
      simp [b_l_read_2,cp,al]
    have i12:ixM (il a) (.int 12) θ=.ok (.int (gt a 12)) θ:=ix 12 (by omega)
    have i13:ixM (il a) (.int 13) θ=.ok (.int (gt a 13)) θ:=ix 13 (by omega)
    have i18:ixM (il a) (.int 18) θ=.ok (.int (gt a 18)) θ:=ix 18 (by omega)
    have i19:ixM (il a) (.int 19) θ=.ok (.int (gt a 19)) θ:=ix 19 (by omega)
    have b12:=gg 12 (by omega)
    have b13:=gg 13 (by omega)
    have b18:=gg 18 (by omega)
    have b19:=gg 19 (by omega)
    obtain ⟨hd,hhd⟩:∃x,x=gt a 12/4:=⟨_,rfl⟩
    by_cases c3:(gt a 12=80∨gt a 12=96)∧gt a 13≤31∧gt a 18+gt a 19≤0
    · obtain ⟨d1,d2,d3⟩:=c3
      have hb:Za4 a=hd:=by rw [hhd]; unfold Za4; rcases d1 with e | e<;>rw [e]<;>rfl
      have hv:hd=20∨hd=24:=by rw [hhd]; omega
      have R3:∀r,b_l_read_3 (.val (il a)::r) θ=.ok (.nx,.val (il a)::r) θ:=by
        intro r
        have d1':(gt a 12=80∨gt a 12=96):=d1
        simp [b_l_read_3,i12,i13,i18,i19,Zgd,d1',show ¬(31:Int)<gt a 13 by omega,show ¬(0:Int)<gt a 18+gt a 19 by omega]
      have fo:=Zfo h θ
      by_cases c4:hd≤(a.length:Int)∧(a.length:Int)≤hd+16∧Zal (zm a)=65535
      · obtain ⟨e1,e2,e3⟩:=c4
        have R4:∀r,b_l_read_4 (.val (il a)::.val (.int hd)::r) θ=.ok (.nx,.val (il a)::.val (.int hd)::r) θ:=by
          intro r
          simp [b_l_read_4,fo,e1,e2,e3]
        have z18:at2 a 18=0:=by unfold at2; simp only [Nat.reduceAdd]; omega
        have lng:hd=24∧longOk a=false:=by
          unfold zI at hr
          rw [decide_eq_true (show 20≤a.length by omega),decide_eq_true d1,decide_eq_true d2,hb,decide_eq_true (show 0≤(a.length:Int)-hd∧(a.length:Int)-hd≤16 by omega),decide_eq_true z18,decide_eq_true e3] at hr
          simp only [Bool.true_and,Bool.and_true,Bool.or_eq_false_iff,decide_eq_false_iff_not] at hr
          exact ⟨hv.resolve_left hr.1,hr.2⟩
        have h24:24≤a.length:=by have:=lng.1; omega
        have i22:ixM (il a) (.int 22) θ=.ok (.int (gt a 22)) θ:=ix 22 (by omega)
        have i23:ixM (il a) (.int 23) θ=.ok (.int (gt a 23)) θ:=ix 23 (by omega)
        have b22:=gg 22 (by omega)
        have b23:=gg 23 (by omega)
        have m22:gt a 22*256+gt a 23=at2 a 22:=by unfold at2; simp only [Nat.reduceAdd]; omega
        have mb:ZdN (gt a 22) 256:=.inr (by omega)
        have cu:Zaw a (some 20) (some 22)=[gt a 20,gt a 21]:=by
          rw [ZhG _ (by decide) (by decide),show (20:Int).toNat=20 from rfl,show (22:Int).toNat-20=2 from rfl,List.drop_eq_getElem_cons (show 20<a.length by omega),List.drop_eq_getElem_cons (show 21<a.length by omega)]
          rw [List.take_succ_cons,List.take_succ_cons,List.take_zero]
          unfold gt
          rw [List.getD_eq_getElem?_getD,List.getD_eq_getElem?_getD,List.getElem?_eq_getElem (show 20<a.length by omega),List.getElem?_eq_getElem (show 21<a.length by omega)]
          rfl
        have lo:¬(gt a 13/2 % 2=1∧gt a 20=2∧gt a 21=4∧4≤at2 a 22):=by
          intro z
          have:=lng.2
          unfold longOk at this
          rw [ZtJ (by omega) (by omega),decide_eq_true z.1,decide_eq_true z.2.1,decide_eq_true z.2.2.1,decide_eq_true z.2.2.2] at this
          cases this
        have R6:∀x y,∃ρ,b_l_read_6 [.val (il a),.val (.int hd),.val (.int 0),x,y] θ=.ok (.rt .non,ρ) θ:=by
          intro x y
          refine ⟨[.val (il a),.val (.int hd),.val (.int (at2 a 22)),x,y],?_⟩
          by_cases q1:gt a 13/2 % 2=0
          · simp [b_l_read_6,Zds,lng.1,i22,i23,i13,q1,m22,mb]
          · by_cases q2:[gt a 20,gt a 21]=[2,4]
            · have q3:at2 a 22<4:=by
                simp only [List.cons.injEq,and_true] at q2
                by_cases q4:at2 a 22<4
                · exact q4
                · exact absurd ⟨by omega,q2.1,q2.2,by omega⟩ lo
              simp only [List.cons.injEq,and_true] at q2
              simp [b_l_read_6,Zds,lng.1,i22,i23,i13,q1,cu,q2.1,q2.2,m22,mb,q3]
            · have ne:∀θ,neM (il [gt a 20,gt a 21]) (il [2,4]) θ=.ok (.bl true) θ:=fun θ=>by rw [Zny,decide_eq_false q2]; rfl
              simp [b_l_read_6,Zds,lng.1,i22,i23,i13,q1,cu,ne,m22,mb,-Zny]
        obtain ⟨ρ,R6'⟩:=R6 .no .no
        simp [Zb9,Zeb,R1,R2,i12,←hhd,R3,R4,R6']
      · have R4:∀r,b_l_read_4 (.val (il a)::.val (.int hd)::r) θ=.ok (.rt .non,.val (il a)::.val (.int hd)::r) θ:=by
          intro r
          by_cases q1:hd≤(a.length:Int)
          · by_cases q2:(a.length:Int)≤hd+16
            · have q3:¬Zal (zm a)=65535:=fun z=>c4 ⟨q1,q2,z⟩
              simp [b_l_read_4,fo,q1,q2,q3]
            · simp [b_l_read_4,q1,q2]
          · simp [b_l_read_4,q1]
        simp [Zb9,Zeb,R1,R2,i12,←hhd,R3,R4]
    · have R3:∀r,b_l_read_3 (.val (il a)::r) θ=.ok (.rt .non,.val (il a)::r) θ:=by
        intro r
        by_cases q1:gt a 12=80∨gt a 12=96
        · by_cases q2:gt a 13≤31
          · have q3:(0:Int)<gt a 18+gt a 19:=by
              by_cases q:gt a 18+gt a 19≤0
              · exact absurd ⟨q1,q2,q⟩ c3
              · omega
            simp [b_l_read_3,i12,i13,i18,i19,Zgd,q1,show ¬(31:Int)<gt a 13 by omega,q3]
          · simp [b_l_read_3,i12,i13,Zgd,q1,show (31:Int)<gt a 13 by omega]
        · simp [b_l_read_3,i12,Zgd,q1]
      simp [Zb9,Zeb,R1,R2,i12,←hhd,R3]
theorem ZmV {B:Sto} {i j:Nat} (h:i+3<j) (e e':Zu):upE (upE B i e) j e'=upE (upE B j e') i e:=by
  unfold upE
  apply List.ext_getElem?
  intro k
  simp only [List.getElem?_set,List.length_set]
  repeat' split
  all_goals (first | rfl | omega)
theorem Ze2 (n:Nat):∀xs:List Int,Zh6 n (xs.map D.int)=true
  | []=>by simp [Zh6]
  | x::r=>by simp [Zh6,ZdZ,Ze2 n r]
theorem ZsO (n:Nat) (s:Seg):ZdZ n s.d=true:=by
  unfold Seg.d itp
  simp [ZdZ,Zh6,Ze2]
theorem Zi7 {n l:Nat} (h:l+3<n) (e:Zu):ZcH n (c0 l e)=true∧ZcH n (c1 e)=true∧ZcH n (c2 e)=true∧ZcH n (c3 e)=true:=by
  refine ⟨?_,?_,?_,?_⟩
  · have f1:ZdZ n (Zgn e.early_fin)=true:=by cases e.early_fin<;>simp [Zgn,ZdZ]
    have f2:ZdZ n (Zbi e.owed_reset)=true:=by
      cases e.owed_reset with
      | none=>simp [Zbi,ZdZ]
      | some s=>simp [Zbi,ZsO]
    simp [c0,fields,ZcH,ZdZ,f1,f2]
    omega
  · have:=Ze2 n e.written
    unfold c1 ZcH il
    simp only [List.all_cons,List.all_nil,Bool.and_true,ZdZ]
    exact this
  · have:=Ze2 n e.come
    unfold c2 ZcH il
    simp only [List.all_cons,List.all_nil,Bool.and_true,ZdZ]
    exact this
  · simp [c3,ZcH,ZdZ]
theorem Zq6 {B:Sto} {n l:Nat} (hB:B.all (ZcH n)=true) (h:l+3<n) (e:Zu):(upE B l e).all (ZcH n)=true:=by
  obtain ⟨a0,a1,a2,a3⟩:=Zi7 h e
  rw [List.all_eq_true] at hB ⊢
  intro c hc
  unfold upE at hc
  rcases List.mem_or_eq_of_mem_set hc with hc | rfl
  · rcases List.mem_or_eq_of_mem_set hc with hc | rfl
    · rcases List.mem_or_eq_of_mem_set hc with hc | rfl
      · rcases List.mem_or_eq_of_mem_set hc with hc | rfl
        · exact hB c hc
        · exact a0
      · exact a1
    · exact a2
  · exact a3
end
end My
namespace PySem.W.Fast
def tw17648599759424008192:=0
def tw8585024691631424544:=0
def tw12500363705742829600:=0
def tw8347334332279715968:=0
def tw3482119318621907136:=0
def tw14569819914420565184:=0
def tw1290696000590046432:=0
def tw12039359975330570528:=0
def tw4222057542508049728:=0
def tw5902901503782167904:=0
def tw5770247409648647552:=0
def tw8299971892852815232:=0
def tw2269626016904404384:=0
def tw10903767387348068800:=0
def tw10062835614627586560:=0
def tw17633638319483618848:=0
def tw1667239952044625440:=0
def tw9695128054542016064:=0
def tw16409778527606371904:=0
def tw12323920021003007584:=0
def tw16878930053827291808:=0
def tw12805588072397719296:=0
def tw1614785997264989024:=0
def tw9833971967787715520:=0
def tw12410484779765695489:=0
def tw1593468496684398657:=0
def tw12603724335680522337:=0
def tw14078100539199387745:=0
def tw17425780369685702785:=0
def tw2882610359142715553:=0
def tw4565486064081192129:=0
def tw7870144633911834817:=0
def tw9735331567814629633:=0
def tw11664806963985732897:=0
def tw17894553325667311905:=0
def tw8669999837157383521:=0
def tw12038962466831071649:=0
def tw8035666447456149985:=0
def tw17269516419260224001:=0
def tw2653699732979849793:=0
def tw2792081763654795873:=0
def tw9772144921270359681:=0
def tw12783493638273825409:=0
def tw7889148758623046305:=0
def tw10292708237291538177:=0
def tw1400437156583589729:=0
def tw2165666351088758657:=0
def tw426296703952008097:=0
def tw1972696720465524641:=0
def tw849129560816811969:=0
def tw7465458916407719905:=0
def tw3375166205026868290:=0
def tw11513327406979862626:=0
def tw17550551553413187842:=0
def tw14991030915873259874:=0
def tw10291587625606014306:=0
def tw18353557792122614306:=0
def tw13692985185479612002:=0
def tw13490174615318422146:=0
def tw2121484519036288642:=0
def tw6547176077813973698:=0
def tw7533106221630107426:=0
def tw15051988309296471842:=0
def tw5194778308448965474:=0
def tw18308581203139273634:=0
def tw8923549833211677634:=0
def tw11533819957486034914:=0
def tw12763820236910095427:=0
def tw17106597752985458787:=0
def tw1805334514207447171:=0
def tw9829822871425191075:=0
def tw15727911742397387011:=0
def tw747359779958934787:=0
def tw14402605789337798979:=0
def tw7251579026195210563:=0
def tw5613761716268606819:=0
def tw4216038777183253923:=0
def tw1608465001418977795:=0
def tw7803754094759739939:=0
def tw16303402732188775971:=0
def tw16004716521521784515:=0
def tw14185167722577859363:=0
def tw7219076801515130691:=0
def tw13814992979390178115:=0
def tw13579798599745741667:=0
def tw11525395628976714659:=0
def tw10175725649748310947:=0
def tw15441334725389170627:=0
def tw13600931523484861379:=0
def tw12193514312501249987:=0
def tw191043682870659043:=0
def tw18232892169838445604:=0
def tw12141033412072384612:=0
def tw603318448112961668:=0
def tw8970917001114694788:=0
def tw16314589728845625508:=0
def tw1347457917495778500:=0
def tw3314367762127460612:=0
def tw42165464229784836:=0
def tw18030088167737220356:=0
def tw1933478830947007748:=0
def tw13389491990558809380:=0
def tw3893603425021340996:=0
def tw17493552503129653572:=0
def tw1612798489278728548:=0
def tw11333993486245069284:=0
def tw4753208606970549732:=0
def tw5008311220903271012:=0
def tw221251977555373668:=0
def tw10677661381920193124:=0
def tw8231525851075880580:=0
def tw13329365546978586308:=0
def tw11571722199847552708:=0
def tw7329221876167051076:=0
def tw9186439997683849028:=0
def tw6606656876569408356:=0
def tw9057186068273812356:=0
def tw10978614369885027236:=0
def tw16570004102044906436:=0
def tw7938672592591665124:=0
def tw575714915282999268:=0
def tw17840001813187235845:=0
def tw11847961964954281093:=0
def tw1946427634490580165:=0
def tw12419185047234973925:=0
def tw8112156584158769381:=0
def tw16326637745975624965:=0
def tw9963819204036256005:=0
def tw2106120803632416037:=0
def tw15998155165248468325:=0
def tw16258842784165613925:=0
def tw10934087048417861989:=0
def tw4732101303998098853:=0
def tw10603401695844745637:=0
def tw6150453388230309349:=0
def tw4911145122747454981:=0
def tw10737964548096750117:=0
def tw357935266242263589:=0
def tw14529335132776797797:=0
def tw2454179884552907397:=0
def tw11135024541635875525:=0
def tw18100439540431019717:=0
def tw2918136292282056421:=0
def tw570386341641931493:=0
def tw7502895665968829157:=0
def tw3253802508823483269:=0
def tw10706304616367444901:=0
def tw17938058503881526245:=0
def tw8333982922924769286:=0
def tw5861980411226903558:=0
def tw18075415412656233478:=0
def tw16345455883871429670:=0
def tw7177050720669515814:=0
def tw5847647110249107494:=0
def tw8912019736163586118:=0
def tw2286902302880150598:=0
def tw1339831594081195142:=0
def tw7581217550997485894:=0
def tw16322455152651506022:=0
def tw222948741809299878:=0
def tw6112919210470159814:=0
def tw12719102953418994150:=0
def tw13672256953248587270:=0
def tw14348108728155400710:=0
def tw4497449655430573606:=0
def tw11083929638285318726:=0
def tw4779027672497999430:=0
def tw12762387536480746118:=0
def tw13151681703232401062:=0
def tw42166130537179910:=0
def tw1725245444528749318:=0
def tw6246983108920777510:=0
def tw8847024485087547206:=0
def tw9767268848453139334:=0
def tw1569049966474695719:=0
def tw5314095104497400871:=0
def tw3359773129311349799:=0
def tw4189232213271857255:=0
def tw4161864736776549479:=0
def tw13348917833593030855:=0
def tw4389206815088149735:=0
def tw3571185466265487623:=0
def tw1412751099030980007:=0
def tw3555185289258358183:=0
def tw13398678744002464199:=0
def tw7203506470859024935:=0
def tw15419241908634841639:=0
def tw17421978006626779751:=0
def tw14439870159738855015:=0
def tw10724832368446220999:=0
def tw18307517907568046855:=0
def tw12407842611814768455:=0
def tw9763723733650319175:=0
def tw3878007263589319559:=0
def tw11822156035101386663:=0
def tw12318716594872393703:=0
def tw164458905183480807:=0
def tw1426549107503212552:=0
def tw8362622624192966664:=0
def tw10855899512257915944:=0
def tw13580616631618058312:=0
def tw12365410829786071144:=0
def tw412095426026906760:=0
def tw4114957173567466632:=0
def tw7100267771723496584:=0
def tw14268058085603956904:=0
def tw10074322893574831272:=0
def tw5528275528709608744:=0
def tw12904825456812478824:=0
def tw16673480683122779496:=0
def tw18383075276104750472:=0
def tw14075030561902425544:=0
def tw15958017453184977416:=0
def tw10730156369555886600:=0
def tw3023859769926706696:=0
def tw9695905269165410920:=0
def tw4607760086004488808:=0
def tw1947284960428115592:=0
def tw12354298019136568040:=0
def tw17478198076018976520:=0
def tw17283155826534988584:=0
def tw1718041455736304456:=0
def tw7025502533078071305:=0
def tw13910458860774170665:=0
def tw4665043465508837417:=0
def tw2054219478809509993:=0
def tw16474976885822665:=0
def tw6263695476163568841:=0
def tw7596871188099990825:=0
def tw833010362370591081:=0
def tw2569717484765763945:=0
def tw1916430171938425289:=0
def tw12047049326827350569:=0
def tw14000531485758592585:=0
def tw7694576501343689289:=0
def tw11321806402289061481:=0
def tw10065891824065576553:=0
def tw9927075884736787113:=0
def tw212384874939928329:=0
def tw8870374129783297801:=0
def tw16093276936865518441:=0
def tw14363268485507303369:=0
def tw17716581027289328585:=0
def tw8460923795719187401:=0
def tw4639390609890707466:=0
def tw3443470944387719210:=0
def tw16715767750019810378:=0
def tw7924307300556125258:=0
def tw1631199793975752778:=0
def tw15063118736341285066:=0
def tw12295856227176070378:=0
def tw13598648501730441514:=0
def tw14434342560977291594:=0
def tw6104848102553959818:=0
def tw13486282813624008074:=0
def tw1490078699142027690:=0
def tw16122675096564505130:=0
def tw5544306513914514986:=0
def tw15381686197863242314:=0
def tw8800875444690661994:=0
def tw10487431862953192074:=0
def tw16268766022448237226:=0
def tw16209694282003959466:=0
def tw18118584946838542058:=0
def tw1331702954917809962:=0
def tw5021775198591737642:=0
def tw9503858937023362890:=0
def tw11007269371865042826:=0
def tw3416179500487541674:=0
def tw174808625942893546:=0
def tw13611314476982708267:=0
def tw11330272203705422923:=0
def tw5179667175111090251:=0
def tw10112428037745406027:=0
def tw6694890470489872619:=0
def tw17740834737893996811:=0
def tw14297259827284613451:=0
def tw18370869479034960299:=0
def tw13743938971479664043:=0
def tw415656664540929483:=0
def tw5496890298281392651:=0
def tw12864725302013466315:=0
def tw6688800538529812203:=0
def tw8780331490155677483:=0
def tw4561928211031968555:=0
def tw11778633755571674923:=0
def tw4996790377829298027:=0
def tw16931330978472060843:=0
def tw11209096507816408011:=0
def tw4911919170632266796:=0
def tw10490447292655657004:=0
def tw2697511786998288460:=0
def tw14457168839105151148:=0
def tw16370476012266820780:=0
def tw3472228765686988:=0
def tw12542981852676743372:=0
def tw16803068551093070060:=0
def tw13922409416243723564:=0
def tw11131103034884939052:=0
def tw16859414784663143820:=0
def tw10205147206149387692:=0
def tw13824900088118563404:=0
def tw6788657581589296812:=0
def tw8013463670827206380:=0
def tw8565991299958942508:=0
def tw14435688257549955884:=0
def tw2079483348073246572:=0
def tw2591752015796573100:=0
def tw12152625391991037900:=0
def tw6322533788597088204:=0
def tw16763173609177558125:=0
def tw16677045940945242285:=0
def tw12811748399643041997:=0
def tw6500748462478365933:=0
def tw12629716283666275661:=0
def tw13738546023309091149:=0
def tw13914471400345074061:=0
def tw3943272993410561485:=0
def tw14314179978189010381:=0
def tw9499667758439756333:=0
def tw1614013012376471117:=0
def tw1616745845112883789:=0
def tw3162675817002953421:=0
def tw8808086161130065645:=0
def tw16206759331522444013:=0
def tw16702866338705110797:=0
def tw18222078502398010253:=0
def tw9873524299351219246:=0
def tw10599234720982100014:=0
def tw156107756853962958:=0
def tw11627534527067699534:=0
def tw8495307693747379758:=0
def tw1441736858411573806:=0
def tw17735257419865053774:=0
def tw12231046566318182126:=0
def tw18241727966470373102:=0
def tw4512513999034982158:=0
def tw6154568997963851534:=0
def tw16990578834787539758:=0
def tw9314276411916909390:=0
def tw9271735205712383950:=0
def tw15645783980932300750:=0
def tw7702177200487979023:=0
def tw7728084651474642959:=0
def tw868963490265758767:=0
def tw9939209722091274415:=0
def tw701577889144064175:=0
def tw10461973336217660623:=0
def tw16488488014086286543:=0
def tw5177906250421379407:=0
def tw4275432963675926863:=0
def tw15003583819734355343:=0
def tw5650788718359083407:=0
def tw9943517665800514991:=0
def tw3365386004322661839:=0
def tw15110754800384269775:=0
def tw418140765157056975:=0
def tw4443548526148883951:=0
def tw9872546657498503663:=0
def tw1412108924311131663:=0
def tw8611401164432637487:=0
def tw11150900007064980047:=0
def tw1540623777420109423:=0
def tw7055846852085082767:=0
def tw17614385104366918383:=0
def tw6554965005919145839:=0
def tw1841902552655607727:=0
def tw4903623472575857615:=0
def tw17533437388401338319:=0
def tw17227674943087504335:=0
def tw13896685888233935888:=0
def tw834489963935971344:=0
def tw9947771149446452336:=0
def tw16986186366573593712:=0
def tw3963126623983414448:=0
def tw14476101931168620752:=0
def tw6238554826869873904:=0
def tw1975805076418765072:=0
def tw14443157656718722352:=0
def tw4178734586139721040:=0
def tw2431783972031193424:=0
def tw16546037821660285296:=0
def tw9884632066884527472:=0
def tw7344756259233294704:=0
def tw16657160440825473392:=0
def tw5426746416530181520:=0
def tw15093186573041780272:=0
def tw5537459758970574448:=0
def tw13447342337214685872:=0
def tw7032512180933088944:=0
def tw11808754499897599696:=0
def tw8012807950159955664:=0
def tw16152174898691350288:=0
def tw3222061798321353488:=0
def tw17834830612074674032:=0
def tw16728639611057323888:=0
def tw4244190096231545744:=0
def tw4556332655030656912:=0
def tw16097160726357580720:=0
def tw2721478970963745776:=0
def tw14721732448617879633:=0
def tw13901639136077174865:=0
def tw11248720299547162833:=0
def tw7626543543922130161:=0
def tw4581332382996833585:=0
def tw9248565299494049073:=0
def tw1822092160830994769:=0
def tw10753354280078055793:=0
def tw2478600205392780689:=0
def tw11365834143706609041:=0
def tw1421916556092527025:=0
def tw8839032893051515345:=0
def tw14869534412369672657:=0
def tw1001019257527464465:=0
def tw4817707480404594321:=0
def tw9555820095479221905:=0
def tw7476010451385254609:=0
def tw7559483459482989265:=0
def tw4670920987673041649:=0
def tw897535174104769329:=0
def tw10642164802046299985:=0
def tw1259086442348400465:=0
def tw6032420669016215409:=0
def tw14107494355414457265:=0
def tw9235771951206013873:=0
def tw1796589336371387313:=0
def tw6850253809834849201:=0
def tw11320504023207391250:=0
def tw1201396110636074002:=0
def tw5076814371810171954:=0
def tw17263474697335632946:=0
def tw8471744483203052690:=0
def tw6462198365875410098:=0
def tw11369230183161684146:=0
def tw10508499923924529362:=0
def tw2062797611831562482:=0
def tw5231102161591606514:=0
def tw13200478607078678834:=0
def tw1815930778629580146:=0
def tw15050905699067008402:=0
def tw511572423556529586:=0
def tw13828266701191883218:=0
def tw9806344326100431314:=0
def tw608446990453488082:=0
def tw3344012437924048370:=0
def tw16585265160672971378:=0
def tw6524040576204607154:=0
def tw14883185814386807570:=0
def tw11679270161667286802:=0
def tw3575966419509620530:=0
def tw17605485109980053330:=0
def tw13148099684706013074:=0
def tw15133472258705851346:=0
def tw10838510990722208819:=0
def tw10674976246760036435:=0
def tw2697292086707445875:=0
def tw886915671576711283:=0
def tw17005516904035212467:=0
def tw15730079412635519347:=0
def tw6101213163007531411:=0
def tw6630779493318359539:=0
def tw13190409003945049683:=0
def tw12000399677536551635:=0
def tw6325690045037468435:=0
def tw2970554901147990835:=0
def tw10244932731621106547:=0
def tw10515611435869966227:=0
def tw1771994840994086803:=0
def tw14681356077059909555:=0
def tw13966701718625501139:=0
def tw16639456074088315891:=0
def tw8909784005653012500:=0
def tw4382519933771850772:=0
def tw8863378528642874388:=0
def tw14992020699913809940:=0
def tw10056708630946423860:=0
def tw10704702613997497396:=0
def tw2053946086618956884:=0
def tw136637181068076148:=0
def tw452933647386765460:=0
def tw16459794061018608916:=0
def tw14097345138621074740:=0
def tw2704567483168316788:=0
def tw3550337909940917652:=0
def tw12673195879308761524:=0
def tw8324535727578369716:=0
def tw14711222227544953524:=0
def tw17460619543753843380:=0
def tw15789559570408833748:=0
def tw9032282926288745204:=0
def tw1708716897328881396:=0
def tw10130116678815276788:=0
def tw2907524324971945780:=0
def tw15145509566572970836:=0
def tw1494692593994549076:=0
def tw4617787576462137236:=0
def tw5828485783104890804:=0
def tw9158484629843041204:=0
def tw15786375238714880948:=0
def tw15559912276913682356:=0
def tw7156928927669039189:=0
def tw15609374122517918805:=0
def tw146798761593780405:=0
def tw224366732228347285:=0
def tw9574105414200800693:=0
def tw6848468421595902421:=0
def tw9390169225573447125:=0
def tw5832354965966269973:=0
def tw2176327288148640341:=0
def tw15559930670310760053:=0
def tw5277548746486136533:=0
def tw14948355977459183381:=0
def tw5529953468573084533:=0
def tw16247972469043104725:=0
def tw15991232202279474133:=0
def tw8918779599737021429:=0
def tw17006242803419319318:=0
def tw10879347225518447638:=0
def tw11274558136562892822:=0
def tw12462754568650123382:=0
def tw4821713607019284630:=0
def tw4850006402421252246:=0
def tw10357384093493541078:=0
def tw16927545692687574294:=0
def tw11676283367678626070:=0
def tw5139114698127631638:=0
def tw2872514554520639862:=0
def tw11796055252639098230:=0
def tw14953224219668833654:=0
def tw6109802390684261846:=0
def tw6255998106009674390:=0
def tw9239121217172597398:=0
def tw12596118847616251542:=0
def tw14320045122204124886:=0
def tw12450563010553501462:=0
def tw4781313774915672918:=0
def tw2608482301943123830:=0
def tw12389457453904393078:=0
def tw15209335588019095446:=0
def tw9318550056808089526:=0
def tw11349741206558642102:=0
def tw18058500954951595958:=0
def tw4878546140620277750:=0
def tw9516749400587602999:=0
def tw15706432502036989143:=0
def tw2797740327516735735:=0
def tw5419300204914882807:=0
def tw13511658601246837015:=0
def tw12679749528031529271:=0
def tw6783888629915176247:=0
def tw15945462109833948503:=0
def tw13857496714871420279:=0
def tw3912905359891940791:=0
def tw9433150180466718231:=0
def tw18242492219979347639:=0
def tw10127976880118958807:=0
def tw16996538141561486071:=0
def tw18228841459197999863:=0
def tw1746572882623820567:=0
def tw3424425655600727895:=0
def tw13037888017057826711:=0
def tw8135387526114367415:=0
def tw15074466152809720759:=0
def tw6629382532499616727:=0
def tw8366624678160377912:=0
def tw13723639855943738424:=0
def tw10126864654207087672:=0
def tw11592237616154645592:=0
def tw17658432416419497080:=0
def tw17042797735718499512:=0
def tw11296022509453103288:=0
def tw14749918973048900824:=0
def tw12318903725906317560:=0
def tw2841729099761255704:=0
def tw12433493807282798968:=0
def tw1785204669968815544:=0
def tw2464563898913654232:=0
def tw12910944261724984856:=0
def tw5563410280631784024:=0
def tw13199328328915968632:=0
def tw12047300390997539480:=0
def tw13953691213026216632:=0
def tw3422268736685730488:=0
def tw13101417393569766104:=0
def tw4252866050136440632:=0
def tw6665617284931001176:=0
def tw11629064769060741976:=0
def tw5948668140896063352:=0
def tw17843482146595973112:=0
def tw12749100228127960185:=0
def tw8189166154026897529:=0
def tw6296409833797613689:=0
def tw4336684860766263449:=0
def tw3165785110603388057:=0
def tw2735381848843114713:=0
def tw1100830158706794713:=0
def tw3439649850469867737:=0
def tw17961538550896225497:=0
def tw8749987104308819193:=0
def tw4605734466020883737:=0
def tw3687637898566911257:=0
def tw8022456574563487033:=0
def tw9445130942629571929:=0
def tw16218808690849857977:=0
def tw15724253098286204345:=0
def tw12423364572743323065:=0
def tw17062749509580218809:=0
def tw5761486033971792345:=0
def tw14938944839948351993:=0
def tw9048140105260845593:=0
def tw17930028411336714777:=0
def tw4640926297774789177:=0
def tw6062048025467539065:=0
def tw4122719684683638425:=0
def tw17096716692293273305:=0
def tw5327874157989458681:=0
def tw8055250071551508217:=0
def tw12638263173966815097:=0
def tw1368284984333525881:=0
def tw7279550029430319993:=0
def tw16580545307500298137:=0
def tw1103950134747539417:=0
def tw778018257738346489:=0
def tw13051576994444723193:=0
def tw748833849754272761:=0
def tw2653038453675151353:=0
def tw9365450690366806042:=0
def tw13817592082167449690:=0
def tw858991864952154266:=0
def tw5311699376598773914:=0
def tw1579875590733254842:=0
def tw4049035343093599450:=0
def tw7241854001682464026:=0
def tw350231976589935994:=0
def tw17957399640129609114:=0
def tw1667222396750004730:=0
def tw2306613955090002490:=0
def tw15058656218452643386:=0
def tw10547504081962823290:=0
def tw7901533878194422458:=0
def tw12820502497800916762:=0
def tw9929123517789217594:=0
def tw1401988403224374106:=0
def tw3562779754768106362:=0
def tw8588809982104184698:=0
def tw6600321964880869242:=0
def tw2226209442962714522:=0
def tw12604606736851914714:=0
def tw1749811004676899834:=0
def tw4751630002642844666:=0
def tw15343311275373709403:=0
def tw9843105065552335995:=0
def tw8017143562663194779:=0
def tw2418116490398310587:=0
def tw7018342215763828923:=0
def tw1421689226147787995:=0
def tw13716764086508123387:=0
def tw3913316069713819931:=0
def tw11144496441997714715:=0
def tw13924334261892319547:=0
def tw11918532219966412123:=0
def tw14702466951357260123:=0
def tw6425905568407541115:=0
def tw14213030510349076923:=0
def tw8636462966388808123:=0
def tw2362939129087743515:=0
def tw522817665644286523:=0
def tw16263037275899872859:=0
def tw13608786733730851451:=0
def tw17264643872496918171:=0
def tw7009307854070224603:=0
def tw6919564720045236955:=0
def tw3990570428086150907:=0
def tw2205487420378257211:=0
def tw13580614117866554203:=0
def tw15592692074768279451:=0
def tw14014140770377568219:=0
def tw2102939895781029883:=0
def tw14445713393309924476:=0
def tw6002923743555058844:=0
def tw14173032948997296316:=0
def tw18279659691043818716:=0
def tw17525007944490253692:=0
def tw14800699460833797564:=0
def tw9551468886718188124:=0
def tw8548866944258403932:=0
def tw12039851616405195388:=0
def tw7289396397806538364:=0
def tw9991408070059533980:=0
def tw13497725225627591356:=0
def tw3312761212825115484:=0
def tw3212431691306357596:=0
def tw7739802589746023292:=0
def tw5524738926868277148:=0
def tw13890958629512390588:=0
def tw8230330709197975548:=0
def tw12665122238841723933:=0
def tw6116194444300985405:=0
def tw1687032843852001373:=0
def tw17751964954948000925:=0
def tw12657792963685652701:=0
def tw1501696832167482621:=0
def tw6152173083595558141:=0
def tw14046457078063096061:=0
def tw528156421276331261:=0
def tw17908941917300487517:=0
def tw15757168285016454493:=0
def tw5443867756054029693:=0
def tw16349051153463212477:=0
def tw15702793834162211389:=0
def tw11473864325769147005:=0
def tw13882754211112477309:=0
def tw9414988381992048285:=0
def tw5936357112866167613:=0
def tw2012617545751585597:=0
def tw14155215504965355389:=0
def tw17103502306533969821:=0
def tw3657647169412239293:=0
def tw17400717868656539581:=0
def tw7772296168838532061:=0
def tw17619449770942280701:=0
def tw2656051619121461278:=0
def tw795815109997788286:=0
def tw12842776806454993054:=0
def tw11389586154087731390:=0
def tw7531626912835075294:=0
def tw6706182087139485950:=0
def tw7984222291536373118:=0
def tw10872272318350858654:=0
def tw17613559731494601118:=0
def tw15451784753323021758:=0
def tw14257695762413444542:=0
def tw11362716873956064734:=0
def tw7271173365085104638:=0
def tw13220794387127669310:=0
def tw5638877355441741406:=0
def tw5920474577217137278:=0
def tw17445841890813128318:=0
def tw13219646084114639550:=0
def tw18016212725062904638:=0
def tw7950059155571390270:=0
def tw1702674226971926334:=0
def tw15738613202918522782:=0
def tw12064596350699509694:=0
def tw13923418896028443582:=0
def tw7857532036111535070:=0
def tw8889108515860667358:=0
def tw4498625476827019230:=0
def tw14877202563791780927:=0
def tw938200621577480287:=0
def tw11262542648741733503:=0
def tw3876491416498110719:=0
def tw642146416175236351:=0
def tw8352913353870933279:=0
def tw3247731987730382143:=0
def tw4897033348517016959:=0
def tw8055818670187515327:=0
def tw8207078104746769855:=0
def tw11735941007338312159:=0
def tw1782316220100318687:=0
def tw1041104302750017023:=0
def tw15217623821259946527:=0
def tw2664335664697648703:=0
def tw3755851880988194495:=0
def tw863247373793977055:=0
def tw14867986892722435807:=0
def tw17969043969376749375:=0
def tw10222127478830318399:=0
def tw15820489994691103551:=0
def tw18397025807370426207:=0
def tw7431323130627619711:=0
def tw8207046426270741439:=0
def tw2242694039912860639:=0
def tw12429435676081227775:=0
def tw8593427916970234879:=0
def tw1421418506398590292:=0
end PySem.W.Fast
namespace My
open PySem L2 L2.MM
noncomputable section
def ZeC:SM:=(ZeP (mIn (mSl (Zd 0) (zO (mC (.int 2))) (zO (mC (.int 4))))) (gNm 2) (ZP 1 (mOp ZK (mOp ZK (Zd 1) (mCB Zbo (Zc (mOp Zdt (Zd 2) (mC (.int 65536))) Zk))) (mCB Zbo (Zc (mOp zD (Zd 2) (mC (.int 65536))) Zk)))))
def ZeB:SM:=(mIf (ZI (mOp gtM (mOp ixM (Zd 0) (mC (.int 6))) (mC (.int 0)))) (ZP 1 (mOp ZK (mOp ZK (Zd 1) (Zb5 (Zc (mC (.int 2)) (Zc (mC (.int 4)) Zk)))) (mCB Zbo (Zc (mOp ixM (Zd 0) (mC (.int 6))) Zk)))) ZN)
def ZfV:SM:=(Zq (ZP 1 (mOp ZK (mCB Zbo (Zc (mOp ixM (Zd 0) (mC (.int 0))) Zk)) (mCB Zbo (Zc (mOp ixM (Zd 0) (mC (.int 1))) Zk))))
  (Zq ZeC
  (Zq (ZP 1 (mOp ZK (mOp ZK (mOp ZK (Zd 1) (Zb5 (Zc (mOp ixM (Zb5 (Zc (mC (.int 80)) (Zc (mC (.int 96)) Zk))) (mCB Zrd (Zc (mOp gtM (mOp ixM (Zd 0) (mC (.int 6))) (mC (.int 0))) Zk))) (Zc (mOp ixM (Zd 0) (mC (.int 4))) Zk)))) (mCB Zbo (Zc (mOp ixM (Zd 0) (mC (.int 5))) Zk))) (Zb5 (Zc (mC (.int 0)) (Zc (mC (.int 0)) (Zc (mC (.int 0)) (Zc (mC (.int 0)) Zk)))))))
  (Zq ZeB
  (Zq (ZP 1 (mOp ZK (Zd 1) (mCB Zhe (Zc (mOp ixM (Zd 0) (mC (.int 7))) Zk))))
  (ZO (mOp ZmR (mOp ZK (mSl (Zd 1) zh (zO (mC (.int 16)))) (mCB Zbo (Zc (mOp ZeS (mC (.int 65535)) (mCB Zbp (Zc (Zd 1) Zk))) Zk))) (mSl (Zd 1) (zO (mC (.int 18))) zh))))))))
def Zca:GM:=ZR 1 3 ZfV
def ZbM:SM:=(mIf (ZI (mOp eqM (Zd 4) (mC (.int 0)))) (ZO (ZeH (ZcW (Zc (mOp zD (mCB zP (Zc (Zd 0) (Zc (mOp ZK (Zd 1) (mC (.int 41))) Zk))) (mC (.int 45))) Zk)) [0,1] (mOp zD (mOp Zdt (mCB zP (Zc (Zd 1) (Zc (mOp ZK (Zd 2) (Zd 0)) Zk))) (mC (.int 3))) (mC (.int 256))))) ZN)
def ZcA:SM:=(mIf (ZI (mOp eqM (Zd 4) (mC (.int 1)))) (Zq (mTake 5 (mCB Zca (Zc (mOp ZK (Zak (Zc (mOp ixM (Zd 2) (mC (.int 1))) (Zc (mOp ixM (Zd 2) (mC (.int 0))) Zk))) (mSl (Zd 3) (zO (mC (.int 2))) zh)) Zk)))
    (Zq (ZP 6 (mOp zD (mCB zP (Zc (Zd 0) (Zc (mOp ZK (Zd 1) (mC (.int 42))) Zk))) (ZhB 5)))
    (Zq (Zq3 5 (Zd 6) (mOp zD (mOp ZK (mOp ZK (ZjC 5 (Zd 6)) (mC (.int 1))) (mOp zD (mCB zP (Zc (Zd 0) (Zc (mOp ZK (Zd 1) (mC (.int 43))) Zk))) (mC (.int 255)))) (mC (.int 256))))
    (Zc1 5 (ZO (Zd 5)))))) ZN)
def ZdM:SM:=(mIf (ZI (mOp eqM (Zd 4) (mC (.int 2)))) (ZO (mCB ZaO (Zc (mOp ZK (Zak (Zc (mOp ixM (Zd 2) (mC (.int 1))) (Zc (mOp zD (mOp ZK (mOp ZK (mOp ixM (Zd 2) (mC (.int 0))) (mC (.int 1))) (mOp zD (mOp ixM (Zd 3) (mC (.int 0))) (mC (.int 65535)))) (mC (.int 65536))) Zk))) (mSl (Zd 3) (zO (mC (.int 2))) zh)) Zk))) ZN)
def ZcK:SM:=(Zq (ZP 3 (mCB Zhg (Zc (Zd 0) (Zc (Zd 1) Zk))))
  (Zq (ZP 4 (mOp zD (mCB zP (Zc (Zd 0) (Zc (mOp ZK (Zd 1) (mC (.int 40))) Zk))) (mC (.int 4))))
  (Zq ZbM
  (Zq ZcA
  (Zq ZdM
  (ZO (mCB ZaO (Zc (mOp ZK (Zak (Zc (mOp zD (mOp ZK (mOp ZK (mOp ixM (Zd 2) (mC (.int 1))) (mC (.int 1))) (mOp zD (mOp ixM (Zd 3) (mC (.int 0))) (mC (.int 65535)))) (mC (.int 65536))) (Zc (mOp ixM (Zd 2) (mC (.int 0))) Zk))) (mSl (Zd 3) (zO (mC (.int 2))) zh)) Zk))))))))
def Zbw:GM:=ZR 3 7 ZcK
def Zg4:SM:=(mIf (ZI (mOp eqM (mOp zD (mCB zP (Zc (Zd 0) (Zc (mC (.int 9)) Zk))) (mC (.int 4))) (mC (.int 0)))) (Zq (ZP 2 (mOp ZK (Zak (Zc (mCB ZcC (Zc (mOp ixM (Zd 4) (mC (.int 0))) (Zc (mOp ixM (Zd 4) (mC (.int 1))) (Zc (mOp ixM (Zd 2) (mC (.int 2))) (Zc (mC (.bl true)) Zk))))) Zk)) (mSl (Zd 2) (zO (mC (.int 1))) zh)))
    (ZP 3 (mOp ZK (Zak (Zc (mCB ZcC (Zc (mOp ixM (Zd 4) (mC (.int 0))) (Zc (mOp ixM (Zd 4) (mC (.int 1))) (Zc (mOp ixM (Zd 3) (mC (.int 2))) (Zc (mC (.bl true)) Zk))))) Zk)) (mSl (Zd 3) (zO (mC (.int 1))) zh)))) ZN)
def ZbB:SM:=(mIf (ZfA (ZI (mOp neM (mSl (Zd 7) zh (zO (mC (.int 2)))) (mCB Zbo (Zc (mOp ixM (Zd 4) (mC (.int 1))) Zk)))) (ZI (mOp Zcq (mCB Zcw (Zc (mOp ixM (Zd 2) (mC (.int 0))) Zk)) (Zak (Zc (mC (.str "closed")) (Zc (mC (.str "listen")) Zk)))))) (ZP 8 (mC (.bl true))) ZN)
def ZbA:SM:=(mIf (ZfA (Zae (Zd 8)) (ZI (mOp ZgT (mCB zb (Zc (mOp ixM (Zd 2) (mC (.int 0))) (Zc (Zd 7) (Zc (Zd 5) Zk)))) (mC (.bl false))))) (ZO (mC (.bl false))) ZN)
def Zg3:SM:=(mIf (ZI (mOp neM (mCB Zcv (Zc (mOp ixM (Zd 2) (mC (.int 0))) (Zc (Zd 9) Zk))) (mCB Zcv (Zc (mOp ixM (Zd 3) (mC (.int 0))) (Zc (mCB Zhe (Zc (Zd 9) Zk)) Zk))))) (ZO (mC (.bl false))) ZN)
def Zg2:SM:=(mIf (ZI (mOp neM (mCB zb (Zc (mOp ixM (Zd 2) (mC (.int 0))) (Zc (Zd 11) (Zc (Zd 5) Zk)))) (mCB zb (Zc (mOp ixM (Zd 3) (mC (.int 0))) (Zc (Zd 11) (Zc (Zd 5) Zk)))))) (ZO (mC (.bl false))) ZN)
def Zg1:SM:=(mIf (mOr (ZI (mOp neM (mCB Zc2 (Zc (mOp ixM (Zd 2) (mC (.int 0))) (Zc (Zd 5) Zk))) (mCB Zc2 (Zc (mOp ixM (Zd 3) (mC (.int 0))) (Zc (Zd 5) Zk))))) (ZI (mOp neM (mCB Zcw (Zc (mOp ixM (Zd 2) (mC (.int 0))) Zk)) (mCB Zcw (Zc (mOp ixM (Zd 3) (mC (.int 0))) Zk))))) (ZO (mC (.bl false))) ZN)
def Zg0:SM:=(mIf (mOr (ZI (mOp neM (mCB Zdc (Zc (mOp ixM (Zd 2) (mC (.int 0))) (Zc (mC (.int 9)) Zk))) (mCB Zdc (Zc (mOp ixM (Zd 3) (mC (.int 0))) (Zc (mC (.int 9)) Zk))))) (ZI (mOp neM (mCB Zdv (Zc (mOp ixM (Zd 2) (mC (.int 0))) Zk)) (mCB Zdv (Zc (mOp ixM (Zd 3) (mC (.int 0))) Zk))))) (ZO (mC (.bl false))) ZN)
def ZgZ:SM:=(ZeP (ZcW (Zc (mC (.int 3)) Zk)) (gNm 6) (Zq (ZP 7 (mCB Zbw (Zc (Zd 0) (Zc (mOp ZK (mC (.int 11)) (mOp Zba (mC (.int 7)) (Zd 6))) (Zc (Zd 4) Zk)))))
    (Zq (ZP 8 (ZlL (mOp isM (mCB Zb9 (Zc (Zd 7) Zk)) (mC .non)) (mOp neM (mOp ZK (mOp Zba (mOp ixM (Zd 7) (mC (.int 2))) (mC (.int 256))) (mOp ixM (Zd 7) (mC (.int 3)))) (mOp ixM (Zd 4) (mC (.int 0))))))
    (Zq ZbB
    (Zq ZbA
    (Zq (ZP 9 (mOp Zba (Zb5 (Zc (mOp zD (mCB zP (Zc (Zd 0) (Zc (mOp ZK (mC (.int 20)) (Zd 6)) Zk))) (mC (.int 256))) Zk)) (mOp zD (mCB zP (Zc (Zd 0) (Zc (mOp ZK (mC (.int 30)) (Zd 6)) Zk))) (mC (.int 20)))))
    (Zq Zg3
    (Zq (ZP 10 (mCB Zhg (Zc (Zd 0) (Zc (mOp ZK (mC (.int 3)) (mOp Zba (mC (.int 9)) (Zd 6))) Zk))))
    (Zq (ZP 11 (mCB ZaO (Zc (mOp ZK (Zak (Zc (mOp ixM (Zd 4) (mC (.int 1))) (Zc (mOp ixM (Zd 4) (mC (.int 0))) (Zc (mCB Zdh (Zc (mOp ixM (Zd 2) (mC (.int 3))) (Zc (mOp ZeS (mOp zD (mOp ixM (Zd 10) (mC (.int 2))) (mC (.int 9))) (mC (.int 2))) Zk))) (Zc (mOp ixM (Zd 2) (mC (.int 2))) Zk))))) (mSl (Zd 10) (zO (mC (.int 4))) zh)) Zk)))
    (Zq Zg2
    (Zq Zg1
    (Zq Zg0
    (ZP 5 (mOp ZK (Zd 5) (mC (.int 700))))))))))))))))
def ZjQ:SM:=(Zq (ZP 1 (mOp zD (mCB zP (Zc (Zd 0) (Zc (mC (.int 8)) Zk))) (mC (.int 30))))
  (Zq (ZP 2 (mCB Zd0 (Zc (Zd 0) (Zc (mC (.int 0)) (Zc (Zd 1) (Zc (mC (.int 16)) Zk))))))
  (Zq (ZP 3 (mCB Zd0 (Zc (Zd 0) (Zc (mC (.int 0)) (Zc (Zd 1) (Zc (mC (.int 16)) Zk))))))
  (Zq (ZP 4 (mOp ixM (Zd 2) (mC (.int 1))))
  (Zq Zg4
  (Zq (ZP 5 (mC (.int 10)))
  (Zq ZgZ
  (ZO (mC (.bl true))))))))))
def ZlN:GM:=ZR 1 12 ZjQ
theorem ZtS {a b:List Int} {θ:Sto} (h:a.length+b.length≤100000):ZmR (il a) (il b) θ=.ok (.ref θ.length) (θ++[.lst ((a++b).map D.int)]):=by
  unfold ZmR il
  have e1:Zav θ (.lst (a.map D.int))=some (a.map D.int):=rfl
  have e2:Zav θ (.lst (b.map D.int))=some (b.map D.int):=rfl
  rw [e1,e2]
  simp only [List.length_map,ZrO,if_pos h,List.map_append]
theorem ZvV {s:Seg} (h:s.Ok) (θ:Sto) (x y:Sl):ZO (mOp ZmR (mOp ZK (mSl (Zd 1) zh (zO (mC (.int 16)))) (mCB Zbo (Zc (mOp ZeS (mC (.int 65535)) (mCB Zbp (Zc (Zd 1) Zk))) Zk))) (mSl (Zd 1) (zO (mC (.int 18))) zh)) [x,.val (il (Zam s)),y] θ
    = .ok (.rt (.ref θ.length),[x,.val (il (Zam s)),y]) (θ++[.lst ((putL s).map D.int)]):=by
  have pe:=Zms h
  have bp:=h.put.byt
  rw [←pe] at bp
  have lf:=Zfo bp θ
  have hs:=ZjJ bp.sum.1
  have hl:(Zam s).length≤100:=by
    have:=Zdl s
    have:=h.data.2
    rw [pe]
    simp
    omega
  have fin:=Znd h
  have tw:[(65535-Zal (zm (Zam s)))/256,(65535-Zal (zm (Zam s))) % 256]=two (65535-Zal (zm (Zam s))):=two_small (by omega) (by omega)
  have k1:Zaw (Zam s) none (some 16)=(Zam s).take 16:=Zcc _ (by decide)
  have k2:Zaw (Zam s) (some 18) none=(Zam s).drop 18:=ZbL _ (by decide)
  have fs:ZK (il ((Zam s).take 16)) (il (two (65535-Zal (zm (Zam s))))) θ=.ok (il ((Zam s).take 16++two (65535-Zal (zm (Zam s))))) θ:=ZhE (by simp; omega)
  have fs2:ZmR (il ((Zam s).take 16++two (65535-Zal (zm (Zam s))))) (il ((Zam s).drop 18)) θ=.ok (.ref θ.length) (θ++[.lst ((putL s).map D.int)]):=by
    rw [ZtS (by simp; omega),fin]
  simp only [ZiK,ZtO,ZvI,ZpS,ZvS,Zmc,ZpW,Zla,ZpV,x_c,R.bind_ok,List.getElem?_cons_succ,List.getElem?_cons_zero,ZlT,k1,k2,lf,ZjB,if_true,Ztd,tw,fs,fs2]
theorem ZnQ {s:Seg} (h:s.Ok) (θ:Sto):Zca [s.d] θ=.ok (.ref θ.length) (θ++[.lst ((putL s).map D.int)]):=by
  have tail:=ZvV h θ
  have dl:=h.data.2
  by_cases m:s.most=0
  · have g:ixM (il [80,96]) (.int 0) θ=.ok (.int 80) θ:=rfl
    have e0:hd s=80:=if_pos m
    have pl:[s.src/256,s.src % 256,s.goal/256,s.goal % 256,s.num/65536/256,s.num/65536 % 256,s.num % 65536/256,s.num % 256,s.ans/65536/256,s.ans/65536 % 256,s.ans % 65536/256,s.ans % 256,
      80,s.flags,s.win/256,s.win % 256,0,0,0,0]++s.data=Zam s:=by unfold Zam; rw [if_pos m,e0]; rfl
    simp only [List.cons_append,List.nil_append] at pl
    simp [Zca,ZfV,ZeC,ZeB,ZeP,forL,m,g,pl,-ZiK,tail,show s.data.length+20≤100000 by omega,show 20+s.data.length≤100000 by omega]
  · have g:ixM (il [80,96]) (.int 1) θ=.ok (.int 96) θ:=rfl
    have e0:hd s=96:=if_neg m
    have mg:(0:Int)<s.most:=by have:=h.most.resolve_left m; omega
    have pl:[s.src/256,s.src % 256,s.goal/256,s.goal % 256,s.num/65536/256,s.num/65536 % 256,s.num % 65536/256,s.num % 256,s.ans/65536/256,s.ans/65536 % 256,s.ans % 65536/256,s.ans % 256,
      96,s.flags,s.win/256,s.win % 256,0,0,0,0,2,4,s.most/256,s.most % 256]++s.data=Zam s:=by unfold Zam; rw [if_neg m,e0]; rfl
    simp only [List.cons_append,List.nil_append] at pl
    simp [Zca,ZfV,ZeC,ZeB,ZeP,forL,mg,g,pl,-ZiK,tail,show s.data.length+24≤100000 by omega,show 24+s.data.length≤100000 by omega]
theorem Zuh (s:Seg) (θ:Sto):ZcM θ s.d (some 2) none=some (.tup [.int s.num,.int s.ans,.int s.flags,.int s.win,.int s.most,itp s.data]):=rfl
theorem ZzU (s:Seg) (θ:Sto):ZcM θ s.d (some 4) none=some (.tup [.int s.flags,.int s.win,.int s.most,itp s.data]):=rfl
theorem Zwa (s:Seg) (θ:Sto):ixM s.d (.int 0) θ=.ok (.int s.src) θ:=rfl
theorem ZzV (s:Seg) (θ:Sto):ixM s.d (.int 2) θ=.ok (.int s.num) θ:=rfl
theorem ZpZ {s:Seg} (h:s.Ok) {a b:Int} (ha:0≤a∧a≤65535) (hb:0≤b∧b≤65535):(Seg.mk a b s.num s.ans s.flags s.win s.most s.data).Ok:=⟨ha,hb,h.num,h.ans,h.flags,h.win,h.most,h.data⟩
theorem ZsP {s:Seg} (h:s.Ok):20≤(putL s).length:=by
  have:=(Zdz (ZgG h)).1
  exact this
section
variable {ns:List Int} {bs a b:Int} {θ:Sto}
theorem Zp3 {i:Nat} {f:EM} {ρ:List Sl} {xs:List Int} (lo:θ.all (ZcH θ.length)=true) (h:f ρ θ=.ok (.ref θ.length) (θ++[.lst (xs.map D.int)])):mTake i f ρ θ=.ok (.nx,ρ.set i (.own (xs.map D.int))) θ:=by
  unfold mTake
  rw [h,R.bind_ok]
  simp only [List.getLast?_concat,List.dropLast_concat]
  rw [if_pos ⟨by simp,Nat.le_refl _,Ze2 _ _,lo⟩]
theorem Zmf (lo:θ.all (ZcH θ.length)=true) (ha:0≤a∧a≤65535) (hb:0≤b∧b≤65535):∃row,Byt row∧Zbw [.scr ns,.int bs,.tup [.int a,.int b]] θ=.ok (il row) θ:=by
  obtain ⟨s,hs⟩:∃x,x=ZeE ns bs:=⟨_,rfl⟩
  have ta:=Ztl ns bs θ
  have sok:s.Ok:=by rw [hs]; exact ZrI ns bs
  rw [←hs] at ta
  have sr:=sok.src
  obtain ⟨way,hw⟩:∃x,x=mix ns (bs+40) % 4:=⟨_,rfl⟩
  by_cases c0:way=0
  · obtain ⟨n,hn⟩:∃x,x=mix ns (bs+41) % 45:=⟨_,rfl⟩
    have cp:=fun ρ (h0:ρ[0]?=some (Sl.val (D.scr ns))) (h1:ρ[1]?=some (Sl.val (.int bs)))=>Zry (nE:=mOp zD (mCB zP (Zc (Zd 0) (Zc (mOp ZK (Zd 1) (mC (.int 41))) Zk))) (mC (.int 45))) (src:=[0,1]) (elt:=mOp zD (mOp Zdt (mCB zP (Zc (Zd 1) (Zc (mOp ZK (Zd 2) (Zd 0)) Zk))) (mC (.int 3))) (mC (.int 256))) (ρ:=ρ) (θ:=θ) (j:=n) (fun k=>mix ns (bs+(k:Int))/3 % 256) (by simp [h0,h1,hn]) (by omega) (by omega) (by intro i hi; simp [h0,h1])
    refine ⟨(List.range n.toNat).map fun (k:Nat)=>mix ns (bs+(k:Int))/3 % 256,⟨?_,by simp; omega⟩,?_⟩
    · intro z hz
      obtain ⟨j,_,rfl⟩:=List.mem_map.mp hz
      omega
    · simp [Zbw,ZcK,ta,←hw,c0,ZbM,cp]
  · by_cases c1:way=1
    · obtain ⟨q,hq⟩:∃x:Seg,x=Seg.mk b a s.num s.ans s.flags s.win s.most s.data:=⟨_,rfl⟩
      have qok:q.Ok:=by rw [hq]; exact ZpZ sok hb ha
      have lb:=ZnQ qok θ
      have l20:=ZsP qok
      have by':=Zf4 qok.put
      obtain ⟨r,hr⟩:∃x,x=putL q:=⟨_,rfl⟩
      have lb':Zca [.tup [.int b,.int a,.int s.num,.int s.ans,.int s.flags,.int s.win,.int s.most,itp s.data]] θ=.ok (.ref θ.length) (θ++[.lst ((putL q).map D.int)]):=by rw [hq] at lb ⊢; exact lb
      rw [←hr] at lb' l20 by'
      obtain ⟨at',hat⟩:∃x:Nat,(x:Int)=mix ns (bs+42) % (r.length:Int):=⟨(mix ns (bs+42) % (r.length:Int)).toNat,by have:=Int.emod_nonneg (mix ns (bs+42)) (show (r.length:Int)≠0 by omega); omega⟩
      have hlt:at'<r.length:=by have:=Int.emod_lt_of_pos (mix ns (bs+42)) (show 0<(r.length:Int) by omega); omega
      have tk:∀x6,mTake 5 (mCB Zca (Zc (mOp ZK (Zak (Zc (mOp ixM (Zd 2) (mC (.int 1))) (Zc (mOp ixM (Zd 2) (mC (.int 0))) Zk))) (mSl (Zd 3) (zO (mC (.int 2))) zh)) Zk)) [.val (.scr ns),.val (.int bs),.val (.tup [.int a,.int b]),.val s.d,.val (.int 1),.no,x6] θ=.ok (.nx,[.val (.scr ns),.val (.int bs),.val (.tup [.int a,.int b]),.val s.d,.val (.int 1),.own (r.map D.int),x6]) θ:=by
        intro x6
        have:=Zp3 (i:=5) (f:=mCB Zca (Zc (mOp ZK (Zak (Zc (mOp ixM (Zd 2) (mC (.int 1))) (Zc (mOp ixM (Zd 2) (mC (.int 0))) Zk))) (mSl (Zd 3) (zO (mC (.int 2))) zh)) Zk)) (ρ:=[.val (.scr ns),.val (.int bs),.val (.tup [.int a,.int b]),.val s.d,.val (.int 1),.no,x6]) (xs:=r) lo (by simp [Zuh,lb'])
        simpa using this
      obtain ⟨v,hv⟩:∃x:Int,x=(gt r at'+1+mix ns (bs+43) % 255) % 256:=⟨_,rfl⟩
      have atr:atI (r.map D.int) (at':Int)=some (.int (gt r at')):=by
        rw [ZnL,Zvc (x:=gt r at')]
        · rfl
        · unfold gt
          rw [List.getD_eq_getElem?_getD,List.getElem?_eq_getElem hlt]
          rfl
      have ixr:ixN (r.map D.int).length (at':Int)=some at':=by
        rw [List.length_map]
        unfold ixN
        rw [if_pos (by omega)]
        simp [hlt]
      refine ⟨r.set at' v,⟨?_,by simpa using by'.2⟩,?_⟩
      · intro z hz
        rcases List.mem_or_eq_of_mem_set hz with hz | rfl
        · exact by'.1 z hz
        · omega
      · have mset:∀xs:List D,xs=r.map D.int→.lst (xs.set at' (.int v))=il (r.set at' v):=fun xs h=>by rw [h,←List.map_set]; rfl
        obtain ⟨rd,hrd⟩:∃x,x=r.map D.int:=⟨_,rfl⟩
        have rl:rd.length=r.length:=by rw [hrd]; simp
        rw [←hrd] at atr ixr
        rw [rl] at ixr
        simp only [←hrd] at tk
        have np:0<r.length:=by omega
        have ms:=mset rd hrd
        simp [Zbw,ZcK,ta,←hw,c0,c1,ZbM,ZcA,tk,rl,np,←hat,atr,←hv,ixr,ms]
    · by_cases c2:way=2
      · obtain ⟨g',hg⟩:∃x,x=(a+1+s.src % 65535) % 65536:=⟨_,rfl⟩
        have qok:=ZpZ sok hb (show 0≤g'∧g'≤65535 by omega)
        refine ⟨putL (Seg.mk b g' s.num s.ans s.flags s.win s.most s.data),Zf4 qok.put,?_⟩
        have lb:ZaO [.tup [.int b,.int g',.int s.num,.int s.ans,.int s.flags,.int s.win,.int s.most,itp s.data]] θ=.ok (il (putL (Seg.mk b g' s.num s.ans s.flags s.win s.most s.data))) θ:=ZeQ qok θ
        simp [Zbw,ZcK,ta,←hw,c0,c1,c2,ZbM,ZcA,ZdM,Zwa,←hg,Zuh,lb]
      · obtain ⟨g',hg⟩:∃x,x=(b+1+s.src % 65535) % 65536:=⟨_,rfl⟩
        have qok:=ZpZ sok (show 0≤g'∧g'≤65535 by omega) ha
        refine ⟨putL (Seg.mk g' a s.num s.ans s.flags s.win s.most s.data),Zf4 qok.put,?_⟩
        have lb:ZaO [.tup [.int g',.int a,.int s.num,.int s.ans,.int s.flags,.int s.win,.int s.most,itp s.data]] θ=.ok (il (putL (Seg.mk g' a s.num s.ans s.flags s.win s.most s.data))) θ:=ZeQ qok θ
        simp [Zbw,ZcK,ta,←hw,c0,c1,c2,ZbM,ZcA,ZdM,Zwa,←hg,Zuh,lb]
end
def Znu:SM:=(Zq (ZP 9 (mOp Zba (Zb5 (Zc (mOp zD (mCB zP (Zc (Zd 0) (Zc (mOp ZK (mC (.int 20)) (Zd 6)) Zk))) (mC (.int 256))) Zk)) (mOp zD (mCB zP (Zc (Zd 0) (Zc (mOp ZK (mC (.int 30)) (Zd 6)) Zk))) (mC (.int 20)))))
    (Zq Zg3
    (Zq (ZP 10 (mCB Zhg (Zc (Zd 0) (Zc (mOp ZK (mC (.int 3)) (mOp Zba (mC (.int 9)) (Zd 6))) Zk))))
    (Zq (ZP 11 (mCB ZaO (Zc (mOp ZK (Zak (Zc (mOp ixM (Zd 4) (mC (.int 1))) (Zc (mOp ixM (Zd 4) (mC (.int 0))) (Zc (mCB Zdh (Zc (mOp ixM (Zd 2) (mC (.int 3))) (Zc (mOp ZeS (mOp zD (mOp ixM (Zd 10) (mC (.int 2))) (mC (.int 9))) (mC (.int 2))) Zk))) (Zc (mOp ixM (Zd 2) (mC (.int 2))) Zk))))) (mSl (Zd 10) (zO (mC (.int 4))) zh)) Zk)))
    (Zq Zg2
    (Zq Zg1
    (Zq Zg0
    (ZP 5 (mOp ZK (Zd 5) (mC (.int 700)))))))))))
def lawX:SM:=(Zq (ZP 7 (mCB Zbw (Zc (Zd 0) (Zc (mOp ZK (mC (.int 11)) (mOp Zba (mC (.int 7)) (Zd 6))) (Zc (Zd 4) Zk)))))
    (Zq (ZP 8 (ZlL (mOp isM (mCB Zb9 (Zc (Zd 7) Zk)) (mC .non)) (mOp neM (mOp ZK (mOp Zba (mOp ixM (Zd 7) (mC (.int 2))) (mC (.int 256))) (mOp ixM (Zd 7) (mC (.int 3)))) (mOp ixM (Zd 4) (mC (.int 0))))))
    (Zq ZbB
    (Zq ZbA
    Znu))))
theorem ZsR:ZgZ=ZeP (ZcW (Zc (mC (.int 3)) Zk)) (gNm 6) lawX:=rfl
def tw2 (B:Sto) (i j:Nat) (e e':Zu):Sto:=upE (upE B i e) j e'
section
variable {B:Sto} {i j:Nat} {e e' e1:Zu}
theorem Zen (hij:i+3<j) (hj:j+3<B.length) {g:GM} {ds:List D} {r:D} (h:∀θ:Sto,i+3 < θ.length→g ds (upE θ i e)=.ok r (upE θ i e1)):g ds (tw2 B i j e e')=.ok r (tw2 B i j e1 e'):=by
  unfold tw2
  rw [ZmV hij,h _ (by rw [Zhy]; omega),ZmV hij]
theorem ZgJ (hij:i+3<j) (hj:j+3<B.length) {g:GM} {ds:List D} {r:D} (h:∀θ:Sto,j+3 < θ.length→g ds (upE θ j e')=.ok r (upE θ j e1)):g ds (tw2 B i j e e')=.ok r (tw2 B i j e e1):=by
  unfold tw2
  rw [h _ (by rw [Zhy]; omega)]
theorem tw_len:(tw2 B i j e e').length=B.length:=by unfold tw2; rw [Zhy,Zhy]
theorem tw_low (hij:i+3<j) (hj:j+3<B.length) (hB:B.all (ZcH B.length)=true):(tw2 B i j e e').all (ZcH (tw2 B i j e e').length)=true:=by
  rw [tw_len]
  exact Zq6 (Zq6 hB (by omega) _) hj _
end
theorem Zz9 (x k:Int) (h:0≤k∧k≤100) (θ:Sto):Zba (il [x]) (.int k) θ=.ok (il (List.replicate k.toNat x)) θ:=by
  show Zba (.lst [.int x]) (.int k) θ=_
  rw [ZqR,if_pos (by simp [BIG]; omega)]
  congr 1
  show D.lst _=D.lst _
  congr 1
  induction k.toNat with
  | zero=>rfl
  | succ n ih=>rw [List.replicate_succ,List.flatten_cons,ih,List.replicate_succ]; rfl
def zT (ns:List Int) (W a b f g:Int) (i j:Nat) (now:Int) (x6 x7 x8 x9 x10 x11:Sl):List Sl:=[.val (.scr ns),.val (.int W),.val (.tup [.ref i,.tup [.int a,.int b],.int (ZF f 1),.int (ZF g 1)]),.val (.tup [.ref j,.tup [.int a,.int b],.int (ZF f 1),.int (ZF g 1)]),.val (.tup [.int a,.int b]),.val (.int now),x6,x7,x8,x9,x10,x11]
section
variable {ns:List Int} {Wn a b f g now W:Int} {i j N:Nat} {B:Sto} {e:Zu} {x6 x7 x8 x9 x10 x11:Sl}
theorem ZnW (hij:i+3<j) (hj:j+3<B.length) (hB:B.all (ZcH B.length)=true) (ra:0≤a∧a≤65535) (rb:0≤b∧b≤65535) (h:EOk a b (ZF f 1) W N e) (k:Nat):∃y7 y8,lawX (zT ns Wn a b f g i j now (.val (.int (k:Int))) x7 x8 x9 x10 x11) (tw2 B i j e e)=Znu (zT ns Wn a b f g i j now (.val (.int (k:Int))) y7 y8 x9 x10 x11) (tw2 B i j e e):=by
  obtain ⟨θ,hθ⟩:∃x,x=tw2 B i j e e:=⟨_,rfl⟩
  have lo:θ.all (ZcH θ.length)=true:=by rw [hθ]; exact tw_low hij hj hB
  obtain ⟨row,hrow,ls⟩:=Zmf (ns:=ns) (bs:=11+7*(k:Int)) (a:=a) (b:=b) lo ra rb
  have st:Zcw [.ref i] θ=.ok (.str e.state.s) θ:=by rw [hθ]; exact Zen hij hj fun θ hl=>Zjr hl
  have mb:∀x:Int,ZdN 7 x:=fun x=>.inl (by omega)
  obtain ⟨two',ht⟩:∃x:List Int,x=[b/256,b % 256]:=⟨_,rfl⟩
  have h2:∃r2:Bool,∀θ,neM (il (Zaw row none (some 2))) (il two') θ=.ok (.bl r2) θ:=⟨_,fun θ=>Zny⟩
  obtain ⟨sx,hsx⟩:∃x:Bool,x=decide (e.state∈[State.closed,.listen]):=⟨_,rfl⟩
  have ni:∀θ,Zcq (.str e.state.s) (.tup [.str State.closed.s,.str State.listen.s]) θ=.ok (.bl (!sx)) θ:=by
    intro θ
    rw [hsx]
    cases e.state<;>rfl
  have sc:("closed":Str)=State.closed.s:=rfl
  have sl:("listen":Str)=State.listen.s:=rfl
  by_cases c:zI row=true
  · have lr:=ZmY hrow c θ
    have l20:=(Zdz c).1
    obtain ⟨s,hs⟩:∃x,x=Zbc row:=⟨_,rfl⟩
    rw [←hs] at lr
    have i2:ixM (il row) (.int 2) θ=.ok (.int (gt row 2)) θ:=ZaZ (a:=row) (i:=2) (by decide) (by omega)
    have i3:ixM (il row) (.int 3) θ=.ok (.int (gt row 3)) θ:=ZaZ (a:=row) (i:=3) (by decide) (by omega)
    have sg:s.goal=gt row 2*256+gt row 3:=by rw [hs]; show at2 row 2=_; unfold at2; simp only [Nat.reduceAdd]; omega
    have mb2:∀x:Int,ZdN x 256:=fun x=>.inr (by omega)
    have ss:s.src=256*gt row 0+gt row 1:=by rw [hs]; rfl
    have cu:Zaw row none (some 2)=[gt row 0,gt row 1]:=by
      rw [Zcc _ (by decide),show (2:Int).toNat=2 from rfl]
      match row,l20 with
      | x::y::r,_=>rfl
    have g0:0≤gt row 0∧gt row 0≤255:=by
      match row,l20,hrow with
      | x::y::r,_,hrow=>exact hrow.1 x (by simp)
    have g1:0≤gt row 1∧gt row 1≤255:=by
      match row,l20,hrow with
      | x::y::r,_,hrow=>exact hrow.1 y (by simp)
    have n2:∀θ,neM (il (Zaw row none (some 2))) (il two') θ=.ok (.bl (!decide (s.src=b))) θ:=by
      intro θ
      rw [Zny,cu,ht]
      congr 3
      rw [decide_eq_decide,ss]
      constructor
      · intro z
        simp only [List.cons.injEq,and_true] at z
        omega
      · intro z
        have:gt row 0=b/256∧gt row 1=b % 256:=by omega
        rw [this.1,this.2]
    have isn:Zb1 s.d=false:=rfl
    have far:Zdi e s=false→zb [.ref i,il row,.int now] θ=.ok (.bl false) θ:=fun z=>by
      rw [hθ]
      exact Zen hij hj fun θ hl=>ZhR hl hrow c (by rw [←hs]; exact z)
    have ifr:Zdi e s=(decide (s.goal=a) && (sx || decide (s.src=b))):=by
      unfold Zdi
      rw [h.ours.1,h.theirs.1,hsx]
    rw [←hθ]
    obtain ⟨so,hso⟩:∃x:Bool,x=((!decide (s.goal=a)) || (!decide (s.src=b) && !sx)):=⟨_,rfl⟩
    refine ⟨.val (il row),.val (.bl so),?_⟩
    have sgn:decide (gt row 2*256+gt row 3=a)=decide (s.goal=a):=by rw [sg]
    have sg2:(gt row 2*256+gt row 3=a)↔(s.goal=a):=by rw [sg]
    by_cases q1:s.goal=a
    · by_cases q2:s.src=b
      · have e0:so=false:=by rw [hso]; simp [q1,q2]
        rw [e0]
        simp only [q2,decide_true,Bool.not_true] at n2
        rw [ht] at n2
        simp [lawX,zT,ls,mb,lr,isn,i2,i3,mb2,sg2,q1,ZbB,n2,ZbA]
      · simp only [q2,decide_false,Bool.not_false] at n2
        rw [ht] at n2
        cases sx with
        | true=>
          have e0:so=false:=by rw [hso]; simp [q1]
          rw [e0]
          simp [lawX,zT,ls,mb,lr,isn,i2,i3,mb2,sg2,q1,ZbB,n2,st,sc,sl,ni,ZbA]
        | false=>
          have e0:so=true:=by rw [hso]; simp [q2]
          rw [e0]
          have fa:=far (by rw [ifr]; simp [q2])
          simp [lawX,zT,ls,mb,lr,isn,i2,i3,mb2,sg2,q1,ZbB,n2,st,sc,sl,ni,ZbA,fa]
    · have e0:so=true:=by rw [hso]; simp [q1]
      rw [e0]
      have fa:=far (by rw [ifr]; simp [q1])
      rw [ht] at n2
      obtain ⟨b2,hb2⟩:∃x:Bool,x=!decide (s.src=b):=⟨_,rfl⟩
      rw [←hb2] at n2
      cases b2 with
      | false=>simp [lawX,zT,ls,mb,lr,isn,i2,i3,mb2,sg2,q1,ZbB,n2,ZbA,fa]
      | true=>cases sx<;>simp [lawX,zT,ls,mb,lr,isn,i2,i3,mb2,sg2,q1,ZbB,n2,st,sc,sl,ni,ZbA,fa]
  · have c':zI row=false:=by simpa using c
    have lr:=Zmg hrow c' θ
    have fa:zb [.ref i,il row,.int now] θ=.ok (.bl false) θ:=by
      rw [hθ]
      exact Zen hij hj fun θ hl=>Zlj hl hrow c'
    obtain ⟨r2,n2⟩:=h2
    rw [←hθ]
    refine ⟨.val (il row),.val (.bl true),?_⟩
    rw [ht] at n2
    cases r2 with
    | false=>simp [lawX,zT,ls,mb,lr,Zb1,ZbB,n2,ZbA,fa]
    | true=>cases sx<;>simp [lawX,zT,ls,mb,lr,Zb1,ZbB,n2,st,sc,sl,ni,ZbA,fa]
theorem Zup (hij:i+3<j) (hj:j+3<B.length) (ra:0≤a∧a≤65535) (rb:0≤b∧b≤65535) (h:EOk a b (ZF f 1) W N e) (hW:0≤W∧W≤500) (hN:N≤64) (k:Nat):∃e2 y9 y10 y11,EOk a b (ZF f 1) (W+20) (N+16) e2∧Znu (zT ns Wn a b f g i j now (.val (.int (k:Int))) x7 x8 x9 x10 x11) (tw2 B i j e e)=.ok (.nx,zT ns Wn a b f g i j (now+700) (.val (.int (k:Int))) x7 x8 y9 y10 y11) (tw2 B i j e2 e2):=by
  obtain ⟨n,hn⟩:∃x,x=mix ns (30+(k:Int)) % 20:=⟨_,rfl⟩
  obtain ⟨dat,hdat⟩:∃x,x=List.replicate n.toNat (mix ns (20+(k:Int)) % 256):=⟨_,rfl⟩
  have md:=fun θ=>Zz9 (mix ns (20+(k:Int)) % 256) n (by omega) θ
  simp only [←hdat] at md
  have db:∀z∈dat,0≤z∧z≤255:=by
    rw [hdat]
    intro z hz
    rw [List.eq_of_mem_replicate hz]
    omega
  have dl:(dat.length:Int)≤20:=by rw [hdat,List.length_replicate]; omega
  have w1:Zcv [.ref i,il dat] (tw2 B i j e e)=.ok (.int (if Zd4 e=true then ((ZeF e dat).length:Int) else 0)) (tw2 B i j (Zee e dat) e):=Zen hij hj fun θ hl=>ZmX hl h.wl dat
  have w2:Zcv [.ref j,il dat] (tw2 B i j (Zee e dat) e)=.ok (.int (if Zd4 e=true then ((ZeF e dat).length:Int) else 0)) (tw2 B i j (Zee e dat) (Zee e dat)):=ZgJ hij hj fun θ hl=>ZmX hl h.wl dat
  have hw:=ZpY h db
  obtain ⟨ea,hea⟩:∃x,x=Zee e dat:=⟨_,rfl⟩
  rw [←hea] at w1 w2 hw
  obtain ⟨cw,hcw⟩:∃x:Int,x=if Zd4 e=true then ((ZeF e dat).length:Int) else 0:=⟨_,rfl⟩
  rw [←hcw] at w1 w2
  obtain ⟨q,hq⟩:∃x,x=ZeE ns (3+9*(k:Int)):=⟨_,rfl⟩
  have ta:=fun θ=>Ztl ns (3+9*(k:Int)) θ
  simp only [←hq] at ta
  have qok:q.Ok:=by rw [hq]; exact ZrI ns _
  obtain ⟨num,hnum⟩:∃x,x=ZF (ZF g 1) (q.num % 9-2):=⟨_,rfl⟩
  have nr:0≤num∧num≤4294967295:=by rw [hnum]; exact Zbe _ _
  obtain ⟨s,hs⟩:∃x:Seg,x=Seg.mk b a num (ZF f 1) q.flags q.win q.most q.data:=⟨_,rfl⟩
  have sok:s.Ok:=by rw [hs]; exact ⟨rb,ra,nr,Zbe _ _,qok.flags,qok.win,qok.most,qok.data⟩
  have lb:∀θ,ZaO [.tup [.int b,.int a,.int num,.int (ZF f 1),.int q.flags,.int q.win,.int q.most,itp q.data]] θ=.ok (il (putL s)) θ:=fun θ=>by
    have:=ZeQ sok θ
    rw [hs] at this ⊢
    exact this
  have sf:Zdi ea s=true:=by
    unfold Zdi
    rw [hw.ours.1,hw.theirs.1,hs]
    simp
  have el:ea.early.length<150:=by have:=hw.ear; omega
  have a1:zb [.ref i,il (putL s),.int now] (tw2 B i j ea ea)=.ok (.bl true) (tw2 B i j (Zd3 ea s now) ea):=Zen hij hj fun θ hl=>ZcY hl hw.come sok sf el
  have a2:zb [.ref j,il (putL s),.int now] (tw2 B i j (Zd3 ea s now) ea)=.ok (.bl true) (tw2 B i j (Zd3 ea s now) (Zd3 ea s now)):=ZgJ hij hj fun θ hl=>ZcY hl hw.come sok sf el
  have hc:=Zrz (t:=now) sok (by rw [hs,hw.una.1]) hw
  obtain ⟨eb,heb⟩:∃x,x=Zd3 ea s now:=⟨_,rfl⟩
  rw [←heb] at a1 a2 hc
  have hW':W+(dat.length:Int)≤1000:=by omega
  have g1:Zc2 [.ref i,.int now] (tw2 B i j eb eb)=.ok (.lst ((gvn now 40 eb).1.map Seg.d)) (tw2 B i j (gvn now 40 eb).2 eb):=Zen hij hj fun θ hl=>Ztj hW' hl hc
  have g2:Zc2 [.ref j,.int now] (tw2 B i j (gvn now 40 eb).2 eb)=.ok (.lst ((gvn now 40 eb).1.map Seg.d)) (tw2 B i j (gvn now 40 eb).2 (gvn now 40 eb).2):=ZgJ hij hj fun θ hl=>Ztj hW' hl hc
  have hg:=(Zrh (t:=now) hW' 40 eb hc).1
  have ns':∀θ,neM (.lst ((gvn now 40 eb).1.map Seg.d)) (.lst ((gvn now 40 eb).1.map Seg.d)) θ=.ok (.bl false) θ:=fun θ=>by rw [ZsF]; simp
  obtain ⟨sl,hsl⟩:∃x,x=(gvn now 40 eb).1.map Seg.d:=⟨_,rfl⟩
  obtain ⟨ec,hec⟩:∃x,x=(gvn now 40 eb).2:=⟨_,rfl⟩
  rw [←hsl,←hec] at g1 g2
  simp only [←hsl] at ns'
  rw [←hec] at hg
  have s1:Zcw [.ref i] (tw2 B i j ec ec)=.ok (.str ec.state.s) (tw2 B i j ec ec):=Zen hij hj fun θ hl=>Zjr hl
  have s2:Zcw [.ref j] (tw2 B i j ec ec)=.ok (.str ec.state.s) (tw2 B i j ec ec):=ZgJ hij hj fun θ hl=>Zjr hl
  have r1:Zdc [.ref i,.int 9] (tw2 B i j ec ec)=.ok (il (ec.come.take (9:Int).toNat)) (tw2 B i j (Zf3 ec 9) ec):=Zen hij hj fun θ hl=>Zp5 hl
  have r2:Zdc [.ref j,.int 9] (tw2 B i j (Zf3 ec 9) ec)=.ok (il (ec.come.take (9:Int).toNat)) (tw2 B i j (Zf3 ec 9) (Zf3 ec 9)):=ZgJ hij hj fun θ hl=>Zp5 hl
  have hr:=Zsg hg 9
  obtain ⟨ed,hed⟩:∃x,x=Zf3 ec 9:=⟨_,rfl⟩
  rw [←hed] at r1 r2 hr
  have er1:Zdv [.ref i] (tw2 B i j ed ed)=.ok (.str ed.error.s) (tw2 B i j ed ed):=Zen hij hj fun θ hl=>Zm2 hl
  have er2:Zdv [.ref j] (tw2 B i j ed ed)=.ok (.str ed.error.s) (tw2 B i j ed ed):=ZgJ hij hj fun θ hl=>Zm2 hl
  have mb9:∀x:Int,ZdN 9 x:=fun x=>.inl (by omega)
  refine ⟨ed,.val (il dat),.val q.d,.val (il (putL s)),⟨hr.ours,hr.theirs,hr.first,hr.una,hr.rcv,hr.come,hr.wr,hr.wl,hr.most,hr.rst,hr.syn,hr.nl,hr.ear,?_⟩,?_⟩
  · obtain ⟨w,z,z0,z1,w0,w1',n1,n2⟩:=hr.num
    exact ⟨w,z,z0,z1,w0,by omega,n1,n2⟩
  · obtain ⟨tk,htk⟩:∃x,x=ec.come.take (9:Int).toNat:=⟨_,rfl⟩
    rw [←htk] at r1 r2
    simp [Znu,zT,←hn,md,Zg3,w1,w2,ta,mb9,ZzV,←hnum,ZzU,lb,Zg2,a1,a2,Zg1,g1,g2,ns',s1,s2,Zg0,r1,r2,er1,er2]
end
theorem Zsy {a b f g W t:Int} (ra:0≤a∧a≤65535) (rb:0≤b∧b≤65535) (rf:0≤f∧f≤4294967295):EOk a b (ZF f 1) 0 0 (Zdg a b f g W 16 t):=by
  rw [ZuM]
  refine ⟨⟨rfl,ra⟩,⟨rfl,rb⟩,rf,⟨rfl,Zbe _ _⟩,Zbe _ _,by simp [qE,q0],by simp [qE,q0],by simp [qE,q0],by simp [qE,q0],?_,?_,?_,by simp [qE],⟨0,0,by omega,by omega,by omega,by omega,?_,?_⟩⟩
  · intro s z; cases z
  · intro z; rcases z with z | z<;>cases z
  · intro z; cases z
  · show ZF f 1=ZF (ZF f 1) 0; rw [Zcj,Int.add_zero]
  · show ZF f 1=ZF (ZF f 1) 0; rw [Zcj,Int.add_zero]
theorem ZsE {a b u:Int} (ra:0≤a∧a≤65535) (rb:0≤b∧b≤65535) (ru:0≤u∧u≤4294967295):EOk a b u 1 0 (newEnd a b u true):=by
  refine ⟨⟨rfl,ra⟩,⟨rfl,rb⟩,ru,⟨rfl,ru⟩,by show (0:Int)≤0∧(0:Int)≤4294967295; omega,by simp [newEnd],by simp [newEnd],by simp [newEnd],by simp [newEnd],?_,?_,?_,by simp [newEnd],⟨1,0,by omega,by omega,by omega,by omega,?_,rfl⟩⟩
  · intro s z; cases z
  · intro z; rfl
  · intro z; cases z
  · show u=ZF u 0; rw [ZiW ru]
theorem ZhC {n:Nat} {X Y:Sto} (h1:X.all (ZcH n)=true) (h2:Y.all (ZcH n)=true):(X++Y).all (ZcH n)=true:=by rw [List.all_append,h1,h2]; rfl
theorem ZdY {n l:Nat} (h:l+3<n) (e:Zu):(cells l e).all (ZcH n)=true:=by
  obtain ⟨a0,a1,a2,a3⟩:=Zi7 h e
  simp [cells,a0,a1,a2,a3]
theorem tw_cells {P:Sto} {e e1:Zu} {i:Nat} (hP:P.length=i):P++cells i e++cells (i+4) e=tw2 (P++cells i e++cells (i+4) e) i (i+4) e e:=by
  unfold tw2
  have l1:(P++cells i e).length=i+4:=by rw [List.length_append,hP]; rfl
  have u1:upE (P++cells i e++cells (i+4) e) i e=P++cells i e++cells (i+4) e:=by
    rw [←ZtU (by rw [l1]; omega)]
    congr 1
    have:=Zgq P e e
    rw [hP] at this
    exact this
  have u2:=Zgq (P++cells i e) e e
  rw [l1] at u2
  rw [u1,u2]
theorem law_true (ns:List Int) (hn:ns.length≤63):∃θ',ZlN [.scr ns] []=.ok (.bl true) θ':=by
  obtain ⟨a,ha⟩:∃x,x=mix ns 0 % 65536:=⟨_,rfl⟩
  obtain ⟨b,hb⟩:∃x,x=mix ns 1 % 65536:=⟨_,rfl⟩
  obtain ⟨f,hf⟩:∃x,x=Zbx (mix ns 2):=⟨_,rfl⟩
  obtain ⟨g,hg⟩:∃x,x=Zbx (mix ns 3):=⟨_,rfl⟩
  obtain ⟨W,hW⟩:∃x,x=mix ns 8 % 30:=⟨_,rfl⟩
  have ra:0≤a∧a≤65535:=by omega
  have rb:0≤b∧b≤65535:=by omega
  have rf:0≤f∧f≤4294967295:=by rw [hf]; exact Zif (by have:=Zh4 ns 2; omega)
  obtain ⟨e,he⟩:∃x,x=Zdg a b f g W 16 0:=⟨_,rfl⟩
  have lo1:=ZiM (ns:=ns) (base:=0) (W:=W) (m:=16) [] (by omega) (.inr (by omega))
  simp only [Int.zero_add,←ha,←hb,←hf,←hg,List.length_nil,List.nil_append,←he] at lo1
  have lo2:=ZiM (ns:=ns) (base:=0) (W:=W) (m:=16) (cells 0 e) (by omega) (.inr (by omega))
  have c4:(cells 0 e).length=4:=rfl
  simp only [Int.zero_add,←ha,←hb,←hf,←hg,c4,←he] at lo2
  have step:∀(e:Zu) (i:Nat) (B:Sto) (W0:Int),EOk a b (ZF f 1) W0 0 e→0≤W0∧W0≤1→i+4+3<B.length→B.all (ZcH B.length)=true→∃ρ' θ',ZgZ (zT ns W a b f g i (i+4) 10 .no .no .no .no .no .no) (tw2 B i (i+4) e e)=.ok (.nx,ρ') θ':=by
    intro e i B W0 h0 hW0 hl hB
    obtain ⟨ρ',θ',h,_⟩:=for_rng (fi:=ZcW (Zc (mC (.int 3)) Zk)) (body:=lawX) (k:=6) (ρ:=zT ns W a b f g i (i+4) 10 .no .no .no .no .no .no) (θ:=tw2 B i (i+4) e e) (lo:=0) (n:=3)
      (fun k ρ θ=>∃e now x6 x7 x8 x9 x10 x11,EOk a b (ZF f 1) (W0+20*(k:Int)) (16*k) e∧ρ=zT ns W a b f g i (i+4) now x6 x7 x8 x9 x10 x11∧θ=tw2 B i (i+4) e e) (by simp) ⟨e,10,_,_,_,_,_,_,by simpa using h0,rfl,rfl⟩ (by
        rintro k ρ θ hk ⟨e,now,x6,x7,x8,x9,x10,x11,hE,rfl,rfl⟩
        have e1:(zT ns W a b f g i (i+4) now x6 x7 x8 x9 x10 x11).set 6 (.val (.int (0+(k:Int))))=zT ns W a b f g i (i+4) now (.val (.int (k:Int))) x7 x8 x9 x10 x11:=by simp [zT]
        obtain ⟨y7,y8,s1⟩:=ZnW (ns:=ns) (Wn:=W) (now:=now) (g:=g) (x7:=x7) (x8:=x8) (x9:=x9) (x10:=x10) (x11:=x11) (i:=i) (j:=i+4) (B:=B) (by omega) hl hB ra rb hE k
        obtain ⟨e2,y9,y10,y11,hE2,s2⟩:=Zup (ns:=ns) (Wn:=W) (now:=now) (g:=g) (x7:=y7) (x8:=y8) (x9:=x9) (x10:=x10) (x11:=x11) (i:=i) (j:=i+4) (B:=B) (by omega) hl ra rb hE (by omega) (by omega) k
        refine ⟨_,_,by rw [e1,s1]; exact s2,e2,_,_,_,_,_,_,_,?_,rfl,rfl⟩
        have q1:W0+20*((k+1:Nat):Int)=W0+20*(k:Int)+20:=by omega
        have q2:16*(k+1)=16*k+16:=by omega
        rw [q1,q2]
        exact hE2) (by rintro k ρ θ ⟨e,now,x6,x7,x8,x9,x10,x11,hE,rfl,rfl⟩; simp [zT])
    rw [←ZsR] at h
    exact ⟨ρ',θ',h⟩
  by_cases c:mix ns 9 % 4=0
  · obtain ⟨P,hP⟩:∃x,x=cells 0 e++cells 4 e:=⟨_,rfl⟩
    have P8:P.length=8:=by rw [hP]; rfl
    obtain ⟨e1,he1⟩:∃x,x=newEnd a b (ZF f 1) true:=⟨_,rfl⟩
    have o1:=ZhQ (a:=a) (b:=b) (c:=ZF f 1) (act:=true) P
    have o2:=ZhQ (a:=a) (b:=b) (c:=ZF f 1) (act:=true) (P++cells 8 e1)
    have P12:(P++cells 8 e1).length=12:=by rw [List.length_append,P8]; rfl
    rw [P8,←he1] at o1
    rw [P12,←he1] at o2
    have lw:(P++cells 8 e1++cells 12 e1).all (ZcH 16)=true:=by
      refine ZhC (ZhC ?_ (ZdY (by omega) _)) (ZdY (by omega) _)
      rw [hP]
      exact ZhC (ZdY (by omega) _) (ZdY (by omega) _)
    have l16:(P++cells 8 e1++cells 12 e1).length=16:=by rw [List.length_append,P12]; rfl
    have tw:=tw_cells (P:=P) (e:=e1) (e1:=e1) P8
    obtain ⟨ρ',θ',h⟩:=step e1 8 (P++cells 8 e1++cells 12 e1) 1 (by rw [he1]; exact ZsE ra rb (Zbe _ _)) (by omega) (by rw [l16]; omega) (by rw [l16]; exact lw)
    rw [←tw] at h
    rw [←hP] at lo2
    unfold zT at h
    simp only [List.append_assoc,Nat.reduceAdd] at h
    refine ⟨θ',?_⟩
    have sl1:∀θ,ZcM θ (.tup [.ref 0,.tup [.int a,.int b],.int (ZF f 1),.int (ZF g 1)]) (some 1) none=some (.tup [.tup [.int a,.int b],.int (ZF f 1),.int (ZF g 1)]):=fun θ=>rfl
    have slc2':∀θ,ZcM θ (.tup [.ref 4,.tup [.int a,.int b],.int (ZF f 1),.int (ZF g 1)]) (some 1) none=some (.tup [.tup [.int a,.int b],.int (ZF f 1),.int (ZF g 1)]):=fun θ=>rfl
    have ad1:∀θ,ZK (.tup [.ref 8]) (.tup [.tup [.int a,.int b],.int (ZF f 1),.int (ZF g 1)]) θ=.ok (.tup [.ref 8,.tup [.int a,.int b],.int (ZF f 1),.int (ZF g 1)]) θ:=fun θ=>rfl
    have ad2:∀θ,ZK (.tup [.ref 12]) (.tup [.tup [.int a,.int b],.int (ZF f 1),.int (ZF g 1)]) θ=.ok (.tup [.ref 12,.tup [.int a,.int b],.int (ZF f 1),.int (ZF g 1)]) θ:=fun θ=>rfl
    simp [ZlN,ZjQ,←hW,lo1,lo2,Zg4,c,o1,o2,sl1,slc2',ad1,ad2,h,-ZpT]
  · have lw:(cells 0 e++cells 4 e).all (ZcH 8)=true:=ZhC (ZdY (by omega) _) (ZdY (by omega) _)
    have tw:=tw_cells (P:=[]) (e:=e) (e1:=e) (i:=0) rfl
    simp only [List.nil_append,Nat.zero_add] at tw
    obtain ⟨ρ',θ',h⟩:=step e 0 (cells 0 e++cells 4 e) 0 (by rw [he]; exact Zsy ra rb rf) (by omega) (by show 7<8; omega) lw
    simp only [Nat.zero_add] at h
    rw [←tw] at h
    unfold zT at h
    refine ⟨θ',?_⟩
    simp [ZlN,ZjQ,←hW,lo1,lo2,Zg4,c,h]
end
def top (i:Nat):Stmt:=PySem.Challenge.pw_wirestream_k33_whole_strangers.main.body.getD i (.Pass ⟨0,0,0,0⟩)
abbrev zs0:Stmt:=Znx (top 2) 0
abbrev zs1:Stmt:=top 3
abbrev zs2:Stmt:=top 4
abbrev zs3:Stmt:=top 5
abbrev zs4:Stmt:=top 9
abbrev zs5:Stmt:=top 10
abbrev zs6:Stmt:=top 11
abbrev zs7:Stmt:=Znx (top 30) 0
abbrev zs8:Stmt:=top 31
abbrev zs9:Stmt:=top 32
abbrev Zk9:Stmt:=top 33
abbrev Zk8:Stmt:=top 34
abbrev Zk7:Stmt:=top 35
abbrev Zk6:Stmt:=top 42
abbrev Zk5:Stmt:=top 43
abbrev Zk4:Stmt:=top 64
abbrev Zk3:Stmt:=top 65
abbrev Zk2:Stmt:=top 66
abbrev Zk1:Stmt:=top 67
abbrev Zk0:Stmt:=top 68
abbrev ZkZ:Stmt:=top 69
abbrev ZkY:Stmt:=top 70
abbrev ZkX:Stmt:=top 71
abbrev ZkW:Stmt:=top 72
abbrev ZkV:Stmt:=top 73
abbrev ZkU:Stmt:=top 74
abbrev ZkT:Stmt:=top 75
abbrev ZkS:Stmt:=top 76
abbrev ZkR:Stmt:=top 77
abbrev ZkQ:Stmt:=top 78
abbrev ZkP:Stmt:=top 80
abbrev ZkO:Stmt:=top 81
abbrev ZkN:Stmt:=top 82
abbrev ZkM:Stmt:=top 83
abbrev ZkL:Stmt:=top 84
abbrev ZkK:Stmt:=top 85
abbrev ZkJ:Stmt:=top 86
abbrev ZkI:Stmt:=top 87
abbrev ZkH:Stmt:=top 88
abbrev ZkG:Stmt:=top 90
abbrev ZkF:Stmt:=top 91
abbrev ZkE:Stmt:=top 92
abbrev ZkD:Stmt:=top 93
abbrev ZkC:Stmt:=top 94
abbrev ZkB:Stmt:=top 95
abbrev ZkA:Stmt:=top 96
abbrev Zkz:Stmt:=top 97
abbrev Zky:Stmt:=top 98
abbrev Zkx:Stmt:=top 99
abbrev Zkw:Stmt:=top 100
abbrev Zkv:Stmt:=top 101
abbrev Zku:Stmt:=top 102
abbrev Zkt:Stmt:=top 103
abbrev Zks:Stmt:=top 104
abbrev Zkr:Stmt:=top 105
abbrev Zkq:Stmt:=top 106
abbrev Zkp:Stmt:=top 107
abbrev Zko:Stmt:=top 109
abbrev Zkn:Stmt:=top 110
abbrev Zkm:Stmt:=top 111
abbrev Zkl:Stmt:=top 116
abbrev Zkk:Stmt:=top 117
abbrev Zkj:Stmt:=top 118
abbrev Zki:Stmt:=top 119
abbrev Zkh:Stmt:=top 120
abbrev Zkg:Stmt:=top 121
abbrev Zkf:Stmt:=top 122
abbrev Zke:Stmt:=top 123
abbrev Zkd:Stmt:=top 124
abbrev Zkc:Stmt:=top 125
abbrev Zkb:Stmt:=top 126
abbrev Zka:Stmt:=top 127
abbrev Zj9:Stmt:=top 128
abbrev Zj8:Stmt:=top 129
abbrev Zj7:Stmt:=top 130
abbrev Zj6:Stmt:=top 131
abbrev Zj5:Stmt:=top 132
abbrev Zj4:Stmt:=top 133
abbrev Zj3:Stmt:=top 134
abbrev Zj2:Stmt:=top 136
abbrev Zj1:Stmt:=top 137
abbrev Zj0:Stmt:=top 140
abbrev ZjZ:Stmt:=top 141
abbrev Zjq:Stmt:=top 142
abbrev ZiB:Stmt:=top 143
abbrev ZjY:Stmt:=top 144
abbrev Zjp:Stmt:=top 145
abbrev ZjX:Stmt:=top 146
abbrev ZjW:Stmt:=top 147
abbrev ZjV:Stmt:=top 149
abbrev ZjU:Stmt:=top 150
abbrev Zjo:Stmt:=top 151
abbrev ZhJ:Stmt:=top 152
abbrev zP0:List Str:=["self"]
theorem zc0:Zs ["self"] zP0 (Zi zs0):=⟨rfl,rfl,rfl,by decide +kernel,rfl,by decide +kernel,by decide +kernel⟩
abbrev zP1:List Str:=["pile"]
theorem zc1:Zs ["pile"] zP1 (Zi zs1):=⟨rfl,rfl,rfl,by decide +kernel,rfl,by decide +kernel,by decide +kernel⟩
abbrev zP2:List Str:=["pile","row"]
theorem zc2:Zs ["pile","row","laid"] zP2 (Zi zs2):=⟨rfl,rfl,rfl,by decide +kernel,rfl,by decide +kernel,by decide +kernel⟩
abbrev zP3:List Str:=["pile","many"]
theorem zc3:Zs ["pile","many","size","taken"] zP3 (Zi zs3):=⟨rfl,rfl,rfl,by decide +kernel,rfl,by decide +kernel,by decide +kernel⟩
abbrev zP4:List Str:=["number","step"]
theorem zc4:Zs ["number","step"] zP4 (Zi zs4):=⟨rfl,rfl,rfl,by decide +kernel,rfl,by decide +kernel,by decide +kernel⟩
abbrev zP5:List Str:=["number","base"]
theorem zc5:Zs ["number","base"] zP5 (Zi zs5):=⟨rfl,rfl,rfl,by decide +kernel,rfl,by decide +kernel,by decide +kernel⟩
abbrev zP6:List Str:=["number","base"]
theorem zc6:Zs ["number","base"] zP6 (Zi zs6):=⟨rfl,rfl,rfl,by decide +kernel,rfl,by decide +kernel,by decide +kernel⟩
abbrev zP7:List Str:=["self","ours","theirs","first","active"]
theorem zc7:Zs ["self","ours","theirs","first","active"] zP7 (Zi zs7):=⟨rfl,rfl,rfl,by decide +kernel,rfl,by decide +kernel,by decide +kernel⟩
abbrev zP8:List Str:=["end","now"]
theorem zc8:Zs ["end","now"] zP8 (Zi zs8):=⟨rfl,rfl,rfl,by decide +kernel,rfl,by decide +kernel,by decide +kernel⟩
abbrev zP9:List Str:=["end"]
theorem zc9:Zs ["end"] zP9 (Zi zs9):=⟨rfl,rfl,rfl,by decide +kernel,rfl,by decide +kernel,by decide +kernel⟩
abbrev ZpR:List Str:=["end"]
theorem zc10:Zs ["end"] ZpR (Zi Zk9):=⟨rfl,rfl,rfl,by decide +kernel,rfl,by decide +kernel,by decide +kernel⟩
abbrev ZpQ:List Str:=["end"]
theorem zc11:Zs ["end"] ZpQ (Zi Zk8):=⟨rfl,rfl,rfl,by decide +kernel,rfl,by decide +kernel,by decide +kernel⟩
abbrev ZpP:List Str:=["end"]
theorem zc12:Zs ["end"] ZpP (Zi Zk7):=⟨rfl,rfl,rfl,by decide +kernel,rfl,by decide +kernel,by decide +kernel⟩
abbrev ZpO:List Str:=["row"]
theorem zc13:Zs ["row","total"] ZpO (Zi Zk6):=⟨rfl,rfl,rfl,by decide +kernel,rfl,by decide +kernel,by decide +kernel⟩
abbrev ZpN:List Str:=["row"]
theorem zc14:Zs ["row"] ZpN (Zi Zk5):=⟨rfl,rfl,rfl,by decide +kernel,rfl,by decide +kernel,by decide +kernel⟩
abbrev ZpM:List Str:=["segment"]
theorem zc15:Zs ["segment","flags"] ZpM (Zi Zk4):=⟨rfl,rfl,rfl,by decide +kernel,rfl,by decide +kernel,by decide +kernel⟩
abbrev ZpL:List Str:=["flags","flag"]
theorem zc16:Zs ["flags","flag"] ZpL (Zi Zk3):=⟨rfl,rfl,rfl,by decide +kernel,rfl,by decide +kernel,by decide +kernel⟩
abbrev ZpK:List Str:=["segment","flag"]
theorem zc17:Zs ["segment","flag"] ZpK (Zi Zk2):=⟨rfl,rfl,rfl,by decide +kernel,rfl,by decide +kernel,by decide +kernel⟩
abbrev ZpJ:List Str:=["segment"]
theorem zc18:Zs ["segment","ahead","behind"] ZpJ (Zi Zk1):=⟨rfl,rfl,rfl,by decide +kernel,rfl,by decide +kernel,by decide +kernel⟩
abbrev ZpI:List Str:=["segment"]
theorem zc19:Zs ["segment","ports","numbers","head"] ZpI (Zi Zk0):=⟨rfl,rfl,rfl,by decide +kernel,rfl,by decide +kernel,by decide +kernel⟩
abbrev ZpH:List Str:=["head"]
theorem zc20:Zs ["head"] ZpH (Zi ZkZ):=⟨rfl,rfl,rfl,by decide +kernel,rfl,by decide +kernel,by decide +kernel⟩
abbrev ZpG:List Str:=["most"]
theorem zc21:Zs ["most"] ZpG (Zi ZkY):=⟨rfl,rfl,rfl,by decide +kernel,rfl,by decide +kernel,by decide +kernel⟩
abbrev ZpF:List Str:=["number"]
theorem zc22:Zs ["number"] ZpF (Zi ZkX):=⟨rfl,rfl,rfl,by decide +kernel,rfl,by decide +kernel,by decide +kernel⟩
abbrev ZpE:List Str:=["number"]
theorem zc23:Zs ["number"] ZpE (Zi ZkW):=⟨rfl,rfl,rfl,by decide +kernel,rfl,by decide +kernel,by decide +kernel⟩
abbrev ZpD:List Str:=["row"]
theorem zc24:Zs ["row"] ZpD (Zi ZkV):=⟨rfl,rfl,rfl,by decide +kernel,rfl,by decide +kernel,by decide +kernel⟩
abbrev ZpC:List Str:=["row"]
theorem zc25:Zs ["row"] ZpC (Zi ZkU):=⟨rfl,rfl,rfl,by decide +kernel,rfl,by decide +kernel,by decide +kernel⟩
abbrev ZpB:List Str:=["row"]
theorem zc26:Zs ["row"] ZpB (Zi ZkT):=⟨rfl,rfl,rfl,by decide +kernel,rfl,by decide +kernel,by decide +kernel⟩
abbrev ZpA:List Str:=["row"]
theorem zc27:Zs ["row","head","most","ports","numbers"] ZpA (Zi ZkS):=⟨rfl,rfl,rfl,by decide +kernel,rfl,by decide +kernel,by decide +kernel⟩
abbrev Zpz:List Str:=["row","place"]
theorem zc28:Zs ["row","place"] Zpz (Zi ZkR):=⟨rfl,rfl,rfl,by decide +kernel,rfl,by decide +kernel,by decide +kernel⟩
abbrev Zpy:List Str:=["row","place"]
theorem zc29:Zs ["row","place"] Zpy (Zi ZkQ):=⟨rfl,rfl,rfl,by decide +kernel,rfl,by decide +kernel,by decide +kernel⟩
abbrev Zpx:List Str:=["segment"]
theorem zc30:Zs ["segment","ports"] Zpx (Zi ZkP):=⟨rfl,rfl,rfl,by decide +kernel,rfl,by decide +kernel,by decide +kernel⟩
abbrev Zpw:List Str:=["end","segment"]
theorem zc31:Zs ["end","segment"] Zpw (Zi ZkO):=⟨rfl,rfl,rfl,by decide +kernel,rfl,by decide +kernel,by decide +kernel⟩
abbrev Zpv:List Str:=["end","segment"]
theorem zc32:Zs ["end","segment"] Zpv (Zi ZkN):=⟨rfl,rfl,rfl,by decide +kernel,rfl,by decide +kernel,by decide +kernel⟩
abbrev Zpu:List Str:=["end","segment"]
theorem zc33:Zs ["end","segment"] Zpu (Zi ZkM):=⟨rfl,rfl,rfl,by decide +kernel,rfl,by decide +kernel,by decide +kernel⟩
abbrev Zpt:List Str:=["end","segment"]
theorem zc34:Zs ["end","segment"] Zpt (Zi ZkL):=⟨rfl,rfl,rfl,by decide +kernel,rfl,by decide +kernel,by decide +kernel⟩
abbrev Zps:List Str:=["end","segment","now"]
theorem zc35:Zs ["end","segment","now"] Zps (Zi ZkK):=⟨rfl,rfl,rfl,by decide +kernel,rfl,by decide +kernel,by decide +kernel⟩
abbrev Zpr:List Str:=["end","segment"]
theorem zc36:Zs ["end","segment"] Zpr (Zi ZkJ):=⟨rfl,rfl,rfl,by decide +kernel,rfl,by decide +kernel,by decide +kernel⟩
abbrev Zpq:List Str:=["end","segment"]
theorem zc37:Zs ["end","segment"] Zpq (Zi ZkI):=⟨rfl,rfl,rfl,by decide +kernel,rfl,by decide +kernel,by decide +kernel⟩
abbrev Zpp:List Str:=["end","segment","now"]
theorem zc38:Zs ["end","segment","now"] Zpp (Zi ZkH):=⟨rfl,rfl,rfl,by decide +kernel,rfl,by decide +kernel,by decide +kernel⟩
abbrev Zpo:List Str:=["end","row","now"]
theorem zc39:Zs ["end","row","now","segment"] Zpo (Zi ZkG):=⟨rfl,rfl,rfl,by decide +kernel,rfl,by decide +kernel,by decide +kernel⟩
abbrev Zpn:List Str:=["end","segment"]
theorem zc40:Zs ["end","segment"] Zpn (Zi ZkF):=⟨rfl,rfl,rfl,by decide +kernel,rfl,by decide +kernel,by decide +kernel⟩
abbrev Zpm:List Str:=["end","segment","now"]
theorem zc41:Zs ["end","segment","now"] Zpm (Zi ZkE):=⟨rfl,rfl,rfl,by decide +kernel,rfl,by decide +kernel,by decide +kernel⟩
abbrev Zpl:List Str:=["end","segment"]
theorem zc42:Zs ["end","segment","size","last"] Zpl (Zi ZkD):=⟨rfl,rfl,rfl,by decide +kernel,rfl,by decide +kernel,by decide +kernel⟩
abbrev Zpk:List Str:=["end","number"]
theorem zc43:Zs ["end","number"] Zpk (Zi ZkC):=⟨rfl,rfl,rfl,by decide +kernel,rfl,by decide +kernel,by decide +kernel⟩
abbrev Zpj:List Str:=["end","segment","now"]
theorem Zzm:Zs ["end","segment","now"] Zpj (Zi ZkB):=⟨rfl,rfl,rfl,by decide +kernel,rfl,by decide +kernel,by decide +kernel⟩
abbrev Zpi:List Str:=["end","segment"]
theorem Zzl:Zs ["end","segment"] Zpi (Zi ZkA):=⟨rfl,rfl,rfl,by decide +kernel,rfl,by decide +kernel,by decide +kernel⟩
abbrev Zph:List Str:=["end","segment","now"]
theorem Zzk:Zs ["end","segment","now"] Zph (Zi Zkz):=⟨rfl,rfl,rfl,by decide +kernel,rfl,by decide +kernel,by decide +kernel⟩
abbrev Zpg:List Str:=["end","segment"]
theorem Zzj:Zs ["end","segment"] Zpg (Zi Zky):=⟨rfl,rfl,rfl,by decide +kernel,rfl,by decide +kernel,by decide +kernel⟩
abbrev Zpf:List Str:=["end","segment"]
theorem Zzi:Zs ["end","segment"] Zpf (Zi Zkx):=⟨rfl,rfl,rfl,by decide +kernel,rfl,by decide +kernel,by decide +kernel⟩
abbrev Zpe:List Str:=["end","segment","now"]
theorem zc49:Zs ["end","segment","now","answer","has_gone_on","was_shut"] Zpe (Zi Zkw):=⟨rfl,rfl,rfl,by decide +kernel,rfl,by decide +kernel,by decide +kernel⟩
abbrev Zpd:List Str:=["end","segment"]
theorem Zzh:Zs ["end","segment"] Zpd (Zi Zkv):=⟨rfl,rfl,rfl,by decide +kernel,rfl,by decide +kernel,by decide +kernel⟩
abbrev Zpc:List Str:=["end","now"]
theorem Zzg:Zs ["end","now"] Zpc (Zi Zku):=⟨rfl,rfl,rfl,by decide +kernel,rfl,by decide +kernel,by decide +kernel⟩
abbrev Zpb:List Str:=["end","segment","now"]
theorem Zzf:Zs ["end","segment","now"] Zpb (Zi Zkt):=⟨rfl,rfl,rfl,by decide +kernel,rfl,by decide +kernel,by decide +kernel⟩
abbrev Zpa:List Str:=["end","segment"]
theorem zc53:Zs ["end","segment","place","byte","number"] Zpa (Zi Zks):=⟨rfl,rfl,rfl,by decide +kernel,rfl,by decide +kernel,by decide +kernel⟩
abbrev Zo9:List Str:=["end","segment"]
theorem zc54:Zs ["end","segment","number"] Zo9 (Zi Zkr):=⟨rfl,rfl,rfl,by decide +kernel,rfl,by decide +kernel,by decide +kernel⟩
abbrev Zo8:List Str:=["end"]
theorem zc55:Zs ["end","row"] Zo8 (Zi Zkq):=⟨rfl,rfl,rfl,by decide +kernel,rfl,by decide +kernel,by decide +kernel⟩
abbrev Zo7:List Str:=["end","now"]
theorem Zze:Zs ["end","now"] Zo7 (Zi Zkp):=⟨rfl,rfl,rfl,by decide +kernel,rfl,by decide +kernel,by decide +kernel⟩
abbrev Zo6:List Str:=["ours","theirs","first","active"]
theorem Zzd:Zs ["ours","theirs","first","active"] Zo6 (Zi Zko):=⟨rfl,rfl,rfl,by decide +kernel,rfl,by decide +kernel,by decide +kernel⟩
abbrev Zo5:List Str:=["end","row"]
theorem zc58:Zs ["end","row","taken"] Zo5 (Zi Zkn):=⟨rfl,rfl,rfl,by decide +kernel,rfl,by decide +kernel,by decide +kernel⟩
abbrev Zo4:List Str:=["end","many"]
theorem zc59:Zs ["end","many","was_shut","row"] Zo4 (Zi Zkm):=⟨rfl,rfl,rfl,by decide +kernel,rfl,by decide +kernel,by decide +kernel⟩
abbrev Zo3:List Str:=["end","now"]
theorem zc60:Zs ["end","now","segment"] Zo3 (Zi Zkl):=⟨rfl,rfl,rfl,by decide +kernel,rfl,by decide +kernel,by decide +kernel⟩
abbrev Zo2:List Str:=["end","now"]
theorem zc61:Zs ["end","now","segment"] Zo2 (Zi Zkk):=⟨rfl,rfl,rfl,by decide +kernel,rfl,by decide +kernel,by decide +kernel⟩
abbrev Zo1:List Str:=["end"]
theorem zc62:Zs ["end","segment"] Zo1 (Zi Zkj):=⟨rfl,rfl,rfl,by decide +kernel,rfl,by decide +kernel,by decide +kernel⟩
abbrev Zo0:List Str:=["end","now"]
theorem Zzc:Zs ["end","now"] Zo0 (Zi Zki):=⟨rfl,rfl,rfl,by decide +kernel,rfl,by decide +kernel,by decide +kernel⟩
abbrev ZoZ:List Str:=["end","now"]
theorem zc64:Zs ["end","now","data"] ZoZ (Zi Zkh):=⟨rfl,rfl,rfl,by decide +kernel,rfl,by decide +kernel,by decide +kernel⟩
abbrev ZoY:List Str:=["end"]
theorem Zzb:Zs ["end"] ZoY (Zi Zkg):=⟨rfl,rfl,rfl,by decide +kernel,rfl,by decide +kernel,by decide +kernel⟩
abbrev ZoX:List Str:=["end"]
theorem Zza:Zs ["end"] ZoX (Zi Zkf):=⟨rfl,rfl,rfl,by decide +kernel,rfl,by decide +kernel,by decide +kernel⟩
abbrev ZoW:List Str:=["end","number","flags","data"]
theorem Zy9:Zs ["end","number","flags","data"] ZoW (Zi Zke):=⟨rfl,rfl,rfl,by decide +kernel,rfl,by decide +kernel,by decide +kernel⟩
abbrev ZoV:List Str:=["end","now"]
theorem zc68:Zs ["end","now","room"] ZoV (Zi Zkd):=⟨rfl,rfl,rfl,by decide +kernel,rfl,by decide +kernel,by decide +kernel⟩
abbrev ZoU:List Str:=["end","now"]
theorem Zy8:Zs ["end","now"] ZoU (Zi Zkc):=⟨rfl,rfl,rfl,by decide +kernel,rfl,by decide +kernel,by decide +kernel⟩
abbrev ZoT:List Str:=["end"]
theorem Zy7:Zs ["end"] ZoT (Zi Zkb):=⟨rfl,rfl,rfl,by decide +kernel,rfl,by decide +kernel,by decide +kernel⟩
abbrev ZoS:List Str:=["end"]
theorem Zy6:Zs ["end"] ZoS (Zi Zka):=⟨rfl,rfl,rfl,by decide +kernel,rfl,by decide +kernel,by decide +kernel⟩
abbrev ZoR:List Str:=["end"]
theorem Zy5:Zs ["end"] ZoR (Zi Zj9):=⟨rfl,rfl,rfl,by decide +kernel,rfl,by decide +kernel,by decide +kernel⟩
abbrev ZoQ:List Str:=["end"]
theorem Zy4:Zs ["end"] ZoQ (Zi Zj8):=⟨rfl,rfl,rfl,by decide +kernel,rfl,by decide +kernel,by decide +kernel⟩
abbrev ZoP:List Str:=["end","room"]
theorem Zy3:Zs ["end","room"] ZoP (Zi Zj7):=⟨rfl,rfl,rfl,by decide +kernel,rfl,by decide +kernel,by decide +kernel⟩
abbrev ZoO:List Str:=["end","room"]
theorem zc75:Zs ["end","room","number","many","place"] ZoO (Zi Zj6):=⟨rfl,rfl,rfl,by decide +kernel,rfl,by decide +kernel,by decide +kernel⟩
abbrev ZoN:List Str:=["end"]
theorem zc76:Zs ["end","number"] ZoN (Zi Zj5):=⟨rfl,rfl,rfl,by decide +kernel,rfl,by decide +kernel,by decide +kernel⟩
abbrev ZoM:List Str:=["end","now"]
theorem Zy2:Zs ["end","now"] ZoM (Zi Zj4):=⟨rfl,rfl,rfl,by decide +kernel,rfl,by decide +kernel,by decide +kernel⟩
abbrev ZoL:List Str:=["end"]
theorem Zy1:Zs ["end"] ZoL (Zi Zj3):=⟨rfl,rfl,rfl,by decide +kernel,rfl,by decide +kernel,by decide +kernel⟩
abbrev ZoK:List Str:=["_law_script","_law_k"]
theorem Zy0:Zs ["_law_script","_law_k"] ZoK (Zi Zj2):=⟨rfl,rfl,rfl,by decide +kernel,rfl,by decide +kernel,by decide +kernel⟩
abbrev ZoJ:List Str:=["_law_script","_law_k"]
theorem zc80:Zs ["_law_script","_law_k","_law_number"] ZoJ (Zi Zj1):=⟨rfl,rfl,rfl,by decide +kernel,rfl,by decide +kernel,by decide +kernel⟩
abbrev ZoI:List Str:=["_law_number"]
theorem ZyZ:Zs ["_law_number"] ZoI (Zi Zj0):=⟨rfl,rfl,rfl,by decide +kernel,rfl,by decide +kernel,by decide +kernel⟩
abbrev ZoH:List Str:=["_law_row"]
theorem zc82:Zs ["_law_row","_law_total","_law_k"] ZoH (Zi ZjZ):=⟨rfl,rfl,rfl,by decide +kernel,rfl,by decide +kernel,by decide +kernel⟩
abbrev ZnN:List Str:=["_law_segment_here"]
theorem zc83:Zs ["_law_segment_here","_law_row","_law_number"] ZnN (Zi Zjq):=⟨rfl,rfl,rfl,by decide +kernel,rfl,by decide +kernel,by decide +kernel⟩
abbrev ZoG:List Str:=["_law_row"]
theorem zc84:Zs ["_law_row","_law_head","_law_most","_law_words","_law_found"] ZoG (Zi ZiB):=⟨rfl,rfl,rfl,by decide +kernel,rfl,by decide +kernel,by decide +kernel⟩
abbrev ZoF:List Str:=["_law_byte_here"]
theorem ZyY:Zs ["_law_byte_here"] ZoF (Zi ZjY):=⟨rfl,rfl,rfl,by decide +kernel,rfl,by decide +kernel,by decide +kernel⟩
abbrev ZoE:List Str:=["_law_script","_law_base"]
theorem zc86:Zs ["_law_script","_law_base","_law_flags","_law_most","_law_numbers","_law_k","_law_number","_law_ports","_law_size","_law_data","_law_window"] ZoE (Zi Zjp):=⟨rfl,rfl,rfl,by decide +kernel,rfl,by decide +kernel,by decide +kernel⟩
abbrev ZoD:List Str:=["_law_number","_law_step"]
theorem ZyX:Zs ["_law_number","_law_step"] ZoD (Zi ZjX):=⟨rfl,rfl,rfl,by decide +kernel,rfl,by decide +kernel,by decide +kernel⟩
abbrev ZoC:List Str:=["_law_number"]
theorem ZyW:Zs ["_law_number"] ZoC (Zi ZjW):=⟨rfl,rfl,rfl,by decide +kernel,rfl,by decide +kernel,by decide +kernel⟩
abbrev ZoB:List Str:=["_law_end","_law_now"]
theorem zc89:Zs ["_law_end","_law_now","_law_found","_law_k","_law_row"] ZoB (Zi ZjV):=⟨rfl,rfl,rfl,by decide +kernel,rfl,by decide +kernel,by decide +kernel⟩
abbrev ZoA:List Str:=["_law_script","_law_base","_law_window","_law_most"]
theorem zc90:Zs ["_law_script","_law_base","_law_window","_law_most","_law_talk","_law_mine","_law_theirs","_law_end"] ZoA (Zi ZjU):=⟨rfl,rfl,rfl,by decide +kernel,rfl,by decide +kernel,by decide +kernel⟩
abbrev Zoz:List Str:=["_law_script","_law_base","_law_talk"]
theorem zc91:Zs ["_law_script","_law_base","_law_talk","_law_some","_law_way","_law_row","_law_at"] Zoz (Zi Zjo):=⟨rfl,rfl,rfl,by decide +kernel,rfl,by decide +kernel,by decide +kernel⟩
abbrev Zoy:List Str:=["_law_script"]
theorem zc92:Zs ["_law_script","_law_window","_law_one","_law_two_here","_law_talk","_law_now","_law_k","_law_row","_law_strange_here","_law_data","_law_some","_law_right"] Zoy (Zi ZhJ):=⟨rfl,rfl,rfl,by decide +kernel,rfl,by decide +kernel,by decide +kernel⟩
structure Glb (K:PySem.W.Frag) (mg:Str→Option Value):Prop where
  zc0:∃t,mg "ACK"=some (.int 16 t)
  zc1:∃t,mg "ANSWER"=some (.int 3 t)
  zc2:∃t,mg "CLOSED"=some (.str "closed" t)
  zc3:∃t,mg "CLOSE_WAIT"=some (.str "close wait" t)
  zc4:∃t,mg "CLOSING"=some (.str "closing" t)
  zc5:∃t,mg "DATA"=some (.int 7 t)
  zc6:∃t,mg "FIN"=some (.int 1 t)
  zc7:∃t,mg "FIRST_WAIT"=some (.int 1000 t)
  zc8:∃t,mg "FLAGS"=some (.int 4 t)
  zc9:∃t,mg "GOAL"=some (.int 1 t)
  zc10:∃t,mg "GREATEST_DATA"=some (.int 16 t)
  zc11:∃t,mg "GREATEST_FLAGS"=some (.int 31 t)
  zc12:∃t,mg "GREATEST_WORD"=some (.int 65535 t)
  zc13:∃t,mg "HALF_ROUND"=some (.int 2147483648 t)
  zc14:∃t,mg "LAST_ACK"=some (.str "last ack" t)
  zc15:∃t,mg "LAST_WAIT"=some (.int 120000 t)
  zc16:∃t,mg "LEAST_MOST"=some (.int 4 t)
  zc17:∃t,mg "LISTEN"=some (.str "listen" t)
  zc18:∃t,mg "LONGEST_WAIT"=some (.int 16000 t)
  zc19:∃t,mg "LONG_HEAD"=some (.int 24 t)
  zc20:∃t,mg "MOST"=some (.int 6 t)
  zc21:∃t,mg "MOST_TRIES"=some (.int 6 t)
  zc22:∃t,mg "MOST_UNTOLD"=some (.int 12 t)
  zc23:∃t,mg "NO_ERROR"=some (.str "" t)
  zc24:∃t,mg "NUMBER"=some (.int 2 t)
  zc25:∃t,mg "OPEN"=some (.str "open" t)
  zc26:∃t,mg "PSH"=some (.int 8 t)
  zc27:∃t,mg "REFUSED"=some (.str "refused" t)
  zc28:∃t,mg "RESET"=some (.str "reset" t)
  zc29:∃t,mg "RIGHT_SUM"=some (.int 65535 t)
  zc30:∃t,mg "ROOM"=some (.int 64 t)
  zc31:∃t,mg "ROUND"=some (.int 4294967296 t)
  zc32:∃t,mg "RST"=some (.int 4 t)
  zc33:∃t,mg "SHORT_HEAD"=some (.int 20 t)
  zc34:∃t,mg "SOURCE"=some (.int 0 t)
  zc35:∃t,mg "SYN"=some (.int 2 t)
  zc36:∃t,mg "SYN_COME"=some (.str "syn come" t)
  zc37:∃t,mg "SYN_SENT"=some (.str "syn sent" t)
  zc38:∃t,mg "TIME"=some (.str "time" t)
  zc39:∃t,mg "TIME_WAIT"=some (.str "time wait" t)
  zc40:∃t,mg "WAIT_ONE"=some (.str "wait one" t)
  zc41:∃t,mg "WAIT_TWO"=some (.str "wait two" t)
  zc42:∃t,mg "WINDOW"=some (.int 5 t)
  zc43:∃t,mg "WORDS"=some (.int 65536 t)
  b_all:mg "all"=none
  b_bool:mg "bool"=none
  b_enumerate:mg "enumerate"=none
  b_int:mg "int"=none
  b_isinstance:mg "isinstance"=none
  b_len:mg "len"=none
  b_list:mg "list"=none
  b_max:mg "max"=none
  b_min:mg "min"=none
  b_range:mg "range"=none
  b_sum:mg "sum"=none
  b_tuple:mg "tuple"=none
  k_End:Cls K (Zaf mg "End")
  k_Pile:Cls K (Zaf mg "Pile")
  zn0:NoAttr K (Zaf mg "End") "behind"
  zn1:NoAttr K (Zaf mg "End") "come"
  zn2:NoAttr K (Zaf mg "End") "early"
  zn3:NoAttr K (Zaf mg "End") "early_fin"
  zn4:NoAttr K (Zaf mg "End") "error"
  zn5:NoAttr K (Zaf mg "End") "first"
  zn6:NoAttr K (Zaf mg "End") "has_closed"
  zn7:NoAttr K (Zaf mg "End") "most"
  zn8:NoAttr K (Zaf mg "End") "nxt"
  zn9:NoAttr K (Zaf mg "End") "ours"
  zn10:NoAttr K (Zaf mg "End") "owed_reset"
  zn11:NoAttr K (Zaf mg "End") "owes_answer"
  zn12:NoAttr K (Zaf mg "End") "owes_syn"
  zn13:NoAttr K (Zaf mg "End") "probes"
  zn14:NoAttr K (Zaf mg "End") "rcv"
  zn15:NoAttr K (Zaf mg "End") "since"
  zn16:NoAttr K (Zaf mg "End") "state"
  zn17:NoAttr K (Zaf mg "End") "theirs"
  zn18:NoAttr K (Zaf mg "End") "told"
  zn19:NoAttr K (Zaf mg "End") "told_by"
  zn20:NoAttr K (Zaf mg "End") "tries"
  zn21:NoAttr K (Zaf mg "End") "una"
  zn22:NoAttr K (Zaf mg "End") "wait"
  zn23:NoAttr K (Zaf mg "End") "wnd"
  zn24:NoAttr K (Zaf mg "End") "written"
  zn25:NoAttr K (Zaf mg "Pile") "row"
section
variable {P:Program} {w:World} {K:PySem.W.Frag} {mg:Str→Option Value} {base:Heap}
theorem zo0 (D:Mk0 K mg "Pile" "Pile.__init__" zs0 zP0) (g:Glb K mg) :MMk P w K mg base 1 "Pile" Zb0:=
  mk0 D zc0 1 1 rfl rfl fun f cdv A outer s H E hr=>(Zj (ZA (Zv ⟨g.k_Pile,g.zn25⟩) (Zb 0) (z6 Zf)))
theorem zo1 (D:Zn K mg "room" zs1 zP1) (g:Glb K mg) :Zo P w K mg base 1 "room" Zel:=
  ZW D zc1 1 1 rfl rfl fun f cdv A outer s H E hr=>(Zj (Zw (Zl ZdW (Zm g.zc30) (zj ZeJ g.b_len PySem.boot_len (Za (Zr (Zv ⟨g.k_Pile,g.zn25⟩) (Zb 0)) Zf)))))
theorem zo2 (D:Zn K mg "lay" zs2 zP2) (g:Glb K mg) (zd1:Zo P w K mg base 1 "room" Zel):Zo P w K mg base 2 "lay" Zf7:=
  ZW D zc2 2 3 rfl rfl fun f cdv A outer s H E hr=>(Zg (ZC 2 zc2.nd (zt (Zb 1) Zad (zi (Zh zd1 hr (by decide) (Za (Zb 0) Zf)))))
  (Zg (ZA (Zv ⟨g.k_Pile,g.zn25⟩) (Zb 0) (Zl ZE (Zr (Zv ⟨g.k_Pile,g.zn25⟩) (Zb 0)) (Zb 2)))
  (Zj (Zw (zj ZeJ g.b_len PySem.boot_len (Za (Zb 2) Zf))))))
theorem zo3 (D:Zn K mg "take" zs3 zP3) (g:Glb K mg) :Zo P w K mg base 1 "take" Zck:=
  ZW D zc3 2 4 rfl rfl fun f cdv A outer s H E hr=>(Zg (ZC 2 zc3.nd (zj Zw1 g.b_max PyProof.Rows.boot_max (Za (Zb 1) (Za Ze Zf))))
  (Zg (ZC 3 zc3.nd (zt (Zr (Zv ⟨g.k_Pile,g.zn25⟩) (Zb 0)) Zad (zi (Zb 2))))
  (Zg (ZA (Zv ⟨g.k_Pile,g.zn25⟩) (Zb 0) (zt (Zr (Zv ⟨g.k_Pile,g.zn25⟩) (Zb 0)) (zi (Zb 2)) Zad))
  (Zj (Zw (Zb 3))))))
theorem zo4 (D:Zn K mg "plus" zs4 zP4) (g:Glb K mg) :Zo P w K mg base 1 "plus" zv:=
  ZW D zc4 2 2 rfl rfl fun f cdv A outer s H E hr=>(Zj (Zw (Zl Z9 (Zl ZE (Zb 0) (Zb 1)) (Zm g.zc31))))
theorem zo5 (D:Zn K mg "offset" zs5 zP5) (g:Glb K mg) :Zo P w K mg base 1 "offset" zG:=
  ZW D zc5 2 2 rfl rfl fun f cdv A outer s H E hr=>(Zj (Zw (Zl ZdW (Zl Z9 (Zl ZE (Zl ZdW (Zb 0) (Zb 1)) (Zm g.zc13)) (Zm g.zc31)) (Zm g.zc13))))
theorem zo6 (D:Zn K mg "past" zs6 zP6) (g:Glb K mg) (zd5:Zo P w K mg base 1 "offset" zG):Zo P w K mg base 2 "past" Zcl:=
  ZW D zc6 2 2 rfl rfl fun f cdv A outer s H E hr=>(Zj (Zw (zH Zga (Zh zd5 hr (by decide) (Za (Zb 0) (Za (Zb 1) Zf))) Ze)))
theorem zo7 (D:Mk0 K mg "End" "End.__init__" zs7 zP7) (g:Glb K mg) (zd0:MMk P w K mg base 1 "Pile" Zb0) (zd4:Zo P w K mg base 1 "plus" zv):MMk P w K mg base 3 "End" Zcp:=
  mk0 D zc7 5 5 rfl rfl fun f cdv A outer s H E hr=>(Zg (ZA (Zv ⟨g.k_End,g.zn9⟩) (Zb 0) (Zb 1))
  (Zg (ZA (Zv ⟨g.k_End,g.zn17⟩) (Zb 0) (Zb 2))
  (Zg (ZA (Zv ⟨g.k_End,g.zn16⟩) (Zb 0) (ZcP (ZH (Zb 4)) (ZG g.zc37) (ZG g.zc17)))
  (Zg (ZA (Zv ⟨g.k_End,g.zn4⟩) (Zb 0) (ZG g.zc23))
  (Zg (ZA (Zv ⟨g.k_End,g.zn5⟩) (Zb 0) (Zb 3))
  (Zg (ZA (Zv ⟨g.k_End,g.zn21⟩) (Zb 0) (Zb 3))
  (Zg (ZA (Zv ⟨g.k_End,g.zn8⟩) (Zb 0) (Zb 3))
  (Zg (ZA (Zv ⟨g.k_End,g.zn14⟩) (Zb 0) Ze)
  (Zg (ZA (Zv ⟨g.k_End,g.zn23⟩) (Zb 0) Ze)
  (Zg (ZA (Zv ⟨g.k_End,g.zn18⟩) (Zb 0) Ze)
  (Zg (ZA (Zv ⟨g.k_End,g.zn19⟩) (Zb 0) Ze)
  (Zg (ZA (Zv ⟨g.k_End,g.zn7⟩) (Zb 0) (Zm g.zc22))
  (Zg (ZA (Zv ⟨g.k_End,g.zn24⟩) (Zb 0) (ZlK zd0 hr (by decide)))
  (Zg (ZA (Zv ⟨g.k_End,g.zn1⟩) (Zb 0) (ZlK zd0 hr (by decide)))
  (Zg (ZA (Zv ⟨g.k_End,g.zn2⟩) (Zb 0) Zq1)
  (Zg (ZA (Zv ⟨g.k_End,g.zn3⟩) (Zb 0) ZaK)
  (Zg (ZA (Zv ⟨g.k_End,g.zn6⟩) (Zb 0) zN)
  (Zg (ZA (Zv ⟨g.k_End,g.zn0⟩) (Zb 0) (Zh zd4 hr (by decide) (Za (Zb 3) (Za Ze Zf))))
  (Zg (ZA (Zv ⟨g.k_End,g.zn10⟩) (Zb 0) ZaK)
  (Zg (ZA (Zv ⟨g.k_End,g.zn12⟩) (Zb 0) zN)
  (Zg (ZA (Zv ⟨g.k_End,g.zn11⟩) (Zb 0) zN)
  (Zg (ZA (Zv ⟨g.k_End,g.zn13⟩) (Zb 0) zN)
  (Zg (ZA (Zv ⟨g.k_End,g.zn15⟩) (Zb 0) Ze)
  (Zg (ZA (Zv ⟨g.k_End,g.zn22⟩) (Zb 0) (Zm g.zc7))
  (Zj (ZA (Zv ⟨g.k_End,g.zn20⟩) (Zb 0) Ze))))))))))))))))))))))))))
theorem zo8 (D:Zn K mg "start_timer" zs8 zP8) (g:Glb K mg) :Zo P w K mg base 1 "start_timer" zc:=
  ZW D zc8 2 2 rfl rfl fun f cdv A outer s H E hr=>(Zg (ZA (Zv ⟨g.k_End,g.zn15⟩) (Zb 0) (Zb 1))
  (Zg (ZA (Zv ⟨g.k_End,g.zn22⟩) (Zb 0) (Zm g.zc7))
  (Zj (ZA (Zv ⟨g.k_End,g.zn20⟩) (Zb 0) Ze))))
theorem zo9 (D:Zn K mg "state" zs9 zP9) (g:Glb K mg) :Zo P w K mg base 1 "state" Zcw:=
  ZW D zc9 1 1 rfl rfl fun f cdv A outer s H E hr=>(Zj (Zw (Zr (Zv ⟨g.k_End,g.zn16⟩) (Zb 0))))
theorem ZyV (D:Zn K mg "error" Zk9 ZpR) (g:Glb K mg) :Zo P w K mg base 1 "error" Zdv:=
  ZW D zc10 1 1 rfl rfl fun f cdv A outer s H E hr=>(Zj (Zw (Zr (Zv ⟨g.k_End,g.zn4⟩) (Zb 0))))
theorem ZyU (D:Zn K mg "our_window" Zk8 ZpQ) (g:Glb K mg) (zd1:Zo P w K mg base 1 "room" Zel):Zo P w K mg base 2 "our_window" zU:=
  ZW D zc11 1 1 rfl rfl fun f cdv A outer s H E hr=>(Zj (Zw (Zh zd1 hr (by decide) (Za (Zr (Zv ⟨g.k_End,g.zn1⟩) (Zb 0)) Zf))))
theorem ZyT (D:Zn K mg "has_sent_fin" Zk7 ZpP) (g:Glb K mg) (zd6:Zo P w K mg base 2 "past" Zcl):Zo P w K mg base 3 "has_sent_fin" Zbl:=
  ZW D zc12 1 1 rfl rfl fun f cdv A outer s H E hr=>(Zj (Zw (Zh zd6 hr (by decide) (Za (Zr (Zv ⟨g.k_End,g.zn8⟩) (Zb 0)) (Za (Zr (Zv ⟨g.k_End,g.zn0⟩) (Zb 0)) Zf)))))
theorem ZyS (D:Zn K mg "folded" Zk6 ZpO) (g:Glb K mg) :Zo P w K mg base 1 "folded" Zdf:=
  ZW D zc13 1 2 rfl rfl fun f cdv A outer s H E hr=>(Zg (ZC 1 zc13.nd (Zl ZE (Zl ZbK Ze (zj ZtH g.b_sum PyProof.Rows.boot_sum (Za (Zi4 (Zb 0) Zad Zad (zi Ze)) Zf))) (zj ZtH g.b_sum PyProof.Rows.boot_sum (Za (Zi4 (Zb 0) (zi Ze) Zad (zi Ze)) Zf))))
  (Zg (Zh3 200 PassesOwn.never (ZD Zga (Zb 1) (Zm g.zc12)) (Zj (ZC 1 zc13.nd (Zl ZE (Zl Z9 (Zb 1) (Zm g.zc43)) (Zl ZcE (Zb 1) (Zm g.zc43))))))
  (Zj (Zw (Zb 1)))))
theorem ZyR (D:Zn K mg "sum_of" Zk5 ZpN) (g:Glb K mg) (zd13:Zo P w K mg base 1 "folded" Zdf):Zo P w K mg base 2 "sum_of" ZeW:=
  ZW D zc14 1 1 rfl rfl fun f cdv A outer s H E hr=>(Zj (Zw (Zl ZdW (Zm g.zc12) (Zh zd13 hr (by decide) (Za (Zb 0) Zf)))))
theorem ZyP (D:Zn K mg "has" Zk3 ZpL) (g:Glb K mg) :Zo P w K mg base 1 "has" ZfC:=
  ZW D zc16 2 2 rfl rfl fun f cdv A outer s H E hr=>(Zj (Zw (ZcP (ZD (ZdH hr.units) (Zl ZwD (Zb 0) (Zb 1)) Ze) Ze Ze)))
theorem ZyQ (D:Zn K mg "length" Zk4 ZpM) (g:Glb K mg) (zd16:Zo P w K mg base 1 "has" ZfC):Zo P w K mg base 2 "length" ZcD:=
  ZW D zc15 1 2 rfl rfl fun f cdv A outer s H E hr=>(Zg (ZC 1 zc15.nd (Zx Zy (Zb 0) (Zm g.zc8)))
  (Zj (Zw (Zl ZE (Zl ZE (zj ZeJ g.b_len PySem.boot_len (Za (Zx Zy (Zb 0) (Zm g.zc5)) Zf)) (Zh zd16 hr (by decide) (Za (Zb 1) (Za (Zm g.zc35) Zf)))) (Zh zd16 hr (by decide) (Za (Zb 1) (Za (Zm g.zc6) Zf)))))))
theorem ZyO (D:Zn K mg "bears" Zk2 ZpK) (g:Glb K mg) (zd16:Zo P w K mg base 1 "has" ZfC):Zo P w K mg base 2 "bears" Z6:=
  ZW D zc17 2 2 rfl rfl fun f cdv A outer s H E hr=>(Zj (Zw (zH (zW hr.units) (Zh zd16 hr (by decide) (Za (Zx Zy (Zb 0) (Zm g.zc8)) (Za (Zb 1) Zf))) Ze)))
theorem ZyL (D:Zn K mg "byte_of_head" ZkZ ZpH) (g:Glb K mg) :Zo P w K mg base 1 "byte_of_head" zZ:=
  ZW D zc20 1 1 rfl rfl fun f cdv A outer s H E hr=>(Zj (Zw (Zl ZbK Ze (Zl ZcE (Zb 0) Ze))))
theorem ZyJ (D:Zn K mg "two_bytes" ZkX ZpF) (g:Glb K mg) :Zo P w K mg base 1 "two_bytes" zp:=
  ZW D zc22 1 1 rfl rfl fun f cdv A outer s H E hr=>(Zj (Zw (z6 (Za (Zl Z9 (Zl ZcE (Zb 0) Ze) Ze) (Za (Zl Z9 (Zb 0) Ze) Zf)))))
theorem ZyI (D:Zn K mg "four_bytes" ZkW ZpE) (g:Glb K mg) (zd22:Zo P w K mg base 1 "two_bytes" zp):Zo P w K mg base 2 "four_bytes" Zbv:=
  ZW D zc23 1 1 rfl rfl fun f cdv A outer s H E hr=>(Zj (Zw (Zl ZE (Zh zd22 hr (by decide) (Za (Zl ZcE (Zb 0) Ze) Zf)) (Zh zd22 hr (by decide) (Za (Zb 0) Zf)))))
theorem ZyM (D:Zn K mg "bytes_ahead_of_sum" Zk0 ZpI) (g:Glb K mg) (zd20:Zo P w K mg base 1 "byte_of_head" zZ) (zd23:Zo P w K mg base 2 "four_bytes" Zbv) (zd22:Zo P w K mg base 1 "two_bytes" zp):Zo P w K mg base 3 "bytes_ahead_of_sum" zY:=
  ZW D zc19 1 4 rfl rfl fun f cdv A outer s H E hr=>(Zg (ZC 1 zc19.nd (Zl ZE (Zh zd22 hr (by decide) (Za (Zx Zy (Zb 0) (Zm g.zc34)) Zf)) (Zh zd22 hr (by decide) (Za (Zx Zy (Zb 0) (Zm g.zc9)) Zf))))
  (Zg (ZC 2 zc19.nd (Zl ZE (Zh zd23 hr (by decide) (Za (Zx Zy (Zb 0) (Zm g.zc24)) Zf)) (Zh zd23 hr (by decide) (Za (Zx Zy (Zb 0) (Zm g.zc1)) Zf))))
  (Zg (ZC 3 zc19.nd (ZcP (ZD (zW hr.units) (Zx Zy (Zb 0) (Zm g.zc20)) Ze) (Zm g.zc33) (Zm g.zc19)))
  (Zj (Zw (Zl ZE (Zl ZE (Zl ZE (Zb 1) (Zb 2)) (z6 (Za (Zh zd20 hr (by decide) (Za (Zb 3) Zf)) (Za (Zx Zy (Zb 0) (Zm g.zc8)) Zf)))) (Zh zd22 hr (by decide) (Za (Zx Zy (Zb 0) (Zm g.zc42)) Zf))))))))
theorem ZyK (D:Zn K mg "bytes_of_most" ZkY ZpG) (g:Glb K mg) (zd22:Zo P w K mg base 1 "two_bytes" zp):Zo P w K mg base 2 "bytes_of_most" Za3:=
  ZW D zc21 1 1 rfl rfl fun f cdv A outer s H E hr=>(Zj (Zw (ZcP (ZD (zW hr.units) (Zb 0) Ze) (z6 Zf) (Zl ZE (z6 (Za Ze (Za Ze Zf))) (Zh zd22 hr (by decide) (Za (Zb 0) Zf))))))
theorem ZyN (D:Zn K mg "put" Zk1 ZpJ) (g:Glb K mg) (zd19:Zo P w K mg base 3 "bytes_ahead_of_sum" zY) (zd21:Zo P w K mg base 2 "bytes_of_most" Za3) (zd14:Zo P w K mg base 2 "sum_of" ZeW) (zd22:Zo P w K mg base 1 "two_bytes" zp):Zo P w K mg base 4 "put" Zlx:=
  ZW D zc18 1 3 rfl rfl fun f cdv A outer s H E hr=>(Zg (ZC 1 zc18.nd (Zh zd19 hr (by decide) (Za (Zb 0) Zf)))
  (Zg (ZC 2 zc18.nd (Zl ZE (Zl ZE (z6 (Za Ze (Za Ze Zf))) (Zh zd21 hr (by decide) (Za (Zx Zy (Zb 0) (Zm g.zc20)) Zf))) (Za8 ZjM g.b_list PyProof.Rows.boot_list (Za (Zx Zy (Zb 0) (Zm g.zc5)) Zf))))
  (Zj (Zw (Zl ZE (Zl ZE (Zb 1) (Zh zd22 hr (by decide) (Za (Zh zd14 hr (by decide) (Za (Zl ZE (Zl ZE (Zb 1) (z6 (Za Ze (Za Ze Zf)))) (Zb 2)) Zf)) Zf))) (Zb 2))))))
theorem ZyG (D:Zn K mg "head_of" ZkU ZpC) (g:Glb K mg) :Zo P w K mg base 1 "head_of" Zbu:=
  ZW D zc25 1 1 rfl rfl fun f cdv A outer s H E hr=>(Zj (Zw (Zl ZbK (Zl ZcE (Zx Zy (Zb 0) Ze) Ze) Ze)))
theorem ZyD (D:Zn K mg "two_at" ZkR Zpz) (g:Glb K mg) :Zo P w K mg base 1 "two_at" Zan:=
  ZW D zc28 2 2 rfl rfl fun f cdv A outer s H E hr=>(Zj (Zw (Zl ZE (Zl ZbK Ze (Zx Zy (Zb 0) (Zb 1))) (Zx Zy (Zb 0) (Zl ZE (Zb 1) Ze)))))
theorem ZyF (D:Zn K mg "is_right_long_head" ZkT ZpB) (g:Glb K mg) (zd16:Zo P w K mg base 1 "has" ZfC) (zd28:Zo P w K mg base 1 "two_at" Zan):Zo P w K mg base 2 "is_right_long_head" zX:=
  ZW D zc26 1 1 rfl rfl fun f cdv A outer s H E hr=>(Zj (Zw (ZbU (zH (zW hr.units) (Zh zd16 hr (by decide) (Za (Zx Zy (Zb 0) Ze) (Za (Zm g.zc35) Zf))) Ze) (ZbU (zH (zW hr.units) (Zx Zy (Zb 0) Ze) Ze) (ZbU (zH (zW hr.units) (Zx Zy (Zb 0) Ze) Ze) (ZcO (zH ZsC (Zh zd28 hr (by decide) (Za (Zb 0) (Za Ze Zf))) (Zm g.zc16))))))))
theorem ZyH (D:Zn K mg "is_right" ZkV ZpD) (g:Glb K mg) (zd20:Zo P w K mg base 1 "byte_of_head" zZ) (zd13:Zo P w K mg base 1 "folded" Zdf) (zd25:Zo P w K mg base 1 "head_of" Zbu) (zd26:Zo P w K mg base 2 "is_right_long_head" zX) (zd28:Zo P w K mg base 1 "two_at" Zan):Zo P w K mg base 3 "is_right" Zap:=
  ZW D zc24 1 1 rfl rfl fun f cdv A outer s H E hr=>(Zj (Zw (ZbU (zH ZsC (zj ZeJ g.b_len PySem.boot_len (Za (Zb 0) Zf)) (Zm g.zc33)) (ZbU (zH ZlC (Zx Zy (Zb 0) Ze) (ZZ (Za (Zh zd20 hr (by decide) (Za (Zm g.zc33) Zf)) (Za (Zh zd20 hr (by decide) (Za (Zm g.zc19) Zf)) Zf))) (by with_unfolding_all rfl)) (ZbU (zH Zh1 (Zx Zy (Zb 0) Ze) (Zm g.zc11)) (ZbU (Zge Zh1 Zh1 Ze (Zl ZdW (zj ZeJ g.b_len PySem.boot_len (Za (Zb 0) Zf)) (Zh zd25 hr (by decide) (Za (Zb 0) Zf))) (Zm g.zc10)) (ZbU (zH (zW hr.units) (Zh zd28 hr (by decide) (Za (Zb 0) (Za Ze Zf))) Ze) (ZbU (ZlJ (zH (zW hr.units) (Zh zd25 hr (by decide) (Za (Zb 0) Zf)) (Zm g.zc33)) (ZcO (Zh zd26 hr (by decide) (Za (Zb 0) Zf)))) (ZcO (zH (zW hr.units) (Zh zd13 hr (by decide) (Za (Zb 0) Zf)) (Zm g.zc29)))))))))))
theorem ZyC (D:Zn K mg "four_at" ZkQ Zpy) (g:Glb K mg) (zd28:Zo P w K mg base 1 "two_at" Zan):Zo P w K mg base 2 "four_at" Zc7:=
  ZW D zc29 2 2 rfl rfl fun f cdv A outer s H E hr=>(Zj (Zw (Zl ZE (Zl ZbK Ze (Zh zd28 hr (by decide) (Za (Zb 0) (Za (Zb 1) Zf)))) (Zh zd28 hr (by decide) (Za (Zb 0) (Za (Zl ZE (Zb 1) Ze) Zf))))))
theorem ZyE (D:Zn K mg "get" ZkS ZpA) (g:Glb K mg) (zd29:Zo P w K mg base 2 "four_at" Zc7) (zd25:Zo P w K mg base 1 "head_of" Zbu) (zd24:Zo P w K mg base 3 "is_right" Zap) (zd28:Zo P w K mg base 1 "two_at" Zan):Zo P w K mg base 4 "get" ZiY:=
  ZW D zc27 1 5 rfl rfl fun f cdv A outer s H E hr=>(Zg (ZL (Zbn (ZH (Zh zd24 hr (by decide) (Za (Zb 0) Zf)))) (Zj ZqV) Zz)
  (Zg (ZC 1 zc27.nd (Zh zd25 hr (by decide) (Za (Zb 0) Zf)))
  (Zg (ZC 2 zc27.nd (ZcP (ZD (zW hr.units) (Zb 1) (Zm g.zc19)) (Zh zd28 hr (by decide) (Za (Zb 0) (Za Ze Zf))) Ze))
  (Zg (ZC 3 zc27.nd (ZZ (Za (Zh zd28 hr (by decide) (Za (Zb 0) (Za Ze Zf))) (Za (Zh zd28 hr (by decide) (Za (Zb 0) (Za Ze Zf))) Zf))))
  (Zg (ZC 4 zc27.nd (ZZ (Za (Zh zd29 hr (by decide) (Za (Zb 0) (Za Ze Zf))) (Za (Zh zd29 hr (by decide) (Za (Zb 0) (Za Ze Zf))) Zf))))
  (Zj (Zw (Zl ZE (Zl ZE (Zb 3) (Zb 4)) (ZZ (Za (Zx Zy (Zb 0) Ze) (Za (Zh zd28 hr (by decide) (Za (Zb 0) (Za Ze Zf))) (Za (Zb 2) (Za (Za8 ZhI g.b_tuple PyProof.Rows.boot_tuple (Za (zt (Zb 0) (zi (Zb 1)) Zad) Zf)) Zf)))))))))))))
theorem ZyB (D:Zn K mg "reset_for" ZkP Zpx) (g:Glb K mg) (zd17:Zo P w K mg base 2 "bears" Z6) (zd15:Zo P w K mg base 2 "length" ZcD) (zd4:Zo P w K mg base 1 "plus" zv):Zo P w K mg base 3 "reset_for" ZbY:=
  ZW D zc30 1 2 rfl rfl fun f cdv A outer s H E hr=>(Zg (ZC 1 zc30.nd (ZZ (Za (Zx Zy (Zb 0) (Zm g.zc9)) (Za (Zx Zy (Zb 0) (Zm g.zc34)) Zf))))
  (Zg (ZL (ZH (Zh zd17 hr (by decide) (Za (Zb 0) (Za (Zm g.zc0) Zf)))) (Zj (Zw (Zl ZE (Zb 1) (ZZ (Za (Zx Zy (Zb 0) (Zm g.zc1)) (Za Ze (Za (Zm g.zc32) (Za Ze (Za Ze (Za (ZZ Zf) Zf)))))))))) Zz)
  (Zj (Zw (Zl ZE (Zb 1) (ZZ (Za Ze (Za (Zh zd4 hr (by decide) (Za (Zx Zy (Zb 0) (Zm g.zc24)) (Za (Zh zd15 hr (by decide) (Za (Zb 0) Zf)) Zf))) (Za (Zl ZE (Zm g.zc32) (Zm g.zc0)) (Za Ze (Za Ze (Za (ZZ Zf) Zf))))))))))))
theorem ZyA (D:Zn K mg "owe_reset_for" ZkO Zpw) (g:Glb K mg) (zd17:Zo P w K mg base 2 "bears" Z6) (zd30:Zo P w K mg base 3 "reset_for" ZbY):Zo P w K mg base 4 "owe_reset_for" Z1:=
  ZW D zc31 2 2 rfl rfl fun f cdv A outer s H E hr=>(Zj (ZL (Zbn (ZH (Zh zd17 hr (by decide) (Za (Zb 1) (Za (Zm g.zc32) Zf))))) (Zj (ZA (Zv ⟨g.k_End,g.zn10⟩) (Zb 0) (Zh zd30 hr (by decide) (Za (Zb 1) Zf)))) Zz))
theorem Zyz (D:Zn K mg "come_to_closed" ZkN Zpv) (g:Glb K mg) (zd31:Zo P w K mg base 4 "owe_reset_for" Z1):Zo P w K mg base 5 "come_to_closed" ZaQ:=
  ZW D zc32 2 2 rfl rfl fun f cdv A outer s H E hr=>(Zj (Z0 (Zh zd31 hr (by decide) (Za (Zb 0) (Za (Zb 1) Zf)))))
theorem Zyx (D:Zn K mg "hear_syn" ZkL Zpt) (g:Glb K mg) (zd17:Zo P w K mg base 2 "bears" Z6) (zd4:Zo P w K mg base 1 "plus" zv):Zo P w K mg base 3 "hear_syn" ZbS:=
  ZW D zc34 2 2 rfl rfl fun f cdv A outer s H E hr=>(Zg (ZA (Zv ⟨g.k_End,g.zn14⟩) (Zb 0) (Zh zd4 hr (by decide) (Za (Zx Zy (Zb 1) (Zm g.zc24)) (Za Ze Zf))))
  (Zg (ZA (Zv ⟨g.k_End,g.zn23⟩) (Zb 0) (Zx Zy (Zb 1) (Zm g.zc42)))
  (Zg (ZA (Zv ⟨g.k_End,g.zn18⟩) (Zb 0) (Zx Zy (Zb 1) (Zm g.zc24)))
  (Zg (ZA (Zv ⟨g.k_End,g.zn19⟩) (Zb 0) (ZcP (ZH (Zh zd17 hr (by decide) (Za (Zb 1) (Za (Zm g.zc0) Zf)))) (Zx Zy (Zb 1) (Zm g.zc1)) Ze))
  (Zj (ZL (ZD (ZdH hr.units) (Zx Zy (Zb 1) (Zm g.zc20)) Ze) (Zj (ZA (Zv ⟨g.k_End,g.zn7⟩) (Zb 0) (Zx Zy (Zb 1) (Zm g.zc20)))) Zz))))))
theorem Zyy (D:Zn K mg "come_to_listen" ZkM Zpu) (g:Glb K mg) (zd17:Zo P w K mg base 2 "bears" Z6) (zd34:Zo P w K mg base 3 "hear_syn" ZbS) (zd31:Zo P w K mg base 4 "owe_reset_for" Z1):Zo P w K mg base 5 "come_to_listen" zA:=
  ZW D zc33 2 2 rfl rfl fun f cdv A outer s H E hr=>(Zg (ZL (ZH (Zh zd17 hr (by decide) (Za (Zb 1) (Za (Zm g.zc32) Zf)))) (Zj Zeo) Zz)
  (Zj (ZL (ZH (Zh zd17 hr (by decide) (Za (Zb 1) (Za (Zm g.zc0) Zf)))) (Zj (Z0 (Zh zd31 hr (by decide) (Za (Zb 0) (Za (Zb 1) Zf))))) (Zj (ZL (ZH (Zh zd17 hr (by decide) (Za (Zb 1) (Za (Zm g.zc35) Zf)))) (Zg (ZA (Zv ⟨g.k_End,g.zn17⟩) (Zb 0) (Zx Zy (Zb 1) (Zm g.zc34)))
      (Zg (Z0 (Zh zd34 hr (by decide) (Za (Zb 0) (Za (Zb 1) Zf))))
      (Zj (ZA (Zv ⟨g.k_End,g.zn16⟩) (Zb 0) (ZG g.zc36))))) Zz)))))
theorem Zyv (D:Zn K mg "answers_syn" ZkJ Zpr) (g:Glb K mg) (zd4:Zo P w K mg base 1 "plus" zv):Zo P w K mg base 2 "answers_syn" ZbJ:=
  ZW D zc36 2 2 rfl rfl fun f cdv A outer s H E hr=>(Zj (Zw (ZbU (zH (ZdH hr.units) (Zr (Zv ⟨g.k_End,g.zn8⟩) (Zb 0)) (Zr (Zv ⟨g.k_End,g.zn5⟩) (Zb 0))) (ZcO (zH (zW hr.units) (Zx Zy (Zb 1) (Zm g.zc1)) (Zh zd4 hr (by decide) (Za (Zr (Zv ⟨g.k_End,g.zn5⟩) (Zb 0)) (Za Ze Zf))))))))
theorem Zyt (D:Zn K mg "go_on_from_syn_sent" ZkH Zpp) (g:Glb K mg) (zd17:Zo P w K mg base 2 "bears" Z6) (zd8:Zo P w K mg base 1 "start_timer" zc):Zo P w K mg base 3 "go_on_from_syn_sent" zM:=
  ZW D zc38 3 3 rfl rfl fun f cdv A outer s H E hr=>(Zj (ZL (ZH (Zh zd17 hr (by decide) (Za (Zb 1) (Za (Zm g.zc0) Zf)))) (Zg (ZA (Zv ⟨g.k_End,g.zn21⟩) (Zb 0) (Zx Zy (Zb 1) (Zm g.zc1)))
    (Zg (ZA (Zv ⟨g.k_End,g.zn16⟩) (Zb 0) (ZG g.zc25))
    (Zj (ZA (Zv ⟨g.k_End,g.zn11⟩) (Zb 0) zN)))) (Zg (ZA (Zv ⟨g.k_End,g.zn16⟩) (Zb 0) (ZG g.zc36))
    (Zg (Z0 (Zh zd8 hr (by decide) (Za (Zb 0) (Za (Zb 2) Zf))))
    (Zj (ZA (Zv ⟨g.k_End,g.zn12⟩) (Zb 0) zN))))))
theorem Zyu (D:Zn K mg "refuse" ZkI Zpq) (g:Glb K mg) (zd17:Zo P w K mg base 2 "bears" Z6):Zo P w K mg base 3 "refuse" ZeX:=
  ZW D zc37 2 2 rfl rfl fun f cdv A outer s H E hr=>(Zj (ZL (ZH (Zh zd17 hr (by decide) (Za (Zb 1) (Za (Zm g.zc0) Zf)))) (Zg (ZA (Zv ⟨g.k_End,g.zn16⟩) (Zb 0) (ZG g.zc2))
    (Zj (ZA (Zv ⟨g.k_End,g.zn4⟩) (Zb 0) (ZG g.zc27)))) Zz))
theorem Zyw (D:Zn K mg "come_to_syn_sent" ZkK Zps) (g:Glb K mg) (zd36:Zo P w K mg base 2 "answers_syn" ZbJ) (zd17:Zo P w K mg base 2 "bears" Z6) (zd38:Zo P w K mg base 3 "go_on_from_syn_sent" zM) (zd34:Zo P w K mg base 3 "hear_syn" ZbS) (zd31:Zo P w K mg base 4 "owe_reset_for" Z1) (zd37:Zo P w K mg base 3 "refuse" ZeX):Zo P w K mg base 5 "come_to_syn_sent" ZU:=
  ZW D zc35 3 3 rfl rfl fun f cdv A outer s H E hr=>(Zj (ZL (MW.mt (Zcr (ZH (Zh zd17 hr (by decide) (Za (Zb 1) (Za (Zm g.zc0) Zf)))) (Zar (Zbn (ZH (Zh zd36 hr (by decide) (Za (Zb 0) (Za (Zb 1) Zf)))))))) (Zj (Z0 (Zh zd31 hr (by decide) (Za (Zb 0) (Za (Zb 1) Zf))))) (Zj (ZL (ZH (Zh zd17 hr (by decide) (Za (Zb 1) (Za (Zm g.zc32) Zf)))) (Zj (Z0 (Zh zd37 hr (by decide) (Za (Zb 0) (Za (Zb 1) Zf))))) (Zj (ZL (ZH (Zh zd17 hr (by decide) (Za (Zb 1) (Za (Zm g.zc35) Zf)))) (Zg (Z0 (Zh zd34 hr (by decide) (Za (Zb 0) (Za (Zb 1) Zf))))
        (Zj (Z0 (Zh zd38 hr (by decide) (Za (Zb 0) (Za (Zb 1) (Za (Zb 2) Zf))))))) Zz))))))
theorem Zyo (D:Zn K mg "is_in_window" ZkC Zpk) (g:Glb K mg) (zd5:Zo P w K mg base 1 "offset" zG) (zd11:Zo P w K mg base 2 "our_window" zU):Zo P w K mg base 3 "is_in_window" zq:=
  ZW D zc43 2 2 rfl rfl fun f cdv A outer s H E hr=>(Zj (Zw (Zge Zh1 ZuW Ze (Zh zd5 hr (by decide) (Za (Zb 1) (Za (Zr (Zv ⟨g.k_End,g.zn14⟩) (Zb 0)) Zf))) (Zh zd11 hr (by decide) (Za (Zb 0) Zf)))))
theorem Zyp (D:Zn K mg "fits" ZkD Zpl) (g:Glb K mg) (zd43:Zo P w K mg base 3 "is_in_window" zq) (zd15:Zo P w K mg base 2 "length" ZcD) (zd5:Zo P w K mg base 1 "offset" zG) (zd4:Zo P w K mg base 1 "plus" zv):Zo P w K mg base 4 "fits" ZgI:=
  ZW D zc42 2 4 rfl rfl fun f cdv A outer s H E hr=>(Zg (ZC 2 zc42.nd (Zh zd15 hr (by decide) (Za (Zb 1) Zf)))
  (Zg (ZL (ZD (zW hr.units) (Zb 2) Ze) (Zj (Zw (Zge Zh1 Zh1 Ze (Zh zd5 hr (by decide) (Za (Zx Zy (Zb 1) (Zm g.zc24)) (Za (Zr (Zv ⟨g.k_End,g.zn14⟩) (Zb 0)) Zf))) (Zm g.zc30)))) Zz)
  (Zg (ZC 3 zc42.nd (Zh zd4 hr (by decide) (Za (Zx Zy (Zb 1) (Zm g.zc24)) (Za (Zl ZdW (Zb 2) Ze) Zf))))
  (Zj (Zw (ZlJ (Zh zd43 hr (by decide) (Za (Zb 0) (Za (Zx Zy (Zb 1) (Zm g.zc24)) Zf))) (ZcO (Zh zd43 hr (by decide) (Za (Zb 0) (Za (Zb 3) Zf))))))))))
theorem Zyg (D:Zn K mg "end_what_is_acknowledged" Zku Zpc) (g:Glb K mg) (zd12:Zo P w K mg base 3 "has_sent_fin" Zbl):Zo P w K mg base 4 "end_what_is_acknowledged" ZT:=
  ZW D Zzg 2 2 rfl rfl fun f cdv A outer s H E hr=>(Zg (ZL (MW.mt (ZcF (Zbn (ZH (Zh zd12 hr (by decide) (Za (Zb 0) Zf)))) (Zac (ZD (ZdH hr.units) (Zr (Zv ⟨g.k_End,g.zn21⟩) (Zb 0)) (Zr (Zv ⟨g.k_End,g.zn8⟩) (Zb 0)))))) (Zj Zeo) Zz)
  (Zj (ZL (ZD (zW hr.units) (Zr (Zv ⟨g.k_End,g.zn16⟩) (Zb 0)) (ZG g.zc40)) (Zj (ZA (Zv ⟨g.k_End,g.zn16⟩) (Zb 0) (ZG g.zc41))) (Zj (ZL (ZD (zW hr.units) (Zr (Zv ⟨g.k_End,g.zn16⟩) (Zb 0)) (ZG g.zc4)) (Zg (ZA (Zv ⟨g.k_End,g.zn16⟩) (Zb 0) (ZG g.zc39))
      (Zj (ZA (Zv ⟨g.k_End,g.zn15⟩) (Zb 0) (Zb 1)))) (Zj (ZL (ZD (zW hr.units) (Zr (Zv ⟨g.k_End,g.zn16⟩) (Zb 0)) (ZG g.zc14)) (Zj (ZA (Zv ⟨g.k_End,g.zn16⟩) (Zb 0) (ZG g.zc2))) Zz)))))))
theorem Zyj (D:Zn K mg "take_window" Zkx Zpf) (g:Glb K mg) :Zo P w K mg base 1 "take_window" ZaI:=
  ZW D Zzi 2 2 rfl rfl fun f cdv A outer s H E hr=>(Zg (ZA (Zv ⟨g.k_End,g.zn23⟩) (Zb 0) (Zx Zy (Zb 1) (Zm g.zc42)))
  (Zg (ZA (Zv ⟨g.k_End,g.zn18⟩) (Zb 0) (Zx Zy (Zb 1) (Zm g.zc24)))
  (Zj (ZA (Zv ⟨g.k_End,g.zn19⟩) (Zb 0) (Zx Zy (Zb 1) (Zm g.zc1))))))
theorem Zyk (D:Zn K mg "has_answered_syn" Zky Zpg) (g:Glb K mg) (zd31:Zo P w K mg base 4 "owe_reset_for" Z1) (zd48:Zo P w K mg base 1 "take_window" ZaI):Zo P w K mg base 5 "has_answered_syn" zw:=
  ZW D Zzj 2 2 rfl rfl fun f cdv A outer s H E hr=>(Zg (ZL (MW.mt (ZcF (ZD (zW hr.units) (Zr (Zv ⟨g.k_End,g.zn8⟩) (Zb 0)) (Zr (Zv ⟨g.k_End,g.zn5⟩) (Zb 0))) (Zac (ZD (ZdH hr.units) (Zx Zy (Zb 1) (Zm g.zc1)) (Zr (Zv ⟨g.k_End,g.zn8⟩) (Zb 0)))))) (Zg (Z0 (Zh zd31 hr (by decide) (Za (Zb 0) (Za (Zb 1) Zf))))
    (Zj (Zw zN))) Zz)
  (Zg (ZA (Zv ⟨g.k_End,g.zn21⟩) (Zb 0) (Zx Zy (Zb 1) (Zm g.zc1)))
  (Zg (ZA (Zv ⟨g.k_End,g.zn16⟩) (Zb 0) (ZcP (ZH (Zr (Zv ⟨g.k_End,g.zn6⟩) (Zb 0))) (ZG g.zc40) (ZG g.zc25)))
  (Zg (Z0 (Zh zd48 hr (by decide) (Za (Zb 0) (Za (Zb 1) Zf))))
  (Zj (Zw zN))))))
theorem Zyh (D:Zn K mg "is_newer" Zkv Zpd) (g:Glb K mg) (zd6:Zo P w K mg base 2 "past" Zcl):Zo P w K mg base 3 "is_newer" Zdd:=
  ZW D Zzh 2 2 rfl rfl fun f cdv A outer s H E hr=>(Zg (ZL (ZD (zW hr.units) (Zx Zy (Zb 1) (Zm g.zc24)) (Zr (Zv ⟨g.k_End,g.zn18⟩) (Zb 0))) (Zj (Zw (ZqY (Zh zd6 hr (by decide) (Za (Zr (Zv ⟨g.k_End,g.zn19⟩) (Zb 0)) (Za (Zx Zy (Zb 1) (Zm g.zc1)) Zf)))))) Zz)
  (Zj (Zw (Zh zd6 hr (by decide) (Za (Zx Zy (Zb 1) (Zm g.zc24)) (Za (Zr (Zv ⟨g.k_End,g.zn18⟩) (Zb 0)) Zf))))))
theorem Zyi (D:Zn K mg "hear_answer" Zkw Zpe) (g:Glb K mg) (zd50:Zo P w K mg base 3 "is_newer" Zdd) (zd5:Zo P w K mg base 1 "offset" zG) (zd6:Zo P w K mg base 2 "past" Zcl) (zd8:Zo P w K mg base 1 "start_timer" zc) (zd3:Zo P w K mg base 1 "take" Zck) (zd48:Zo P w K mg base 1 "take_window" ZaI):Zo P w K mg base 4 "hear_answer" zV:=
  ZW D zc49 3 6 rfl rfl fun f cdv A outer s H E hr=>(Zg (ZC 3 zc49.nd (Zx Zy (Zb 1) (Zm g.zc1)))
  (Zg (ZC 4 zc49.nd (Zh zd6 hr (by decide) (Za (Zb 3) (Za (Zr (Zv ⟨g.k_End,g.zn21⟩) (Zb 0)) Zf))))
  (Zg (ZL (ZH (Zb 4)) (Zg (Z0 (Zh zd3 hr (by decide) (Za (Zr (Zv ⟨g.k_End,g.zn24⟩) (Zb 0)) (Za (Zh zd5 hr (by decide) (Za (Zb 3) (Za (Zr (Zv ⟨g.k_End,g.zn21⟩) (Zb 0)) Zf))) Zf))))
    (Zg (ZA (Zv ⟨g.k_End,g.zn21⟩) (Zb 0) (Zb 3))
    (Zj (ZL (ZD (ZdH hr.units) (Zr (Zv ⟨g.k_End,g.zn21⟩) (Zb 0)) (Zr (Zv ⟨g.k_End,g.zn8⟩) (Zb 0))) (Zj (Z0 (Zh zd8 hr (by decide) (Za (Zb 0) (Za (Zb 2) Zf))))) Zz)))) Zz)
  (Zg (ZL (ZH (Zh zd6 hr (by decide) (Za (Zr (Zv ⟨g.k_End,g.zn21⟩) (Zb 0)) (Za (Zb 3) Zf)))) (Zj Zeo) Zz)
  (Zg (ZC 5 zc49.nd (zH (zW hr.units) (Zr (Zv ⟨g.k_End,g.zn23⟩) (Zb 0)) Ze))
  (Zg (ZL (MW.mt (ZcF (ZH (Zb 4)) (Zac (ZH (Zh zd50 hr (by decide) (Za (Zb 0) (Za (Zb 1) Zf))))))) (Zj (Z0 (Zh zd48 hr (by decide) (Za (Zb 0) (Za (Zb 1) Zf))))) Zz)
  (Zj (ZL (MW.mt (ZcF (ZH (Zb 5)) (Zac (ZD (zW hr.units) (Zr (Zv ⟨g.k_End,g.zn23⟩) (Zb 0)) Ze)))) (Zj (ZA (Zv ⟨g.k_End,g.zn20⟩) (Zb 0) Ze)) Zz))))))))
theorem Zyl (D:Zn K mg "goes_on_behind_answer" Zkz Zph) (g:Glb K mg) (zd51:Zo P w K mg base 4 "end_what_is_acknowledged" ZT) (zd47:Zo P w K mg base 5 "has_answered_syn" zw) (zd49:Zo P w K mg base 4 "hear_answer" zV) (zd6:Zo P w K mg base 2 "past" Zcl):Zo P w K mg base 6 "goes_on_behind_answer" Z2:=
  ZW D Zzk 3 3 rfl rfl fun f cdv A outer s H E hr=>(Zg (ZL (ZD (zW hr.units) (Zr (Zv ⟨g.k_End,g.zn16⟩) (Zb 0)) (ZG g.zc36)) (Zj (Zw (Zh zd47 hr (by decide) (Za (Zb 0) (Za (Zb 1) Zf))))) Zz)
  (Zg (ZL (ZH (Zh zd6 hr (by decide) (Za (Zx Zy (Zb 1) (Zm g.zc1)) (Za (Zr (Zv ⟨g.k_End,g.zn8⟩) (Zb 0)) Zf)))) (Zg (ZA (Zv ⟨g.k_End,g.zn11⟩) (Zb 0) zN)
    (Zj (Zw zN))) Zz)
  (Zg (Z0 (Zh zd49 hr (by decide) (Za (Zb 0) (Za (Zb 1) (Za (Zb 2) Zf)))))
  (Zg (Z0 (Zh zd51 hr (by decide) (Za (Zb 0) (Za (Zb 2) Zf))))
  (Zj (Zw (zH (ZdH hr.units) (Zr (Zv ⟨g.k_End,g.zn16⟩) (Zb 0)) (ZG g.zc2))))))))
theorem Zym (D:Zn K mg "hear_reset" ZkA Zpi) (g:Glb K mg) :Zo P w K mg base 1 "hear_reset" Zbt:=
  ZW D Zzl 2 2 rfl rfl fun f cdv A outer s H E hr=>(Zg (ZL (ZD (zW hr.units) (Zr (Zv ⟨g.k_End,g.zn16⟩) (Zb 0)) (ZG g.zc39)) (Zj Zeo) Zz)
  (Zj (ZL (ZD (zW hr.units) (Zx Zy (Zb 1) (Zm g.zc24)) (Zr (Zv ⟨g.k_End,g.zn14⟩) (Zb 0))) (Zg (ZA (Zv ⟨g.k_End,g.zn16⟩) (Zb 0) (ZG g.zc2))
    (Zj (ZA (Zv ⟨g.k_End,g.zn4⟩) (Zb 0) (ZG g.zc28)))) (Zj (ZA (Zv ⟨g.k_End,g.zn11⟩) (Zb 0) zN)))))
theorem Zyc (D:Zn K mg "draw_in_order" Zkq Zo8) (g:Glb K mg) (zd2:Zo P w K mg base 2 "lay" Zf7) (zd4:Zo P w K mg base 1 "plus" zv):Zo P w K mg base 3 "draw_in_order" Za2:=
  ZW D zc55 1 2 rfl rfl fun f cdv A outer s H E hr=>(Zg (ZgN 1 zc55.nd Zf)
  (Zg (Zh3 200 PassesOwn.never (MW.mt (Zcr (ZD (ZdH hr.units) (Zr (Zv ⟨g.k_End,g.zn14⟩) (Zb 0)) (Zr (Zv ⟨g.k_End,g.zn3⟩) (Zb 0))) (Zar (ZuZ hr (Zr (Zv ⟨g.k_End,g.zn14⟩) (Zb 0)) (Zr (Zv ⟨g.k_End,g.zn2⟩) (Zb 0)))))) (Zg (ZgP 1 (Znr (Zr (Zv ⟨g.k_End,g.zn2⟩) (Zb 0)) (Zr (Zv ⟨g.k_End,g.zn14⟩) (Zb 0)) ⟨rfl,rfl,rfl,rfl⟩) (hpe:=fun h=>ZqD PySem.F.plainAttrs_list PySem.F.slot_list_append PySem.F.type_list_append ZgM h (Zf6 (Znr (Zr (Zv ⟨g.k_End,g.zn2⟩) (Zb 0)) (Zr (Zv ⟨g.k_End,g.zn14⟩) (Zb 0)) ⟨rfl,rfl,rfl,rfl⟩) ZhX)))
    (Zj (ZA (Zv ⟨g.k_End,g.zn14⟩) (Zb 0) (Zh zd4 hr (by decide) (Za (Zr (Zv ⟨g.k_End,g.zn14⟩) (Zb 0)) (Za Ze Zf)))))))
  (Zj (ZdX 1 (Z0 (Zh zd2 hr (by decide) (Za (Zr (Zv ⟨g.k_End,g.zn1⟩) (Zb 0)) (Za (Zb 1) Zf))))))))
theorem Zyb (D:Zn K mg "hear_fin" Zkp Zo7) (g:Glb K mg) (zd4:Zo P w K mg base 1 "plus" zv):Zo P w K mg base 2 "hear_fin" Zco:=
  ZW D Zze 2 2 rfl rfl fun f cdv A outer s H E hr=>(Zg (ZA (Zv ⟨g.k_End,g.zn14⟩) (Zb 0) (Zh zd4 hr (by decide) (Za (Zr (Zv ⟨g.k_End,g.zn14⟩) (Zb 0)) (Za Ze Zf))))
  (Zj (ZL (ZD (zW hr.units) (Zr (Zv ⟨g.k_End,g.zn16⟩) (Zb 0)) (ZG g.zc25)) (Zj (ZA (Zv ⟨g.k_End,g.zn16⟩) (Zb 0) (ZG g.zc3))) (Zj (ZL (ZD (zW hr.units) (Zr (Zv ⟨g.k_End,g.zn16⟩) (Zb 0)) (ZG g.zc40)) (Zj (ZA (Zv ⟨g.k_End,g.zn16⟩) (Zb 0) (ZG g.zc4))) (Zg (ZA (Zv ⟨g.k_End,g.zn16⟩) (Zb 0) (ZG g.zc39))
      (Zj (ZA (Zv ⟨g.k_End,g.zn15⟩) (Zb 0) (Zb 1)))))))))
theorem Zye (D:Zn K mg "keep_data" Zks Zpa) (g:Glb K mg) (zd43:Zo P w K mg base 3 "is_in_window" zq) (zd4:Zo P w K mg base 1 "plus" zv):Zo P w K mg base 4 "keep_data" ZbZ:=
  ZW D zc53 2 5 rfl rfl fun f cdv A outer s H E hr=>(Zg (ZsJ 2 3 zc53.nd PassesOwn.never g.b_enumerate (Za (Zx Zy (Zb 1) (Zm g.zc5)) Zf) (Zg (ZC 4 zc53.nd (Zh zd4 hr (by decide) (Za (Zx Zy (Zb 1) (Zm g.zc24)) (Za (Zb 2) Zf))))
    (Zj (ZL (ZH (Zh zd43 hr (by decide) (Za (Zb 0) (Za (Zb 4) Zf)))) (Zj (Z0 (Zq0 (Zr (Zv ⟨g.k_End,g.zn2⟩) (Zb 0)) (Zb 4) (Zb 3) ⟨rfl,rfl,rfl,rfl⟩))) Zz))))
  (Zj (ZL (ZD Zga (zj ZeJ g.b_len PySem.boot_len (Za (Zx Zy (Zb 1) (Zm g.zc5)) Zf)) Ze) (Zj (ZA (Zv ⟨g.k_End,g.zn11⟩) (Zb 0) zN)) Zz)))
theorem Zyd (D:Zn K mg "keep_fin" Zkr Zo9) (g:Glb K mg) (zd17:Zo P w K mg base 2 "bears" Z6) (zd43:Zo P w K mg base 3 "is_in_window" zq) (zd4:Zo P w K mg base 1 "plus" zv):Zo P w K mg base 4 "keep_fin" Zcn:=
  ZW D zc54 2 3 rfl rfl fun f cdv A outer s H E hr=>(Zg (ZL (Zbn (ZH (Zh zd17 hr (by decide) (Za (Zb 1) (Za (Zm g.zc6) Zf))))) (Zj Zeo) Zz)
  (Zg (ZA (Zv ⟨g.k_End,g.zn11⟩) (Zb 0) zN)
  (Zg (ZC 2 zc54.nd (Zh zd4 hr (by decide) (Za (Zx Zy (Zb 1) (Zm g.zc24)) (Za (zj ZeJ g.b_len PySem.boot_len (Za (Zx Zy (Zb 1) (Zm g.zc5)) Zf)) Zf))))
  (Zj (ZL (MW.mt (Zcr (ZD ZqL (Zr (Zv ⟨g.k_End,g.zn3⟩) (Zb 0)) ZaK) (Zar (ZH (Zh zd43 hr (by decide) (Za (Zb 0) (Za (Zb 2) Zf))))))) (Zj (ZA (Zv ⟨g.k_End,g.zn3⟩) (Zb 0) (Zb 2))) Zz)))))
theorem Zyf (D:Zn K mg "hear_stream" Zkt Zpb) (g:Glb K mg) (zd55:Zo P w K mg base 3 "draw_in_order" Za2) (zd56:Zo P w K mg base 2 "hear_fin" Zco) (zd53:Zo P w K mg base 4 "keep_data" ZbZ) (zd54:Zo P w K mg base 4 "keep_fin" Zcn):Zo P w K mg base 5 "hear_stream" ZaJ:=
  ZW D Zzf 3 3 rfl rfl fun f cdv A outer s H E hr=>(Zg (ZL (ZD ZhA (Zr (Zv ⟨g.k_End,g.zn16⟩) (Zb 0)) (ZZ (Za (ZG g.zc25) (Za (ZG g.zc40) (Za (ZG g.zc41) Zf)))) (by with_unfolding_all rfl)) (Zj Zeo) Zz)
  (Zg (Z0 (Zh zd53 hr (by decide) (Za (Zb 0) (Za (Zb 1) Zf))))
  (Zg (Z0 (Zh zd54 hr (by decide) (Za (Zb 0) (Za (Zb 1) Zf))))
  (Zg (Z0 (Zh zd55 hr (by decide) (Za (Zb 0) Zf)))
  (Zj (ZL (ZD (zW hr.units) (Zr (Zv ⟨g.k_End,g.zn14⟩) (Zb 0)) (Zr (Zv ⟨g.k_End,g.zn3⟩) (Zb 0))) (Zj (Z0 (Zh zd56 hr (by decide) (Za (Zb 0) (Za (Zb 2) Zf))))) Zz))))))
theorem Zyn (D:Zn K mg "turn_away" ZkB Zpj) (g:Glb K mg) (zd17:Zo P w K mg base 2 "bears" Z6):Zo P w K mg base 3 "turn_away" Zbk:=
  ZW D Zzm 3 3 rfl rfl fun f cdv A outer s H E hr=>(Zg (ZL (ZH (Zh zd17 hr (by decide) (Za (Zb 1) (Za (Zm g.zc32) Zf)))) (Zj Zeo) Zz)
  (Zg (ZL (MW.mt (Zcr (ZD (zW hr.units) (Zr (Zv ⟨g.k_End,g.zn16⟩) (Zb 0)) (ZG g.zc36)) (Zcr (ZH (Zh zd17 hr (by decide) (Za (Zb 1) (Za (Zm g.zc35) Zf)))) (Zar (Zbn (ZH (Zh zd17 hr (by decide) (Za (Zb 1) (Za (Zm g.zc0) Zf))))))))) (Zj (ZA (Zv ⟨g.k_End,g.zn12⟩) (Zb 0) zN)) (Zj (ZA (Zv ⟨g.k_End,g.zn11⟩) (Zb 0) zN)))
  (Zj (ZL (ZD (zW hr.units) (Zr (Zv ⟨g.k_End,g.zn16⟩) (Zb 0)) (ZG g.zc39)) (Zj (ZA (Zv ⟨g.k_End,g.zn15⟩) (Zb 0) (Zb 2))) Zz))))
theorem Zyq (D:Zn K mg "come_to_stream" ZkE Zpm) (g:Glb K mg) (zd17:Zo P w K mg base 2 "bears" Z6) (zd42:Zo P w K mg base 4 "fits" ZgI) (zd46:Zo P w K mg base 6 "goes_on_behind_answer" Z2) (zd45:Zo P w K mg base 1 "hear_reset" Zbt) (zd52:Zo P w K mg base 5 "hear_stream" ZaJ) (zd44:Zo P w K mg base 3 "turn_away" Zbk):Zo P w K mg base 7 "come_to_stream" ze:=
  ZW D zc41 3 3 rfl rfl fun f cdv A outer s H E hr=>(Zj (ZL (Zbn (ZH (Zh zd42 hr (by decide) (Za (Zb 0) (Za (Zb 1) Zf))))) (Zj (Z0 (Zh zd44 hr (by decide) (Za (Zb 0) (Za (Zb 1) (Za (Zb 2) Zf)))))) (Zj (ZL (ZH (Zh zd17 hr (by decide) (Za (Zb 1) (Za (Zm g.zc32) Zf)))) (Zj (Z0 (Zh zd45 hr (by decide) (Za (Zb 0) (Za (Zb 1) Zf))))) (Zj (ZL (ZH (Zh zd17 hr (by decide) (Za (Zb 1) (Za (Zm g.zc35) Zf)))) (Zj (ZA (Zv ⟨g.k_End,g.zn11⟩) (Zb 0) zN)) (Zj (ZL (MW.mt (Zcr (ZH (Zh zd17 hr (by decide) (Za (Zb 1) (Za (Zm g.zc0) Zf)))) (Zar (ZH (Zh zd46 hr (by decide) (Za (Zb 0) (Za (Zb 1) (Za (Zb 2) Zf)))))))) (Zj (Z0 (Zh zd52 hr (by decide) (Za (Zb 0) (Za (Zb 1) (Za (Zb 2) Zf)))))) Zz))))))))
theorem Zyr (D:Zn K mg "is_for" ZkF Zpn) (g:Glb K mg) :Zo P w K mg base 1 "is_for" ZeY:=
  ZW D zc40 2 2 rfl rfl fun f cdv A outer s H E hr=>(Zj (Zw (ZbU (zH (zW hr.units) (Zx Zy (Zb 1) (Zm g.zc9)) (Zr (Zv ⟨g.k_End,g.zn9⟩) (Zb 0))) (ZcO (ZlJ (zH ZlC (Zr (Zv ⟨g.k_End,g.zn16⟩) (Zb 0)) (ZZ (Za (ZG g.zc2) (Za (ZG g.zc17) Zf))) (by with_unfolding_all rfl)) (ZcO (zH (zW hr.units) (Zx Zy (Zb 1) (Zm g.zc34)) (Zr (Zv ⟨g.k_End,g.zn17⟩) (Zb 0)))))))))
theorem Zys (D:Zn K mg "arrive" ZkG Zpo) (g:Glb K mg) (zd32:Zo P w K mg base 5 "come_to_closed" ZaQ) (zd33:Zo P w K mg base 5 "come_to_listen" zA) (zd41:Zo P w K mg base 7 "come_to_stream" ze) (zd35:Zo P w K mg base 5 "come_to_syn_sent" ZU) (zd27:Zo P w K mg base 4 "get" ZiY) (zd40:Zo P w K mg base 1 "is_for" ZeY) (zd24:Zo P w K mg base 3 "is_right" Zap):Zo P w K mg base 8 "arrive" zb:=
  ZW D zc39 3 4 rfl rfl fun f cdv A outer s H E hr=>(Zg (ZL (Zbn (ZH (Zh zd24 hr (by decide) (Za (Zb 1) Zf)))) (Zj (Zw zN)) Zz)
  (Zg (ZC 3 zc39.nd (Zh zd27 hr (by decide) (Za (Zb 1) Zf)))
  (Zg (ZL (Zbn (ZH (Zh zd40 hr (by decide) (Za (Zb 0) (Za (Zb 3) Zf))))) (Zj (Zw zN)) Zz)
  (Zg (ZL (ZD (zW hr.units) (Zr (Zv ⟨g.k_End,g.zn16⟩) (Zb 0)) (ZG g.zc2)) (Zj (Z0 (Zh zd32 hr (by decide) (Za (Zb 0) (Za (Zb 3) Zf))))) (Zj (ZL (ZD (zW hr.units) (Zr (Zv ⟨g.k_End,g.zn16⟩) (Zb 0)) (ZG g.zc17)) (Zj (Z0 (Zh zd33 hr (by decide) (Za (Zb 0) (Za (Zb 3) Zf))))) (Zj (ZL (ZD (zW hr.units) (Zr (Zv ⟨g.k_End,g.zn16⟩) (Zb 0)) (ZG g.zc37)) (Zj (Z0 (Zh zd35 hr (by decide) (Za (Zb 0) (Za (Zb 3) (Za (Zb 2) Zf)))))) (Zj (Z0 (Zh zd41 hr (by decide) (Za (Zb 0) (Za (Zb 3) (Za (Zb 2) Zf)))))))))))
  (Zj (Zw zN))))))
theorem Zya (D:Zn K mg "opened" Zko Zo6) (g:Glb K mg) (zd7:MMk P w K mg base 3 "End" Zcp):Zo P w K mg base 5 "opened" ZcC:=
  ZW D Zzd 4 4 rfl rfl fun f cdv A outer s H E hr=>(Zj (Zw (ZsK zd7 hr (by decide) (Za (Zb 0) (Za (Zb 1) (Za (Zb 2) (Za (Zb 3) Zf)))))))
theorem Zx9 (D:Zn K mg "write" Zkn Zo5) (g:Glb K mg) (zd2:Zo P w K mg base 2 "lay" Zf7) (zd4:Zo P w K mg base 1 "plus" zv):Zo P w K mg base 3 "write" Zcv:=
  ZW D zc58 2 3 rfl rfl fun f cdv A outer s H E hr=>(Zg (ZL (MW.mt (ZcF (ZH (Zr (Zv ⟨g.k_End,g.zn6⟩) (Zb 0))) (Zac (ZD ZhA (Zr (Zv ⟨g.k_End,g.zn16⟩) (Zb 0)) (ZZ (Za (ZG g.zc37) (Za (ZG g.zc36) (Za (ZG g.zc25) (Za (ZG g.zc3) Zf))))) (by with_unfolding_all rfl))))) (Zj (Zw Ze)) Zz)
  (Zg (ZC 2 zc58.nd (Zh zd2 hr (by decide) (Za (Zr (Zv ⟨g.k_End,g.zn24⟩) (Zb 0)) (Za (Zb 1) Zf))))
  (Zg (ZA (Zv ⟨g.k_End,g.zn0⟩) (Zb 0) (Zh zd4 hr (by decide) (Za (Zr (Zv ⟨g.k_End,g.zn0⟩) (Zb 0)) (Za (Zb 2) Zf))))
  (Zj (Zw (Zb 2))))))
theorem Zx8 (D:Zn K mg "read" Zkm Zo4) (g:Glb K mg) (zd11:Zo P w K mg base 2 "our_window" zU) (zd3:Zo P w K mg base 1 "take" Zck):Zo P w K mg base 3 "read" Zdc:=
  ZW D zc59 2 4 rfl rfl fun f cdv A outer s H E hr=>(Zg (ZC 2 zc59.nd (zH (zW hr.units) (Zh zd11 hr (by decide) (Za (Zb 0) Zf)) Ze))
  (Zg (ZC 3 zc59.nd (Zh zd3 hr (by decide) (Za (Zr (Zv ⟨g.k_End,g.zn1⟩) (Zb 0)) (Za (Zb 1) Zf))))
  (Zg (ZL (MW.mt (Zcr (ZH (Zb 2)) (Zcr (ZD Zga (Zh zd11 hr (by decide) (Za (Zb 0) Zf)) Ze) (Zar (ZD ZlC (Zr (Zv ⟨g.k_End,g.zn16⟩) (Zb 0)) (ZZ (Za (ZG g.zc25) (Za (ZG g.zc40) (Za (ZG g.zc41) Zf)))) (by with_unfolding_all rfl)))))) (Zj (ZA (Zv ⟨g.k_End,g.zn11⟩) (Zb 0) zN)) Zz)
  (Zj (Zw (Zb 3))))))
theorem Zx2 (D:Zn K mg "most_at_once" Zkg ZoY) (g:Glb K mg) :Zo P w K mg base 1 "most_at_once" Zao:=
  ZW D Zzb 1 1 rfl rfl fun f cdv A outer s H E hr=>(Zj (Zw (zj ZnD g.b_min PyProof.Rows.boot_min (Za (Zr (Zv ⟨g.k_End,g.zn7⟩) (Zb 0)) (Za (Zm g.zc10) Zf)))))
theorem Zx1 (D:Zn K mg "paid_syn" Zkf ZoX) (g:Glb K mg) :Zo P w K mg base 1 "paid_syn" ZbR:=
  ZW D Zza 1 1 rfl rfl fun f cdv A outer s H E hr=>(Zg (ZA (Zv ⟨g.k_End,g.zn12⟩) (Zb 0) zN)
  (Zg (ZL (ZD (zW hr.units) (Zr (Zv ⟨g.k_End,g.zn16⟩) (Zb 0)) (ZG g.zc37)) (Zj (Zw (ZZ (Za (Zr (Zv ⟨g.k_End,g.zn9⟩) (Zb 0)) (Za (Zr (Zv ⟨g.k_End,g.zn17⟩) (Zb 0)) (Za (Zr (Zv ⟨g.k_End,g.zn5⟩) (Zb 0)) (Za Ze (Za (Zm g.zc35) (Za (Zm g.zc30) (Za (Zm g.zc10) (Za (ZZ Zf) Zf))))))))))) Zz)
  (Zj (Zw (ZZ (Za (Zr (Zv ⟨g.k_End,g.zn9⟩) (Zb 0)) (Za (Zr (Zv ⟨g.k_End,g.zn17⟩) (Zb 0)) (Za (Zr (Zv ⟨g.k_End,g.zn5⟩) (Zb 0)) (Za (Zr (Zv ⟨g.k_End,g.zn14⟩) (Zb 0)) (Za (Zl ZE (Zm g.zc35) (Zm g.zc0)) (Za (Zm g.zc30) (Za (Zm g.zc10) (Za (ZZ Zf) Zf)))))))))))))
theorem Zx0 (D:Zn K mg "segment_of" Zke ZoW) (g:Glb K mg) (zd11:Zo P w K mg base 2 "our_window" zU):Zo P w K mg base 3 "segment_of" zF:=
  ZW D Zy9 4 4 rfl rfl fun f cdv A outer s H E hr=>(Zj (Zw (ZZ (Za (Zr (Zv ⟨g.k_End,g.zn9⟩) (Zb 0)) (Za (Zr (Zv ⟨g.k_End,g.zn17⟩) (Zb 0)) (Za (Zb 1) (Za (Zr (Zv ⟨g.k_End,g.zn14⟩) (Zb 0)) (Za (Zl ZE (Zb 2) (Zm g.zc0)) (Za (Zh zd11 hr (by decide) (Za (Zb 0) Zf)) (Za Ze (Za (Za8 ZhI g.b_tuple PyProof.Rows.boot_tuple (Za (Zb 3) Zf)) Zf)))))))))))
theorem Zx3 (D:Zn K mg "again" Zkh ZoZ) (g:Glb K mg) (zd65:Zo P w K mg base 1 "most_at_once" Zao) (zd5:Zo P w K mg base 1 "offset" zG) (zd66:Zo P w K mg base 1 "paid_syn" ZbR) (zd67:Zo P w K mg base 3 "segment_of" zF):Zo P w K mg base 4 "again" Zdw:=
  ZW D zc64 2 3 rfl rfl fun f cdv A outer s H E hr=>(Zg (ZL (ZD (zW hr.units) (Zr (Zv ⟨g.k_End,g.zn20⟩) (Zb 0)) (Zm g.zc21)) (Zg (ZA (Zv ⟨g.k_End,g.zn16⟩) (Zb 0) (ZG g.zc2))
    (Zg (ZA (Zv ⟨g.k_End,g.zn4⟩) (Zb 0) (ZG g.zc38))
    (Zj (Zw ZaK)))) Zz)
  (Zg (ZA (Zv ⟨g.k_End,g.zn20⟩) (Zb 0) (Zl ZE (Zr (Zv ⟨g.k_End,g.zn20⟩) (Zb 0)) Ze))
  (Zg (ZA (Zv ⟨g.k_End,g.zn22⟩) (Zb 0) (zj ZnD g.b_min PyProof.Rows.boot_min (Za (Zl ZbK Ze (Zr (Zv ⟨g.k_End,g.zn22⟩) (Zb 0))) (Za (Zm g.zc18) Zf))))
  (Zg (ZA (Zv ⟨g.k_End,g.zn15⟩) (Zb 0) (Zb 1))
  (Zg (ZL (ZD ZlC (Zr (Zv ⟨g.k_End,g.zn16⟩) (Zb 0)) (ZZ (Za (ZG g.zc37) (Za (ZG g.zc36) Zf))) (by with_unfolding_all rfl)) (Zj (Zw (Zh zd66 hr (by decide) (Za (Zb 0) Zf)))) Zz)
  (Zg (ZC 2 zc64.nd (zt (Zr (Zv ⟨g.k_Pile,g.zn25⟩) (Zr (Zv ⟨g.k_End,g.zn24⟩) (Zb 0))) Zad (zi (zj ZnD g.b_min PyProof.Rows.boot_min (Za (Zh zd5 hr (by decide) (Za (Zr (Zv ⟨g.k_End,g.zn8⟩) (Zb 0)) (Za (Zr (Zv ⟨g.k_End,g.zn21⟩) (Zb 0)) Zf))) (Za (Zh zd65 hr (by decide) (Za (Zb 0) Zf)) Zf))))))
  (Zj (Zw (Zh zd67 hr (by decide) (Za (Zb 0) (Za (Zr (Zv ⟨g.k_End,g.zn21⟩) (Zb 0)) (Za (ZcP (ZD Zga (zj ZeJ g.b_len PySem.boot_len (Za (Zb 2) Zf)) Ze) Ze (Zm g.zc6)) (Za (Zb 2) Zf)))))))))))))
theorem ZxP (D:Zn K mg "going_as_answer" Zj3 ZoL) (g:Glb K mg) (zd67:Zo P w K mg base 3 "segment_of" zF):Zo P w K mg base 4 "going_as_answer" Zab:=
  ZW D Zy1 1 1 rfl rfl fun f cdv A outer s H E hr=>(Zg (ZL (Zbn (ZH (Zr (Zv ⟨g.k_End,g.zn11⟩) (Zb 0)))) (Zj (Zw ZaK)) Zz)
  (Zg (ZA (Zv ⟨g.k_End,g.zn11⟩) (Zb 0) zN)
  (Zj (Zw (Zh zd67 hr (by decide) (Za (Zb 0) (Za (Zr (Zv ⟨g.k_End,g.zn8⟩) (Zb 0)) (Za Ze (Za (z6 Zf) Zf)))))))))
theorem ZxV (D:Zn K mg "unsent" Zj9 ZoR) (g:Glb K mg) (zd5:Zo P w K mg base 1 "offset" zG):Zo P w K mg base 2 "unsent" ZbH:=
  ZW D Zy5 1 1 rfl rfl fun f cdv A outer s H E hr=>(Zj (Zw (Zh zd5 hr (by decide) (Za (Zr (Zv ⟨g.k_End,g.zn0⟩) (Zb 0)) (Za (Zr (Zv ⟨g.k_End,g.zn8⟩) (Zb 0)) Zf)))))
theorem ZxW (D:Zn K mg "has_new_data" Zka ZoS) (g:Glb K mg) (zd72:Zo P w K mg base 2 "unsent" ZbH):Zo P w K mg base 3 "has_new_data" Zaq:=
  ZW D Zy6 1 1 rfl rfl fun f cdv A outer s H E hr=>(Zj (Zw (ZbU (zH ZlC (Zr (Zv ⟨g.k_End,g.zn16⟩) (Zb 0)) (ZZ (Za (ZG g.zc25) (Za (ZG g.zc40) (Za (ZG g.zc3) (Za (ZG g.zc4) (Za (ZG g.zc14) Zf)))))) (by with_unfolding_all rfl)) (ZcO (zH Zga (Zh zd72 hr (by decide) (Za (Zb 0) Zf)) Ze)))))
theorem ZxU (D:Zn K mg "has_new_fin" Zj8 ZoQ) (g:Glb K mg) (zd72:Zo P w K mg base 2 "unsent" ZbH):Zo P w K mg base 3 "has_new_fin" ZbI:=
  ZW D Zy4 1 1 rfl rfl fun f cdv A outer s H E hr=>(Zj (Zw (ZbU (zH ZlC (Zr (Zv ⟨g.k_End,g.zn16⟩) (Zb 0)) (ZZ (Za (ZG g.zc40) (Za (ZG g.zc4) (Za (ZG g.zc14) Zf)))) (by with_unfolding_all rfl)) (ZcO (zH (zW hr.units) (Zh zd72 hr (by decide) (Za (Zb 0) Zf)) Ze)))))
theorem ZxX (D:Zn K mg "has_more" Zkb ZoT) (g:Glb K mg) (zd71:Zo P w K mg base 3 "has_new_data" Zaq) (zd73:Zo P w K mg base 3 "has_new_fin" ZbI):Zo P w K mg base 4 "has_more" ZbT:=
  ZW D Zy7 1 1 rfl rfl fun f cdv A outer s H E hr=>(Zj (Zw (ZlJ (Zh zd71 hr (by decide) (Za (Zb 0) Zf)) (ZcO (Zh zd73 hr (by decide) (Za (Zb 0) Zf))))))
theorem ZxS (D:Zn K mg "new_data" Zj6 ZoO) (g:Glb K mg) (zd65:Zo P w K mg base 1 "most_at_once" Zao) (zd5:Zo P w K mg base 1 "offset" zG) (zd4:Zo P w K mg base 1 "plus" zv) (zd67:Zo P w K mg base 3 "segment_of" zF) (zd72:Zo P w K mg base 2 "unsent" ZbH):Zo P w K mg base 4 "new_data" Zcm:=
  ZW D zc75 2 5 rfl rfl fun f cdv A outer s H E hr=>(Zg (ZC 2 zc75.nd (Zr (Zv ⟨g.k_End,g.zn8⟩) (Zb 0)))
  (Zg (ZC 3 zc75.nd (zj ZnD g.b_min PyProof.Rows.boot_min (Za (Zh zd65 hr (by decide) (Za (Zb 0) Zf)) (Za (Zh zd72 hr (by decide) (Za (Zb 0) Zf)) (Za (Zb 1) Zf)))))
  (Zg (ZC 4 zc75.nd (Zh zd5 hr (by decide) (Za (Zb 2) (Za (Zr (Zv ⟨g.k_End,g.zn21⟩) (Zb 0)) Zf))))
  (Zg (ZA (Zv ⟨g.k_End,g.zn8⟩) (Zb 0) (Zh zd4 hr (by decide) (Za (Zb 2) (Za (Zb 3) Zf))))
  (Zj (Zw (Zh zd67 hr (by decide) (Za (Zb 0) (Za (Zb 2) (Za (ZcP (ZD (zW hr.units) (Zh zd72 hr (by decide) (Za (Zb 0) Zf)) Ze) (Zm g.zc26) Ze) (Za (zt (Zr (Zv ⟨g.k_Pile,g.zn25⟩) (Zr (Zv ⟨g.k_End,g.zn24⟩) (Zb 0))) (zi (Zb 4)) (zi (Zl ZE (Zb 4) (Zb 3)))) Zf)))))))))))
theorem ZxR (D:Zn K mg "new_fin" Zj5 ZoN) (g:Glb K mg) (zd4:Zo P w K mg base 1 "plus" zv) (zd67:Zo P w K mg base 3 "segment_of" zF):Zo P w K mg base 4 "new_fin" ZdV:=
  ZW D zc76 1 2 rfl rfl fun f cdv A outer s H E hr=>(Zg (ZC 1 zc76.nd (Zr (Zv ⟨g.k_End,g.zn8⟩) (Zb 0)))
  (Zg (ZA (Zv ⟨g.k_End,g.zn8⟩) (Zb 0) (Zh zd4 hr (by decide) (Za (Zb 1) (Za Ze Zf))))
  (Zj (Zw (Zh zd67 hr (by decide) (Za (Zb 0) (Za (Zb 1) (Za (Zm g.zc6) (Za (z6 Zf) Zf)))))))))
theorem ZxT (D:Zn K mg "new_piece" Zj7 ZoP) (g:Glb K mg) (zd71:Zo P w K mg base 3 "has_new_data" Zaq) (zd75:Zo P w K mg base 4 "new_data" Zcm) (zd76:Zo P w K mg base 4 "new_fin" ZdV):Zo P w K mg base 5 "new_piece" ZaX:=
  ZW D Zy3 2 2 rfl rfl fun f cdv A outer s H E hr=>(Zg (ZA (Zv ⟨g.k_End,g.zn13⟩) (Zb 0) zN)
  (Zj (Zw (ZcP (ZH (Zh zd71 hr (by decide) (Za (Zb 0) Zf))) (Zh zd75 hr (by decide) (Za (Zb 0) (Za (Zb 1) Zf))) (Zh zd76 hr (by decide) (Za (Zb 0) Zf))))))
theorem ZxY (D:Zn K mg "new_syn" Zkc ZoU) (g:Glb K mg) (zd66:Zo P w K mg base 1 "paid_syn" ZbR) (zd4:Zo P w K mg base 1 "plus" zv) (zd8:Zo P w K mg base 1 "start_timer" zc):Zo P w K mg base 2 "new_syn" Zc6:=
  ZW D Zy8 2 2 rfl rfl fun f cdv A outer s H E hr=>(Zg (ZL (ZD (zW hr.units) (Zr (Zv ⟨g.k_End,g.zn8⟩) (Zb 0)) (Zr (Zv ⟨g.k_End,g.zn21⟩) (Zb 0))) (Zj (Z0 (Zh zd8 hr (by decide) (Za (Zb 0) (Za (Zb 1) Zf))))) Zz)
  (Zg (ZA (Zv ⟨g.k_End,g.zn8⟩) (Zb 0) (Zh zd4 hr (by decide) (Za (Zr (Zv ⟨g.k_End,g.zn5⟩) (Zb 0)) (Za Ze Zf))))
  (Zj (Zw (Zh zd66 hr (by decide) (Za (Zb 0) Zf))))))
theorem ZxZ (D:Zn K mg "going_as_new" Zkd ZoV) (g:Glb K mg) (zd70:Zo P w K mg base 4 "has_more" ZbT) (zd74:Zo P w K mg base 5 "new_piece" ZaX) (zd69:Zo P w K mg base 2 "new_syn" Zc6) (zd5:Zo P w K mg base 1 "offset" zG) (zd8:Zo P w K mg base 1 "start_timer" zc):Zo P w K mg base 6 "going_as_new" za:=
  ZW D zc68 2 3 rfl rfl fun f cdv A outer s H E hr=>(Zg (ZL (ZD ZlC (Zr (Zv ⟨g.k_End,g.zn16⟩) (Zb 0)) (ZZ (Za (ZG g.zc37) (Za (ZG g.zc36) Zf))) (by with_unfolding_all rfl)) (Zj (Zw (ZcP (MW.mt (ZcF (ZD (zW hr.units) (Zr (Zv ⟨g.k_End,g.zn8⟩) (Zb 0)) (Zr (Zv ⟨g.k_End,g.zn5⟩) (Zb 0))) (Zac (ZH (Zr (Zv ⟨g.k_End,g.zn12⟩) (Zb 0)))))) (Zh zd69 hr (by decide) (Za (Zb 0) (Za (Zb 1) Zf))) ZaK))) Zz)
  (Zg (ZC 2 zc68.nd (Zl ZdW (Zr (Zv ⟨g.k_End,g.zn23⟩) (Zb 0)) (Zh zd5 hr (by decide) (Za (Zr (Zv ⟨g.k_End,g.zn8⟩) (Zb 0)) (Za (Zr (Zv ⟨g.k_End,g.zn21⟩) (Zb 0)) Zf)))))
  (Zg (ZL (MW.mt (ZcF (ZD Zh1 (Zb 2) Ze) (Zac (Zbn (ZH (Zh zd70 hr (by decide) (Za (Zb 0) Zf))))))) (Zj (Zw ZaK)) Zz)
  (Zg (ZL (ZD (zW hr.units) (Zr (Zv ⟨g.k_End,g.zn8⟩) (Zb 0)) (Zr (Zv ⟨g.k_End,g.zn21⟩) (Zb 0))) (Zj (Z0 (Zh zd8 hr (by decide) (Za (Zb 0) (Za (Zb 1) Zf))))) Zz)
  (Zg (ZA (Zv ⟨g.k_End,g.zn11⟩) (Zb 0) zN)
  (Zj (Zw (Zh zd74 hr (by decide) (Za (Zb 0) (Za (Zb 2) Zf))))))))))
theorem Zx4 (D:Zn K mg "is_due" Zki Zo0) (g:Glb K mg) :Zo P w K mg base 1 "is_due" Zde:=
  ZW D Zzc 2 2 rfl rfl fun f cdv A outer s H E hr=>(Zj (Zw (zH ZsC (Zl ZdW (Zb 1) (Zr (Zv ⟨g.k_End,g.zn15⟩) (Zb 0))) (Zr (Zv ⟨g.k_End,g.zn22⟩) (Zb 0)))))
theorem ZxQ (D:Zn K mg "going_as_probe" Zj4 ZoM) (g:Glb K mg) (zd70:Zo P w K mg base 4 "has_more" ZbT) (zd63:Zo P w K mg base 1 "is_due" Zde) (zd74:Zo P w K mg base 5 "new_piece" ZaX) (zd8:Zo P w K mg base 1 "start_timer" zc):Zo P w K mg base 6 "going_as_probe" zd:=
  ZW D Zy2 2 2 rfl rfl fun f cdv A outer s H E hr=>(Zg (ZL (MW.mt (ZcF (ZD (ZdH hr.units) (Zr (Zv ⟨g.k_End,g.zn8⟩) (Zb 0)) (Zr (Zv ⟨g.k_End,g.zn21⟩) (Zb 0))) (ZcF (ZD (ZdH hr.units) (Zr (Zv ⟨g.k_End,g.zn23⟩) (Zb 0)) Ze) (Zac (Zbn (ZH (Zh zd70 hr (by decide) (Za (Zb 0) Zf)))))))) (Zg (ZA (Zv ⟨g.k_End,g.zn13⟩) (Zb 0) zN)
    (Zj (Zw ZaK))) Zz)
  (Zg (ZL (Zbn (ZH (Zr (Zv ⟨g.k_End,g.zn13⟩) (Zb 0)))) (Zg (ZA (Zv ⟨g.k_End,g.zn13⟩) (Zb 0) zN)
    (Zj (Z0 (Zh zd8 hr (by decide) (Za (Zb 0) (Za (Zb 1) Zf)))))) Zz)
  (Zg (ZL (Zbn (ZH (Zh zd63 hr (by decide) (Za (Zb 0) (Za (Zb 1) Zf))))) (Zj (Zw ZaK)) Zz)
  (Zg (ZA (Zv ⟨g.k_End,g.zn15⟩) (Zb 0) (Zb 1))
  (Zj (Zw (Zh zd74 hr (by decide) (Za (Zb 0) (Za Ze Zf)))))))))
theorem Zx5 (D:Zn K mg "paid_reset" Zkj Zo1) (g:Glb K mg) :Zo P w K mg base 1 "paid_reset" ZcZ:=
  ZW D zc62 1 2 rfl rfl fun f cdv A outer s H E hr=>(Zg (ZC 1 zc62.nd (Zr (Zv ⟨g.k_End,g.zn10⟩) (Zb 0)))
  (Zg (ZA (Zv ⟨g.k_End,g.zn10⟩) (Zb 0) ZaK)
  (Zj (Zw (Zb 1)))))
theorem Zx6 (D:Zn K mg "going" Zkk Zo2) (g:Glb K mg) (zd64:Zo P w K mg base 4 "again" Zdw) (zd78:Zo P w K mg base 4 "going_as_answer" Zab) (zd68:Zo P w K mg base 6 "going_as_new" za) (zd77:Zo P w K mg base 6 "going_as_probe" zd) (zd63:Zo P w K mg base 1 "is_due" Zde) (zd62:Zo P w K mg base 1 "paid_reset" ZcZ):Zo P w K mg base 7 "going" Zem:=
  ZW D zc61 2 3 rfl rfl fun f cdv A outer s H E hr=>(Zg (ZL (ZD Znl (Zr (Zv ⟨g.k_End,g.zn10⟩) (Zb 0)) ZaK) (Zj (Zw (Zh zd62 hr (by decide) (Za (Zb 0) Zf)))) Zz)
  (Zg (ZL (MW.mt (Zcr (ZD (zW hr.units) (Zr (Zv ⟨g.k_End,g.zn16⟩) (Zb 0)) (ZG g.zc39)) (Zar (ZD ZsC (Zl ZdW (Zb 1) (Zr (Zv ⟨g.k_End,g.zn15⟩) (Zb 0))) (Zm g.zc15))))) (Zj (ZA (Zv ⟨g.k_End,g.zn16⟩) (Zb 0) (ZG g.zc2))) Zz)
  (Zg (ZL (ZD ZlC (Zr (Zv ⟨g.k_End,g.zn16⟩) (Zb 0)) (ZZ (Za (ZG g.zc2) (Za (ZG g.zc17) Zf))) (by with_unfolding_all rfl)) (Zj (Zw ZaK)) Zz)
  (Zg (ZL (MW.mt (Zcr (ZD (ZdH hr.units) (Zr (Zv ⟨g.k_End,g.zn8⟩) (Zb 0)) (Zr (Zv ⟨g.k_End,g.zn21⟩) (Zb 0))) (Zar (ZH (Zh zd63 hr (by decide) (Za (Zb 0) (Za (Zb 1) Zf))))))) (Zj (Zw (Zh zd64 hr (by decide) (Za (Zb 0) (Za (Zb 1) Zf))))) Zz)
  (Zg (ZC 2 zc61.nd (Zh zd68 hr (by decide) (Za (Zb 0) (Za (Zb 1) Zf))))
  (Zg (ZL (ZD ZqL (Zb 2) ZaK) (Zj (ZC 2 zc61.nd (Zh zd77 hr (by decide) (Za (Zb 0) (Za (Zb 1) Zf))))) Zz)
  (Zg (ZL (ZD ZqL (Zb 2) ZaK) (Zj (ZC 2 zc61.nd (Zh zd78 hr (by decide) (Za (Zb 0) Zf)))) Zz)
  (Zj (Zw (Zb 2))))))))))
theorem Zx7 (D:Zn K mg "send" Zkl Zo3) (g:Glb K mg) (zd61:Zo P w K mg base 7 "going" Zem) (zd18:Zo P w K mg base 4 "put" Zlx):Zo P w K mg base 8 "send" ZcN:=
  ZW D zc60 2 3 rfl rfl fun f cdv A outer s H E hr=>(Zg (ZC 2 zc60.nd (Zh zd61 hr (by decide) (Za (Zb 0) (Za (Zb 1) Zf))))
  (Zj (Zw (ZcP (ZD ZqL (Zb 2) ZaK) (z6 Zf) (Zh zd18 hr (by decide) (Za (Zb 2) Zf))))))
theorem ZxO (D:Zn K mg "_law_cell" Zj2 ZoK) (g:Glb K mg) :Zo P w K mg base 1 "_law_cell" ZgR:=
  ZW D Zy0 2 2 rfl rfl fun f cdv A outer s H E hr=>(Zg (ZL (ZH (Zb 0)) (Zj (Zw (Zx Zy (Zb 0) (Zl Z9 (Zb 1) (zj ZeJ g.b_len PySem.boot_len (Za (Zb 0) Zf)))))) Zz)
  (Zj (Zw Ze)))
theorem ZxN (D:Zn K mg "_law_mix" Zj1 ZoJ) (g:Glb K mg) (zd79:Zo P w K mg base 1 "_law_cell" ZgR):Zo P w K mg base 2 "_law_mix" zP:=
  ZW D zc80 2 3 rfl rfl fun f cdv A outer s H E hr=>(Zg (ZC 2 zc80.nd (Zl Z9 (Zl ZE (Zh zd79 hr (by decide) (Za (Zb 0) (Za (Zb 1) Zf))) (Zl ZbK Ze (Zl ZE (Zb 1) Ze))) Ze))
  (Zg (ZC 2 zc80.nd (Zl Z9 (Zl ZbK (Zb 2) Ze) Ze))
  (Zj (Zw (Zl Z9 (Zl ZE (Zl ZbK (Zl ZcE (Zb 2) Ze) Ze) (Zb 2)) Ze)))))
theorem ZxM (D:Zn K mg "_law_two" Zj0 ZoI) (g:Glb K mg) :Zo P w K mg base 1 "_law_two" Zbo:=
  ZW D ZyZ 1 1 rfl rfl fun f cdv A outer s H E hr=>(Zj (Zw (z6 (Za (Zl ZcE (Zb 0) Ze) (Za (Zl Z9 (Zb 0) Ze) Zf)))))
theorem ZxL (D:Zn K mg "_law_folded" ZjZ ZoH) (g:Glb K mg) :Zo P w K mg base 1 "_law_folded" Zbp:=
  ZW D zc82 1 3 rfl rfl fun f cdv A outer s H E hr=>(Zg (ZC 1 zc82.nd Ze)
  (Zg (ZgO PassesOwn.never (Zcs g.b_range (Za (zj ZeJ g.b_len PySem.boot_len (Za (Zb 0) Zf)) Zf)) (Zfq 2 zc82.nd) (Zj (ZC 1 zc82.nd (Zl ZE (Zb 1) (Zl ZbK (Zx Zy (Zb 0) (Zb 2)) (Zx Zy (z6 (Za Ze (Za Ze Zf))) (Zl Z9 (Zb 2) Ze)))))))
  (Zg (Zh3 200 PassesOwn.never (ZD Zga (Zb 1) Ze) (Zj (ZC 1 zc82.nd (Zl ZE (Zl Z9 (Zb 1) Ze) (Zl ZcE (Zb 1) Ze)))))
  (Zj (Zw (Zb 1))))))
theorem ZxK (D:Zn K mg "_law_bytes" Zjq ZnN) (g:Glb K mg) (zd82:Zo P w K mg base 1 "_law_folded" Zbp) (zd81:Zo P w K mg base 1 "_law_two" Zbo):Zo P w K mg base 2 "_law_bytes" ZaO:=
  ZW D zc83 1 3 rfl rfl fun f cdv A outer s H E hr=>(Zg (ZC 1 zc83.nd (Zl ZE (Zh zd81 hr (by decide) (Za (Zx Zy (Zb 0) Ze) Zf)) (Zh zd81 hr (by decide) (Za (Zx Zy (Zb 0) Ze) Zf))))
  (Zg (ZgO PassesOwn.never (Zmz (zt (Zb 0) (zi Ze) (zi Ze))) (Zfq 2 zc83.nd) (Zj (ZC 1 zc83.nd (Zl ZE (Zl ZE (Zb 1) (Zh zd81 hr (by decide) (Za (Zl ZcE (Zb 2) Ze) Zf))) (Zh zd81 hr (by decide) (Za (Zl Z9 (Zb 2) Ze) Zf))))))
  (Zg (ZC 1 zc83.nd (Zl ZE (Zl ZE (Zl ZE (Zb 1) (z6 (Za (Zx Zy (z6 (Za Ze (Za Ze Zf))) (Za8 ZtI g.b_int PyProof.Rows.boot_int (Za (zH Zga (Zx Zy (Zb 0) Ze) Ze) Zf))) (Za (Zx Zy (Zb 0) Ze) Zf)))) (Zh zd81 hr (by decide) (Za (Zx Zy (Zb 0) Ze) Zf))) (z6 (Za Ze (Za Ze (Za Ze (Za Ze Zf)))))))
  (Zg (ZL (ZD Zga (Zx Zy (Zb 0) Ze) Ze) (Zj (ZC 1 zc83.nd (Zl ZE (Zl ZE (Zb 1) (z6 (Za Ze (Za Ze Zf)))) (Zh zd81 hr (by decide) (Za (Zx Zy (Zb 0) Ze) Zf))))) Zz)
  (Zg (ZC 1 zc83.nd (Zl ZE (Zb 1) (Za8 ZjM g.b_list PyProof.Rows.boot_list (Za (Zx Zy (Zb 0) Ze) Zf))))
  (Zj (Zw (Zl ZE (Zl ZE (zt (Zb 1) Zad (zi Ze)) (Zh zd81 hr (by decide) (Za (Zl ZdW Ze (Zh zd82 hr (by decide) (Za (Zb 1) Zf))) Zf))) (zt (Zb 1) (zi Ze) Zad)))))))))
theorem ZxI (D:Zn K mg "_law_byte" ZjY ZoF) (g:Glb K mg) :Zo P w K mg base 1 "_law_byte" ZfP:=
  ZW D ZyY 1 1 rfl rfl fun f cdv A outer s H E hr=>(Zj (Zw (ZbU (zj ZmO g.b_isinstance PyProof.Rows.boot_isinstance (Za (Zb 0) (Za (ZqW g.b_int PyProof.Rows.boot_int) Zf))) (ZbU (ZqY (zj ZmO g.b_isinstance PyProof.Rows.boot_isinstance (Za (Zb 0) (Za (ZqW g.b_bool PyProof.Rows.boot_bool) Zf)))) (ZcO (Zge Zh1 Zh1 Ze (Zb 0) Ze))))))
theorem ZxJ (D:Zn K mg "_law_read" ZiB ZoG) (g:Glb K mg) (zd85:Zo P w K mg base 1 "_law_byte" ZfP) (zd82:Zo P w K mg base 1 "_law_folded" Zbp):Zo P w K mg base 2 "_law_read" Zb9:=
  ZW D zc84 1 5 rfl rfl fun f cdv A outer s H E hr=>(Zg (ZL (MW.mt (ZcF (Zbn (ZH (zj ZmO g.b_isinstance PyProof.Rows.boot_isinstance (Za (Zb 0) (Za (ZqW g.b_list PyProof.Rows.boot_list) Zf))))) (Zac (ZD ZuW (zj ZeJ g.b_len PySem.boot_len (Za (Zb 0) Zf)) Ze)))) (Zj (Zw ZaK)) Zz)
  (Zg (ZL (Zbn (ZH (zj Zw2 g.b_all PyProof.Rows.boot_all (Za (ZqZ (show Za9 _ (Zi ZiB) "_law_byte_here" ["_law_row","_law_head","_law_most","_law_words","_law_found"] ["_law_byte_here"] [] from ⟨rfl,by decide +kernel,by decide +kernel,by decide +kernel,by decide +kernel,by decide +kernel,rfl,by decide,by decide +kernel⟩) rfl rfl (Zmz (Zb 0)) (fun _ _ _ _ _=>(Zh zd85 hr (by decide) (Za (Zb 0) Zf)))) Zf)))) (Zj (Zw ZaK)) Zz)
  (Zg (ZC 1 zc84.nd (Zl ZcE (Zx Zy (Zb 0) Ze) Ze))
  (Zg (ZL (MW.mt (ZcF (ZD ZhA (Zx Zy (Zb 0) Ze) (ZZ (Za Ze (Za Ze Zf))) (by with_unfolding_all rfl)) (ZcF (ZD Zga (Zx Zy (Zb 0) Ze) Ze) (Zac (ZD Zga (Zl ZE (Zx Zy (Zb 0) Ze) (Zx Zy (Zb 0) Ze)) Ze))))) (Zj (Zw ZaK)) Zz)
  (Zg (ZL (MW.mt (ZcF (Zbn (ZqT Zh1 Zh1 (Zb 1) (zj ZeJ g.b_len PySem.boot_len (Za (Zb 0) Zf)) (Zl ZE (Zb 1) Ze))) (Zac (ZD (ZdH hr.units) (Zh zd82 hr (by decide) (Za (Zb 0) Zf)) Ze)))) (Zj (Zw ZaK)) Zz)
  (Zg (ZC 2 zc84.nd Ze)
  (Zg (ZL (ZD (zW hr.units) (Zb 1) Ze) (Zg (ZC 2 zc84.nd (Zl ZE (Zl ZbK (Zx Zy (Zb 0) Ze) Ze) (Zx Zy (Zb 0) Ze)))
    (Zj (ZL (MW.mt (ZcF (ZD (zW hr.units) (Zl Z9 (Zl ZcE (Zx Zy (Zb 0) Ze) Ze) Ze) Ze) (ZcF (ZD (ZdH hr.units) (zt (Zb 0) (zi Ze) (zi Ze)) (z6 (Za Ze (Za Ze Zf)))) (Zac (ZD ZuW (Zb 2) Ze))))) (Zj (Zw ZaK)) Zz))) Zz)
  (Zg (ZqU 3 zc84.nd (show Za9 _ (Zi ZiB) "_law_k" ["_law_row","_law_head","_law_most","_law_words","_law_found"] ["_law_k","_law_row"] [0] from ⟨rfl,by decide +kernel,by decide +kernel,by decide +kernel,by decide +kernel,by decide +kernel,rfl,by decide,by decide +kernel⟩) rfl rfl (Zcs g.b_range (Za Ze Zf)) (fun _ _ _ _ _=>(Zl ZE (Zl ZbK Ze (Zx Zy (Zb 1) (Zl ZbK Ze (Zb 0)))) (Zx Zy (Zb 1) (Zl ZE (Zl ZbK Ze (Zb 0)) Ze)))))
  (Zg (ZC 4 zc84.nd (ZZ (Za (Zx Zy (Zb 3) Ze) (Za (Zx Zy (Zb 3) Ze) (Za (Zl ZE (Zl ZbK (Zx Zy (Zb 3) Ze) Ze) (Zx Zy (Zb 3) Ze)) (Za (Zl ZE (Zl ZbK (Zx Zy (Zb 3) Ze) Ze) (Zx Zy (Zb 3) Ze)) Zf))))))
  (Zj (Zw (Zl ZE (Zb 4) (ZZ (Za (Zx Zy (Zb 0) Ze) (Za (Zx Zy (Zb 3) Ze) (Za (Zb 2) (Za (Za8 ZhI g.b_tuple PyProof.Rows.boot_tuple (Za (zt (Zb 0) (zi (Zb 1)) Zad) Zf)) Zf)))))))))))))))))
theorem ZxH (D:Zn K mg "_law_any" Zjp ZoE) (g:Glb K mg) (zd80:Zo P w K mg base 2 "_law_mix" zP):Zo P w K mg base 3 "_law_any" Zhg:=
  ZW D zc86 2 11 rfl rfl fun f cdv A outer s H E hr=>(Zg (ZC 2 zc86.nd (Zl Z9 (Zh zd80 hr (by decide) (Za (Zb 0) (Za (Zb 1) Zf))) Ze))
  (Zg (ZC 3 zc86.nd Ze)
  (Zg (ZL (MW.mt (Zcr (ZD (zW hr.units) (Zl Z9 (Zl ZcE (Zb 2) Ze) Ze) Ze) (Zar (ZD Zga (Zl Z9 (Zh zd80 hr (by decide) (Za (Zb 0) (Za (Zl ZE (Zb 1) Ze) Zf))) Ze) Ze)))) (Zg (ZC 3 zc86.nd (Zx Zy (z6 (Za Ze (Za Ze (Za Ze (Za Ze (Za Ze (Za Ze Zf))))))) (Zl Z9 (Zh zd80 hr (by decide) (Za (Zb 0) (Za (Zl ZE (Zb 1) Ze) Zf))) Ze)))
    (Zj (ZL (ZD (zW hr.units) (Zb 3) Ze) (Zj (ZC 3 zc86.nd (Zl ZE Ze (Zl Z9 (Zh zd80 hr (by decide) (Za (Zb 0) (Za (Zl ZE (Zb 1) Ze) Zf))) Ze)))) Zz))) Zz)
  (Zg (ZgN 4 zc86.nd Zf)
  (Zg (ZgO PassesOwn.never (Zcs g.b_range (Za Ze Zf)) (Zfq 5 zc86.nd) (Zg (ZC 6 zc86.nd (Zh zd80 hr (by decide) (Za (Zb 0) (Za (Zl ZE (Zl ZE (Zb 1) Ze) (Zb 5)) Zf))))
    (Zg (ZL (ZD (zW hr.units) (Zl Z9 (Zb 6) Ze) Ze) (Zj (ZC 6 zc86.nd (Zx Zy (z6 (Za Ze (Za Ze (Za Ze (Za Ze (Za Ze (Za Ze (Za Ze Zf)))))))) (Zl Z9 (Zl ZcE (Zb 6) Ze) Ze)))) Zz)
    (Zj (ZgP 4 (Zb 6) (hpe:=fun h=>ZqD PySem.F.plainAttrs_list PySem.F.slot_list_append PySem.F.type_list_append ZgM h (Zf6 (Zb 6) ZhX)))))))
  (Zg (ZC 7 zc86.nd (ZZ (Za (Zl Z9 (Zh zd80 hr (by decide) (Za (Zb 0) (Za (Zl ZE (Zb 1) Ze) Zf))) Ze) Zf)))
  (Zg (ZC 7 zc86.nd (Zl ZE (Zb 7) (ZZ (Za (Zl Z9 (Zh zd80 hr (by decide) (Za (Zb 0) (Za (Zl ZE (Zb 1) Ze) Zf))) Ze) Zf))))
  (Zg (ZC 8 zc86.nd (Zx Zy (z6 (Za Ze (Za Ze (Za Ze (Za Ze (Za Ze Zf)))))) (Zl Z9 (Zh zd80 hr (by decide) (Za (Zb 0) (Za (Zl ZE (Zb 1) Ze) Zf))) Ze)))
  (Zg (ZL (ZD (zW hr.units) (Zb 8) Ze) (Zj (ZC 8 zc86.nd (Zl Z9 (Zh zd80 hr (by decide) (Za (Zb 0) (Za (Zl ZE (Zb 1) Ze) Zf))) Ze))) Zz)
  (Zg (ZC 9 zc86.nd (Za8 ZhI g.b_tuple PyProof.Rows.boot_tuple (Za (ZqZ (show Za9 _ (Zi Zjp) "_law_k" ["_law_script","_law_base","_law_flags","_law_most","_law_numbers","_law_k","_law_number","_law_ports","_law_size","_law_data","_law_window"] ["_law_k","_law_script","_law_base"] [0,1] from ⟨rfl,by decide +kernel,by decide +kernel,by decide +kernel,by decide +kernel,by decide +kernel,rfl,by decide,by decide +kernel⟩) rfl rfl (Zcs g.b_range (Za (Zb 8) Zf)) (fun _ _ _ _ _=>(Zl Z9 (Zl ZcE (Zh zd80 hr (by decide) (Za (Zb 1) (Za (Zl ZE (Zl ZE (Zb 2) Ze) (Zb 0)) Zf))) Ze) Ze))) Zf)))
  (Zg (ZL (ZD (zW hr.units) (Zl Z9 (Zh zd80 hr (by decide) (Za (Zb 0) (Za (Zl ZE (Zb 1) Ze) Zf))) Ze) Ze) (Zj (ZC 9 zc86.nd (Zl ZbK (ZZ (Za Ze Zf)) (Zb 8)))) Zz)
  (Zg (ZC 10 zc86.nd (Zl Z9 (Zh zd80 hr (by decide) (Za (Zb 0) (Za (Zl ZE (Zb 1) Ze) Zf))) Ze))
  (Zj (ZdX 4 (Zw (Zl ZE (Zb 7) (ZZ (Za (Zx Zy (Zb 4) Ze) (Za (Zx Zy (Zb 4) Ze) (Za (Zb 2) (Za (Zb 10) (Za (Zb 3) (Za (Zb 9) Zf)))))))))))))))))))))))
theorem ZxG (D:Zn K mg "_law_plus" ZjX ZoD) (g:Glb K mg) :Zo P w K mg base 1 "_law_plus" Zdh:=
  ZW D ZyX 2 2 rfl rfl fun f cdv A outer s H E hr=>(Zj (Zw (Zl Z9 (Zl ZE (Zb 0) (Zb 1)) Ze)))
theorem ZxF (D:Zn K mg "_law_first" ZjW ZoC) (g:Glb K mg) :Zo P w K mg base 1 "_law_first" Zfr:=
  ZW D ZyW 1 1 rfl rfl fun f cdv A outer s H E hr=>(Zg (ZL (ZD (zW hr.units) (Zl Z9 (Zb 0) Ze) Ze) (Zj (Zw (Zl Z9 (Zl ZdW Ze (Zl Z9 (Zl ZcE (Zb 0) Ze) Ze)) Ze))) Zz)
  (Zj (Zw (Zb 0))))
theorem ZxE (D:Zn K mg "_law_given" ZjV ZoB) (g:Glb K mg) (zd84:Zo P w K mg base 2 "_law_read" Zb9) (zd60:Zo P w K mg base 8 "send" ZcN):Zo P w K mg base 9 "_law_given" Zc2:=
  ZW D zc89 2 5 rfl rfl fun f cdv A outer s H E hr=>(Zg (ZgN 2 zc89.nd Zf)
  (Zg (ZgO PassesOwn.never (Zcs g.b_range (Za Ze Zf)) (Zfq 3 zc89.nd) (Zg (ZC 4 zc89.nd (Zh zd60 hr (by decide) (Za (Zb 0) (Za (Zb 1) Zf))))
    (Zg (ZL (ZD (zW hr.units) (Zb 4) (z6 Zf)) (Zj (ZdX 2 (Zw (Zb 2)))) Zz)
    (Zj (ZgP 2 (Zh zd84 hr (by decide) (Za (Zb 4) Zf)) (hpe:=fun h=>ZqD PySem.F.plainAttrs_list PySem.F.slot_list_append PySem.F.type_list_append ZgM h (Zf6 (Zh zd84 hr (by decide) (Za (Zb 4) Zf)) ZhX)))))))
  (Zj (ZdX 2 (Zw (Zb 2))))))
theorem ZxD (D:Zn K mg "_law_opened" ZjU ZoA) (g:Glb K mg) (zd83:Zo P w K mg base 2 "_law_bytes" ZaO) (zd88:Zo P w K mg base 1 "_law_first" Zfr) (zd80:Zo P w K mg base 2 "_law_mix" zP) (zd87:Zo P w K mg base 1 "_law_plus" Zdh) (zd39:Zo P w K mg base 8 "arrive" zb) (zd57:Zo P w K mg base 5 "opened" ZcC) (zd60:Zo P w K mg base 8 "send" ZcN):Zo P w K mg base 9 "_law_opened" Zd0:=
  ZW D zc90 4 8 rfl rfl fun f cdv A outer s H E hr=>(Zg (ZC 4 zc90.nd (ZZ (Za (Zl Z9 (Zh zd80 hr (by decide) (Za (Zb 0) (Za (Zb 1) Zf))) Ze) (Za (Zl Z9 (Zh zd80 hr (by decide) (Za (Zb 0) (Za (Zl ZE (Zb 1) Ze) Zf))) Ze) Zf))))
  (Zg (ZC 5 zc90.nd (Zh zd88 hr (by decide) (Za (Zh zd80 hr (by decide) (Za (Zb 0) (Za (Zl ZE (Zb 1) Ze) Zf))) Zf)))
  (Zg (ZC 6 zc90.nd (Zh zd88 hr (by decide) (Za (Zh zd80 hr (by decide) (Za (Zb 0) (Za (Zl ZE (Zb 1) Ze) Zf))) Zf)))
  (Zg (ZC 7 zc90.nd (Zh zd57 hr (by decide) (Za (Zx Zy (Zb 4) Ze) (Za Ze (Za (Zb 5) (Za zN Zf))))))
  (Zg (Z0 (Zh zd39 hr (by decide) (Za (Zb 7) (Za (Zh zd83 hr (by decide) (Za (ZZ (Za (Zx Zy (Zb 4) Ze) (Za (Zx Zy (Zb 4) Ze) (Za (Zb 6) (Za Ze (Za Ze (Za (Zb 2) (Za (Zb 3) (Za (ZZ Zf) Zf))))))))) Zf)) (Za Ze Zf)))))
  (Zg (Z0 (Zh zd60 hr (by decide) (Za (Zb 7) (Za Ze Zf))))
  (Zg (Z0 (Zh zd39 hr (by decide) (Za (Zb 7) (Za (Zh zd83 hr (by decide) (Za (ZZ (Za (Zx Zy (Zb 4) Ze) (Za (Zx Zy (Zb 4) Ze) (Za (Zh zd87 hr (by decide) (Za (Zb 6) (Za Ze Zf))) (Za (Zh zd87 hr (by decide) (Za (Zb 5) (Za Ze Zf))) (Za Ze (Za (Zb 2) (Za Ze (Za (ZZ Zf) Zf))))))))) Zf)) (Za Ze Zf)))))
  (Zj (Zw (ZZ (Za (Zb 7) (Za (Zb 4) (Za (Zh zd87 hr (by decide) (Za (Zb 5) (Za Ze Zf))) (Za (Zh zd87 hr (by decide) (Za (Zb 6) (Za Ze Zf))) Zf))))))))))))))
theorem Zly (D:Zn K mg "_law_bytes" Zjq ZnN) (g:Glb K mg) (zd82:Zo P w K mg base 1 "_law_folded" Zbp) (zd81:Zo P w K mg base 1 "_law_two" Zbo):Zo P w K mg base 2 "_law_bytes" Zca:=
  ZW D zc83 1 3 rfl rfl fun f cdv A outer s H E hr=>(Zg (ZC 1 zc83.nd (Zl ZE (Zh zd81 hr (by decide) (Za (Zx Zy (Zb 0) Ze) Zf)) (Zh zd81 hr (by decide) (Za (Zx Zy (Zb 0) Ze) Zf))))
  (Zg (ZgO PassesOwn.never (Zmz (zt (Zb 0) (zi Ze) (zi Ze))) (Zfq 2 zc83.nd) (Zj (ZC 1 zc83.nd (Zl ZE (Zl ZE (Zb 1) (Zh zd81 hr (by decide) (Za (Zl ZcE (Zb 2) Ze) Zf))) (Zh zd81 hr (by decide) (Za (Zl Z9 (Zb 2) Ze) Zf))))))
  (Zg (ZC 1 zc83.nd (Zl ZE (Zl ZE (Zl ZE (Zb 1) (z6 (Za (Zx Zy (z6 (Za Ze (Za Ze Zf))) (Za8 ZtI g.b_int PyProof.Rows.boot_int (Za (zH Zga (Zx Zy (Zb 0) Ze) Ze) Zf))) (Za (Zx Zy (Zb 0) Ze) Zf)))) (Zh zd81 hr (by decide) (Za (Zx Zy (Zb 0) Ze) Zf))) (z6 (Za Ze (Za Ze (Za Ze (Za Ze Zf)))))))
  (Zg (ZL (ZD Zga (Zx Zy (Zb 0) Ze) Ze) (Zj (ZC 1 zc83.nd (Zl ZE (Zl ZE (Zb 1) (z6 (Za Ze (Za Ze Zf)))) (Zh zd81 hr (by decide) (Za (Zx Zy (Zb 0) Ze) Zf))))) Zz)
  (Zg (ZC 1 zc83.nd (Zl ZE (Zb 1) (Za8 ZjM g.b_list PyProof.Rows.boot_list (Za (Zx Zy (Zb 0) Ze) Zf))))
  (Zj (Zw (Zl ZuX (Zl ZE (zt (Zb 1) Zad (zi Ze)) (Zh zd81 hr (by decide) (Za (Zl ZdW Ze (Zh zd82 hr (by decide) (Za (Zb 1) Zf))) Zf))) (zt (Zb 1) (zi Ze) Zad)))))))))
theorem ZxC (D:Zn K mg "_law_strange" Zjo Zoz) (g:Glb K mg) (zd86:Zo P w K mg base 3 "_law_any" Zhg) (zd83:Zo P w K mg base 2 "_law_bytes" ZaO) (d_l_bytesC:Zo P w K mg base 2 "_law_bytes" Zca) (zd80:Zo P w K mg base 2 "_law_mix" zP):Zo P w K mg base 4 "_law_strange" Zbw:=
  ZW D zc91 3 7 rfl rfl fun f cdv A outer s H E hr=>(Zg (ZC 3 zc91.nd (Zh zd86 hr (by decide) (Za (Zb 0) (Za (Zb 1) Zf))))
  (Zg (ZC 4 zc91.nd (Zl Z9 (Zh zd80 hr (by decide) (Za (Zb 0) (Za (Zl ZE (Zb 1) Ze) Zf))) Ze))
  (Zg (ZL (ZD (zW hr.units) (Zb 4) Ze) (Zj (Zw (ZqZ (show Za9 _ (Zi Zjo) "_law_k" ["_law_script","_law_base","_law_talk","_law_some","_law_way","_law_row","_law_at"] ["_law_k","_law_script","_law_base"] [0,1] from ⟨rfl,by decide +kernel,by decide +kernel,by decide +kernel,by decide +kernel,by decide +kernel,rfl,by decide,by decide +kernel⟩) rfl rfl (Zcs g.b_range (Za (Zl Z9 (Zh zd80 hr (by decide) (Za (Zb 0) (Za (Zl ZE (Zb 1) Ze) Zf))) Ze) Zf)) (fun _ _ _ _ _=>(Zl Z9 (Zl ZcE (Zh zd80 hr (by decide) (Za (Zb 1) (Za (Zl ZE (Zb 2) (Zb 0)) Zf))) Ze) Ze))))) Zz)
  (Zg (ZL (ZD (zW hr.units) (Zb 4) Ze) (Zg (ZsH 5 zc91.nd (Zh d_l_bytesC hr (by decide) (Za (Zl ZE (ZZ (Za (Zx Zy (Zb 2) Ze) (Za (Zx Zy (Zb 2) Ze) Zf))) (zt (Zb 3) (zi Ze) Zad)) Zf)))
    (Zg (ZC 6 zc91.nd (Zl Z9 (Zh zd80 hr (by decide) (Za (Zb 0) (Za (Zl ZE (Zb 1) Ze) Zf))) (Zoa 5 g.b_len PySem.boot_len)))
    (Zg (ZsI 5 (Zb 6) (Zl Z9 (Zl ZE (Zl ZE (ZlI 5 (Zb 6)) Ze) (Zl Z9 (Zh zd80 hr (by decide) (Za (Zb 0) (Za (Zl ZE (Zb 1) Ze) Zf))) Ze)) Ze) (hps:=fun h=>Zux (Zl Z9 (Zl ZE (Zl ZE (ZlI 5 (Zb 6)) Ze) (Zl Z9 (Zh zd80 hr (by decide) (Za (Zb 0) (Za (Zl ZE (Zb 1) Ze) Zf))) Ze)) Ze) (ZuD h (Zb 6) Zqf)))
    (Zj (ZdX 5 (Zw (Zb 5))))))) Zz)
  (Zg (ZL (ZD (zW hr.units) (Zb 4) Ze) (Zj (Zw (Zh zd83 hr (by decide) (Za (Zl ZE (ZZ (Za (Zx Zy (Zb 2) Ze) (Za (Zl Z9 (Zl ZE (Zl ZE (Zx Zy (Zb 2) Ze) Ze) (Zl Z9 (Zx Zy (Zb 3) Ze) Ze)) Ze) Zf))) (zt (Zb 3) (zi Ze) Zad)) Zf)))) Zz)
  (Zj (Zw (Zh zd83 hr (by decide) (Za (Zl ZE (ZZ (Za (Zl Z9 (Zl ZE (Zl ZE (Zx Zy (Zb 2) Ze) Ze) (Zl Z9 (Zx Zy (Zb 3) Ze) Ze)) Ze) (Za (Zx Zy (Zb 2) Ze) Zf))) (zt (Zb 3) (zi Ze) Zad)) Zf)))))))))
theorem ZxB {fl:Addr} {fdl:FuncData} (F:Fun K "law" "law" ZhJ fl fdl) (g:Glb K mg) (zd86:Zo P w K mg base 3 "_law_any" Zhg) (zd83:Zo P w K mg base 2 "_law_bytes" ZaO) (zd89:Zo P w K mg base 9 "_law_given" Zc2) (zd80:Zo P w K mg base 2 "_law_mix" zP) (zd90:Zo P w K mg base 9 "_law_opened" Zd0) (zd87:Zo P w K mg base 1 "_law_plus" Zdh) (zd84:Zo P w K mg base 2 "_law_read" Zb9) (zd91:Zo P w K mg base 4 "_law_strange" Zbw) (zd81:Zo P w K mg base 1 "_law_two" Zbo) (zd39:Zo P w K mg base 8 "arrive" zb) (zd10:Zo P w K mg base 1 "error" Zdv) (zd57:Zo P w K mg base 5 "opened" ZcC) (zd59:Zo P w K mg base 3 "read" Zdc) (zd9:Zo P w K mg base 1 "state" Zcw) (zd58:Zo P w K mg base 3 "write" Zcv):FnOk P w K mg base CX0 10 fl fdl Zoy (spM ⟨Zaf mg,K⟩ ZlN):=
  mfn F zc92 1 12 rfl rfl fun cdv A outer s H E hr=>(Zg (ZC 1 zc92.nd (Zl Z9 (Zh zd80 hr (by decide) (Za (Zb 0) (Za Ze Zf))) Ze))
  (Zg (ZC 2 zc92.nd (Zh zd90 hr (by decide) (Za (Zb 0) (Za Ze (Za (Zb 1) (Za Ze Zf))))))
  (Zg (ZC 3 zc92.nd (Zh zd90 hr (by decide) (Za (Zb 0) (Za Ze (Za (Zb 1) (Za Ze Zf))))))
  (Zg (ZC 4 zc92.nd (Zx Zy (Zb 2) Ze))
  (Zg (ZL (ZD (zW hr.units) (Zl Z9 (Zh zd80 hr (by decide) (Za (Zb 0) (Za Ze Zf))) Ze) Ze) (Zg (ZC 2 zc92.nd (Zl ZE (ZZ (Za (Zh zd57 hr (by decide) (Za (Zx Zy (Zb 4) Ze) (Za (Zx Zy (Zb 4) Ze) (Za (Zx Zy (Zb 2) Ze) (Za zN Zf))))) Zf)) (zt (Zb 2) (zi Ze) Zad)))
    (Zj (ZC 3 zc92.nd (Zl ZE (ZZ (Za (Zh zd57 hr (by decide) (Za (Zx Zy (Zb 4) Ze) (Za (Zx Zy (Zb 4) Ze) (Za (Zx Zy (Zb 3) Ze) (Za zN Zf))))) Zf)) (zt (Zb 3) (zi Ze) Zad))))) Zz)
  (Zg (ZC 5 zc92.nd Ze)
  (Zg (ZgO PassesOwn.never (Zcs g.b_range (Za Ze Zf)) (Zfq 6 zc92.nd) (Zg (ZC 7 zc92.nd (Zh zd91 hr (by decide) (Za (Zb 0) (Za (Zl ZE Ze (Zl ZbK Ze (Zb 6))) (Za (Zb 4) Zf)))))
    (Zg (ZC 8 zc92.nd (ZlJ (zH ZqL (Zh zd84 hr (by decide) (Za (Zb 7) Zf)) ZaK) (ZcO (zH (ZdH hr.units) (Zl ZE (Zl ZbK (Zx Zy (Zb 7) Ze) Ze) (Zx Zy (Zb 7) Ze)) (Zx Zy (Zb 4) Ze)))))
    (Zg (ZL (MW.mt (Zcr (ZD (ZdH hr.units) (zt (Zb 7) Zad (zi Ze)) (Zh zd81 hr (by decide) (Za (Zx Zy (Zb 4) Ze) Zf))) (Zar (ZD ZhA (Zh zd9 hr (by decide) (Za (Zx Zy (Zb 2) Ze) Zf)) (ZZ (Za ZqX (Za ZqX Zf))) (by with_unfolding_all rfl))))) (Zj (ZC 8 zc92.nd zN)) Zz)
    (Zg (ZL (MW.mt (Zcr (ZH (Zb 8)) (Zar (ZD Znl (Zh zd39 hr (by decide) (Za (Zx Zy (Zb 2) Ze) (Za (Zb 7) (Za (Zb 5) Zf)))) zN)))) (Zj (Zw zN)) Zz)
    (Zg (ZC 9 zc92.nd (Zl ZbK (z6 (Za (Zl Z9 (Zh zd80 hr (by decide) (Za (Zb 0) (Za (Zl ZE Ze (Zb 6)) Zf))) Ze) Zf)) (Zl Z9 (Zh zd80 hr (by decide) (Za (Zb 0) (Za (Zl ZE Ze (Zb 6)) Zf))) Ze)))
    (Zg (ZL (ZD (ZdH hr.units) (Zh zd58 hr (by decide) (Za (Zx Zy (Zb 2) Ze) (Za (Zb 9) Zf))) (Zh zd58 hr (by decide) (Za (Zx Zy (Zb 3) Ze) (Za (Za8 ZjM g.b_list PyProof.Rows.boot_list (Za (Zb 9) Zf)) Zf)))) (Zj (Zw zN)) Zz)
    (Zg (ZC 10 zc92.nd (Zh zd86 hr (by decide) (Za (Zb 0) (Za (Zl ZE Ze (Zl ZbK Ze (Zb 6))) Zf))))
    (Zg (ZC 11 zc92.nd (Zh zd83 hr (by decide) (Za (Zl ZE (ZZ (Za (Zx Zy (Zb 4) Ze) (Za (Zx Zy (Zb 4) Ze) (Za (Zh zd87 hr (by decide) (Za (Zx Zy (Zb 2) Ze) (Za (Zl ZdW (Zl Z9 (Zx Zy (Zb 10) Ze) Ze) Ze) Zf))) (Za (Zx Zy (Zb 2) Ze) Zf))))) (zt (Zb 10) (zi Ze) Zad)) Zf)))
    (Zg (ZL (ZD (ZdH hr.units) (Zh zd39 hr (by decide) (Za (Zx Zy (Zb 2) Ze) (Za (Zb 11) (Za (Zb 5) Zf)))) (Zh zd39 hr (by decide) (Za (Zx Zy (Zb 3) Ze) (Za (Zb 11) (Za (Zb 5) Zf))))) (Zj (Zw zN)) Zz)
    (Zg (ZL (MW.mt (ZcF (ZD (ZdH hr.units) (Zh zd89 hr (by decide) (Za (Zx Zy (Zb 2) Ze) (Za (Zb 5) Zf))) (Zh zd89 hr (by decide) (Za (Zx Zy (Zb 3) Ze) (Za (Zb 5) Zf)))) (Zac (ZD (ZdH hr.units) (Zh zd9 hr (by decide) (Za (Zx Zy (Zb 2) Ze) Zf)) (Zh zd9 hr (by decide) (Za (Zx Zy (Zb 3) Ze) Zf)))))) (Zj (Zw zN)) Zz)
    (Zg (ZL (MW.mt (ZcF (ZD (ZdH hr.units) (Zh zd59 hr (by decide) (Za (Zx Zy (Zb 2) Ze) (Za Ze Zf))) (Zh zd59 hr (by decide) (Za (Zx Zy (Zb 3) Ze) (Za Ze Zf)))) (Zac (ZD (ZdH hr.units) (Zh zd10 hr (by decide) (Za (Zx Zy (Zb 2) Ze) Zf)) (Zh zd10 hr (by decide) (Za (Zx Zy (Zb 3) Ze) Zf)))))) (Zj (Zw zN)) Zz)
    (Zj (ZC 5 zc92.nd (Zl ZE (Zb 5) Ze)))))))))))))))
  (Zj (Zw zN)))))))))
theorem ZuV {fl:Addr} {fdl:FuncData} (F:Fun K "law" "law" ZhJ fl fdl) (zD0:Mk0 K mg "Pile" "Pile.__init__" zs0 zP0) (zD1:Zn K mg "room" zs1 zP1) (zD2:Zn K mg "lay" zs2 zP2) (zD3:Zn K mg "take" zs3 zP3) (zD4:Zn K mg "plus" zs4 zP4) (zD5:Zn K mg "offset" zs5 zP5) (zD6:Zn K mg "past" zs6 zP6) (zD7:Mk0 K mg "End" "End.__init__" zs7 zP7) (zD8:Zn K mg "start_timer" zs8 zP8) (zD9:Zn K mg "state" zs9 zP9) (zD10:Zn K mg "error" Zk9 ZpR) (zD11:Zn K mg "our_window" Zk8 ZpQ) (zD12:Zn K mg "has_sent_fin" Zk7 ZpP) (zD13:Zn K mg "folded" Zk6 ZpO) (zD14:Zn K mg "sum_of" Zk5 ZpN) (zD15:Zn K mg "length" Zk4 ZpM) (zD16:Zn K mg "has" Zk3 ZpL) (zD17:Zn K mg "bears" Zk2 ZpK) (zD18:Zn K mg "put" Zk1 ZpJ) (zD19:Zn K mg "bytes_ahead_of_sum" Zk0 ZpI) (zD20:Zn K mg "byte_of_head" ZkZ ZpH) (zD21:Zn K mg "bytes_of_most" ZkY ZpG) (zD22:Zn K mg "two_bytes" ZkX ZpF) (zD23:Zn K mg "four_bytes" ZkW ZpE) (zD24:Zn K mg "is_right" ZkV ZpD) (zD25:Zn K mg "head_of" ZkU ZpC) (zD26:Zn K mg "is_right_long_head" ZkT ZpB) (zD27:Zn K mg "get" ZkS ZpA) (zD28:Zn K mg "two_at" ZkR Zpz) (zD29:Zn K mg "four_at" ZkQ Zpy) (zD30:Zn K mg "reset_for" ZkP Zpx) (zD31:Zn K mg "owe_reset_for" ZkO Zpw) (zD32:Zn K mg "come_to_closed" ZkN Zpv) (zD33:Zn K mg "come_to_listen" ZkM Zpu) (zD34:Zn K mg "hear_syn" ZkL Zpt) (zD35:Zn K mg "come_to_syn_sent" ZkK Zps) (zD36:Zn K mg "answers_syn" ZkJ Zpr) (zD37:Zn K mg "refuse" ZkI Zpq) (zD38:Zn K mg "go_on_from_syn_sent" ZkH Zpp) (zD39:Zn K mg "arrive" ZkG Zpo) (zD40:Zn K mg "is_for" ZkF Zpn) (zD41:Zn K mg "come_to_stream" ZkE Zpm) (zD42:Zn K mg "fits" ZkD Zpl) (zD43:Zn K mg "is_in_window" ZkC Zpk) (zD44:Zn K mg "turn_away" ZkB Zpj) (zD45:Zn K mg "hear_reset" ZkA Zpi) (zD46:Zn K mg "goes_on_behind_answer" Zkz Zph) (zD47:Zn K mg "has_answered_syn" Zky Zpg) (zD48:Zn K mg "take_window" Zkx Zpf) (zD49:Zn K mg "hear_answer" Zkw Zpe) (zD50:Zn K mg "is_newer" Zkv Zpd) (zD51:Zn K mg "end_what_is_acknowledged" Zku Zpc) (zD52:Zn K mg "hear_stream" Zkt Zpb) (zD53:Zn K mg "keep_data" Zks Zpa) (zD54:Zn K mg "keep_fin" Zkr Zo9) (zD55:Zn K mg "draw_in_order" Zkq Zo8) (zD56:Zn K mg "hear_fin" Zkp Zo7) (zD57:Zn K mg "opened" Zko Zo6) (zD58:Zn K mg "write" Zkn Zo5) (zD59:Zn K mg "read" Zkm Zo4) (zD60:Zn K mg "send" Zkl Zo3) (zD61:Zn K mg "going" Zkk Zo2) (zD62:Zn K mg "paid_reset" Zkj Zo1) (zD63:Zn K mg "is_due" Zki Zo0) (zD64:Zn K mg "again" Zkh ZoZ) (zD65:Zn K mg "most_at_once" Zkg ZoY) (zD66:Zn K mg "paid_syn" Zkf ZoX) (zD67:Zn K mg "segment_of" Zke ZoW) (zD68:Zn K mg "going_as_new" Zkd ZoV) (zD69:Zn K mg "new_syn" Zkc ZoU) (zD70:Zn K mg "has_more" Zkb ZoT) (zD71:Zn K mg "has_new_data" Zka ZoS) (zD72:Zn K mg "unsent" Zj9 ZoR) (zD73:Zn K mg "has_new_fin" Zj8 ZoQ) (zD74:Zn K mg "new_piece" Zj7 ZoP) (zD75:Zn K mg "new_data" Zj6 ZoO) (zD76:Zn K mg "new_fin" Zj5 ZoN) (zD77:Zn K mg "going_as_probe" Zj4 ZoM) (zD78:Zn K mg "going_as_answer" Zj3 ZoL) (zD79:Zn K mg "_law_cell" Zj2 ZoK) (zD80:Zn K mg "_law_mix" Zj1 ZoJ) (zD81:Zn K mg "_law_two" Zj0 ZoI) (zD82:Zn K mg "_law_folded" ZjZ ZoH) (zD83:Zn K mg "_law_bytes" Zjq ZnN) (zD84:Zn K mg "_law_read" ZiB ZoG) (zD85:Zn K mg "_law_byte" ZjY ZoF) (zD86:Zn K mg "_law_any" Zjp ZoE) (zD87:Zn K mg "_law_plus" ZjX ZoD) (zD88:Zn K mg "_law_first" ZjW ZoC) (zD89:Zn K mg "_law_given" ZjV ZoB) (zD90:Zn K mg "_law_opened" ZjU ZoA) (zD91:Zn K mg "_law_strange" Zjo Zoz) (g:Glb K mg):FnOk P w K mg base CX0 10 fl fdl Zoy (spM ⟨Zaf mg,K⟩ ZlN):=by
  have zd0:=zo0 (P:=P) (w:=w) (base:=base) zD0 g
  have zd1:=zo1 (P:=P) (w:=w) (base:=base) zD1 g
  have zd2:=zo2 (P:=P) (w:=w) (base:=base) zD2 g zd1
  have zd3:=zo3 (P:=P) (w:=w) (base:=base) zD3 g
  have zd4:=zo4 (P:=P) (w:=w) (base:=base) zD4 g
  have zd5:=zo5 (P:=P) (w:=w) (base:=base) zD5 g
  have zd6:=zo6 (P:=P) (w:=w) (base:=base) zD6 g zd5
  have zd7:=zo7 (P:=P) (w:=w) (base:=base) zD7 g zd0 zd4
  have zd8:=zo8 (P:=P) (w:=w) (base:=base) zD8 g
  have zd9:=zo9 (P:=P) (w:=w) (base:=base) zD9 g
  have zd10:=ZyV (P:=P) (w:=w) (base:=base) zD10 g
  have zd11:=ZyU (P:=P) (w:=w) (base:=base) zD11 g zd1
  have zd12:=ZyT (P:=P) (w:=w) (base:=base) zD12 g zd6
  have zd13:=ZyS (P:=P) (w:=w) (base:=base) zD13 g
  have zd14:=ZyR (P:=P) (w:=w) (base:=base) zD14 g zd13
  have zd16:=ZyP (P:=P) (w:=w) (base:=base) zD16 g
  have zd15:=ZyQ (P:=P) (w:=w) (base:=base) zD15 g zd16
  have zd17:=ZyO (P:=P) (w:=w) (base:=base) zD17 g zd16
  have zd20:=ZyL (P:=P) (w:=w) (base:=base) zD20 g
  have zd22:=ZyJ (P:=P) (w:=w) (base:=base) zD22 g
  have zd23:=ZyI (P:=P) (w:=w) (base:=base) zD23 g zd22
  have zd19:=ZyM (P:=P) (w:=w) (base:=base) zD19 g zd20 zd23 zd22
  have zd21:=ZyK (P:=P) (w:=w) (base:=base) zD21 g zd22
  have zd18:=ZyN (P:=P) (w:=w) (base:=base) zD18 g zd19 zd21 zd14 zd22
  have zd25:=ZyG (P:=P) (w:=w) (base:=base) zD25 g
  have zd28:=ZyD (P:=P) (w:=w) (base:=base) zD28 g
  have zd26:=ZyF (P:=P) (w:=w) (base:=base) zD26 g zd16 zd28
  have zd24:=ZyH (P:=P) (w:=w) (base:=base) zD24 g zd20 zd13 zd25 zd26 zd28
  have zd29:=ZyC (P:=P) (w:=w) (base:=base) zD29 g zd28
  have zd27:=ZyE (P:=P) (w:=w) (base:=base) zD27 g zd29 zd25 zd24 zd28
  have zd30:=ZyB (P:=P) (w:=w) (base:=base) zD30 g zd17 zd15 zd4
  have zd31:=ZyA (P:=P) (w:=w) (base:=base) zD31 g zd17 zd30
  have zd32:=Zyz (P:=P) (w:=w) (base:=base) zD32 g zd31
  have zd34:=Zyx (P:=P) (w:=w) (base:=base) zD34 g zd17 zd4
  have zd33:=Zyy (P:=P) (w:=w) (base:=base) zD33 g zd17 zd34 zd31
  have zd36:=Zyv (P:=P) (w:=w) (base:=base) zD36 g zd4
  have zd38:=Zyt (P:=P) (w:=w) (base:=base) zD38 g zd17 zd8
  have zd37:=Zyu (P:=P) (w:=w) (base:=base) zD37 g zd17
  have zd35:=Zyw (P:=P) (w:=w) (base:=base) zD35 g zd36 zd17 zd38 zd34 zd31 zd37
  have zd43:=Zyo (P:=P) (w:=w) (base:=base) zD43 g zd5 zd11
  have zd42:=Zyp (P:=P) (w:=w) (base:=base) zD42 g zd43 zd15 zd5 zd4
  have zd51:=Zyg (P:=P) (w:=w) (base:=base) zD51 g zd12
  have zd48:=Zyj (P:=P) (w:=w) (base:=base) zD48 g
  have zd47:=Zyk (P:=P) (w:=w) (base:=base) zD47 g zd31 zd48
  have zd50:=Zyh (P:=P) (w:=w) (base:=base) zD50 g zd6
  have zd49:=Zyi (P:=P) (w:=w) (base:=base) zD49 g zd50 zd5 zd6 zd8 zd3 zd48
  have zd46:=Zyl (P:=P) (w:=w) (base:=base) zD46 g zd51 zd47 zd49 zd6
  have zd45:=Zym (P:=P) (w:=w) (base:=base) zD45 g
  have zd55:=Zyc (P:=P) (w:=w) (base:=base) zD55 g zd2 zd4
  have zd56:=Zyb (P:=P) (w:=w) (base:=base) zD56 g zd4
  have zd53:=Zye (P:=P) (w:=w) (base:=base) zD53 g zd43 zd4
  have zd54:=Zyd (P:=P) (w:=w) (base:=base) zD54 g zd17 zd43 zd4
  have zd52:=Zyf (P:=P) (w:=w) (base:=base) zD52 g zd55 zd56 zd53 zd54
  have zd44:=Zyn (P:=P) (w:=w) (base:=base) zD44 g zd17
  have zd41:=Zyq (P:=P) (w:=w) (base:=base) zD41 g zd17 zd42 zd46 zd45 zd52 zd44
  have zd40:=Zyr (P:=P) (w:=w) (base:=base) zD40 g
  have zd39:=Zys (P:=P) (w:=w) (base:=base) zD39 g zd32 zd33 zd41 zd35 zd27 zd40 zd24
  have zd57:=Zya (P:=P) (w:=w) (base:=base) zD57 g zd7
  have zd58:=Zx9 (P:=P) (w:=w) (base:=base) zD58 g zd2 zd4
  have zd59:=Zx8 (P:=P) (w:=w) (base:=base) zD59 g zd11 zd3
  have zd65:=Zx2 (P:=P) (w:=w) (base:=base) zD65 g
  have zd66:=Zx1 (P:=P) (w:=w) (base:=base) zD66 g
  have zd67:=Zx0 (P:=P) (w:=w) (base:=base) zD67 g zd11
  have zd64:=Zx3 (P:=P) (w:=w) (base:=base) zD64 g zd65 zd5 zd66 zd67
  have zd78:=ZxP (P:=P) (w:=w) (base:=base) zD78 g zd67
  have zd72:=ZxV (P:=P) (w:=w) (base:=base) zD72 g zd5
  have zd71:=ZxW (P:=P) (w:=w) (base:=base) zD71 g zd72
  have zd73:=ZxU (P:=P) (w:=w) (base:=base) zD73 g zd72
  have zd70:=ZxX (P:=P) (w:=w) (base:=base) zD70 g zd71 zd73
  have zd75:=ZxS (P:=P) (w:=w) (base:=base) zD75 g zd65 zd5 zd4 zd67 zd72
  have zd76:=ZxR (P:=P) (w:=w) (base:=base) zD76 g zd4 zd67
  have zd74:=ZxT (P:=P) (w:=w) (base:=base) zD74 g zd71 zd75 zd76
  have zd69:=ZxY (P:=P) (w:=w) (base:=base) zD69 g zd66 zd4 zd8
  have zd68:=ZxZ (P:=P) (w:=w) (base:=base) zD68 g zd70 zd74 zd69 zd5 zd8
  have zd63:=Zx4 (P:=P) (w:=w) (base:=base) zD63 g
  have zd77:=ZxQ (P:=P) (w:=w) (base:=base) zD77 g zd70 zd63 zd74 zd8
  have zd62:=Zx5 (P:=P) (w:=w) (base:=base) zD62 g
  have zd61:=Zx6 (P:=P) (w:=w) (base:=base) zD61 g zd64 zd78 zd68 zd77 zd63 zd62
  have zd60:=Zx7 (P:=P) (w:=w) (base:=base) zD60 g zd61 zd18
  have zd79:=ZxO (P:=P) (w:=w) (base:=base) zD79 g
  have zd80:=ZxN (P:=P) (w:=w) (base:=base) zD80 g zd79
  have zd81:=ZxM (P:=P) (w:=w) (base:=base) zD81 g
  have zd82:=ZxL (P:=P) (w:=w) (base:=base) zD82 g
  have zd83:=ZxK (P:=P) (w:=w) (base:=base) zD83 g zd82 zd81
  have zd85:=ZxI (P:=P) (w:=w) (base:=base) zD85 g
  have zd84:=ZxJ (P:=P) (w:=w) (base:=base) zD84 g zd85 zd82
  have zd86:=ZxH (P:=P) (w:=w) (base:=base) zD86 g zd80
  have zd87:=ZxG (P:=P) (w:=w) (base:=base) zD87 g
  have zd88:=ZxF (P:=P) (w:=w) (base:=base) zD88 g
  have zd89:=ZxE (P:=P) (w:=w) (base:=base) zD89 g zd84 zd60
  have zd90:=ZxD (P:=P) (w:=w) (base:=base) zD90 g zd83 zd88 zd80 zd87 zd39 zd57 zd60
  have d_l_bytesC:=Zly (P:=P) (w:=w) (base:=base) zD83 g zd82 zd81
  have zd91:=ZxC (P:=P) (w:=w) (base:=base) zD91 g zd86 zd83 d_l_bytesC zd80
  exact ZxB F g zd86 zd83 zd89 zd80 zd90 zd87 zd84 zd91 zd81 zd39 zd10 zd57 zd59 zd9 zd58
end
theorem us1 {p:List Value→Prop} (h:∀a,p [a]):∀us:List Value,us.length=1→p us
  | [a],_=>h a
theorem us2 {p:List Value→Prop} (h:∀a b,p [a,b]):∀us:List Value,us.length=2→p us
  | [a,b],_=>h a b
theorem us3 {p:List Value→Prop} (h:∀a b c,p [a,b,c]):∀us:List Value,us.length=3→p us
  | [a,b,c],_=>h a b c
theorem us4 {p:List Value→Prop} (h:∀a b c d,p [a,b,c,d]):∀us:List Value,us.length=4→p us
  | [a,b,c,d],_=>h a b c d
theorem us5 {p:List Value→Prop} (h:∀a b c d e,p [a,b,c,d,e]):∀us:List Value,us.length=5→p us
  | [a,b,c,d,e],_=>h a b c d e
open PySem.W
theorem Zve {l:OpenLaw} {w:World} {K:Frag} {h:Heap} {mg:Str→Option Value} {fa:Addr} (X:K.In h) (G:h.Ns mainGlobals mg) (hfa:mg "law"=some (.ref fa))
    (aC_End:nsIn K mainGlobals "End"=some (some (.ref C_End)))
    (aC_Pile:nsIn K mainGlobals "Pile"=some (some (.ref C_Pile)))
    (a0:findIn K (.ref C_Pile) "__init__"=some (some (.ref f0))) (i0:isFn K (.ref f0)=true) (l0:K.lookup f0=some ⟨oc0,od0,.func (fnOf "__init__" "Pile.__init__" (Zt zs0) (Zp zs0) (Zi zs0) .none kV0 dc0 pm0 an0 cd0 ct0),sl0⟩) (c0:codeIn K cd0 "Pile.__init__"=true) (k0:keepIn K (.ref f0)=true)
    (a1:nsIn K mainGlobals "room"=some (some (.ref f1))) (l1:K.lookup f1=some ⟨oc1,od1,.func (fnOf "room" "room" (Zt zs1) (Zp zs1) (Zi zs1) .none kV1 dc1 pm1 an1 cd1 ct1),sl1⟩) (c1:codeIn K cd1 "room"=true) (k1:keepIn K (.ref f1)=true)
    (a2:nsIn K mainGlobals "lay"=some (some (.ref f2))) (l2:K.lookup f2=some ⟨oc2,od2,.func (fnOf "lay" "lay" (Zt zs2) (Zp zs2) (Zi zs2) .none kV2 dc2 pm2 an2 cd2 ct2),sl2⟩) (c2:codeIn K cd2 "lay"=true) (k2:keepIn K (.ref f2)=true)
    (a3:nsIn K mainGlobals "take"=some (some (.ref f3))) (l3:K.lookup f3=some ⟨oc3,od3,.func (fnOf "take" "take" (Zt zs3) (Zp zs3) (Zi zs3) .none kV3 dc3 pm3 an3 cd3 ct3),sl3⟩) (c3:codeIn K cd3 "take"=true) (k3:keepIn K (.ref f3)=true)
    (a4:nsIn K mainGlobals "plus"=some (some (.ref f4))) (l4:K.lookup f4=some ⟨oc4,od4,.func (fnOf "plus" "plus" (Zt zs4) (Zp zs4) (Zi zs4) .none kV4 dc4 pm4 an4 cd4 ct4),sl4⟩) (c4:codeIn K cd4 "plus"=true) (k4:keepIn K (.ref f4)=true)
    (a5:nsIn K mainGlobals "offset"=some (some (.ref f5))) (l5:K.lookup f5=some ⟨oc5,od5,.func (fnOf "offset" "offset" (Zt zs5) (Zp zs5) (Zi zs5) .none kV5 dc5 pm5 an5 cd5 ct5),sl5⟩) (c5:codeIn K cd5 "offset"=true) (k5:keepIn K (.ref f5)=true)
    (a6:nsIn K mainGlobals "past"=some (some (.ref f6))) (l6:K.lookup f6=some ⟨oc6,od6,.func (fnOf "past" "past" (Zt zs6) (Zp zs6) (Zi zs6) .none kV6 dc6 pm6 an6 cd6 ct6),sl6⟩) (c6:codeIn K cd6 "past"=true) (k6:keepIn K (.ref f6)=true)
    (a7:findIn K (.ref C_End) "__init__"=some (some (.ref f7))) (i7:isFn K (.ref f7)=true) (l7:K.lookup f7=some ⟨oc7,od7,.func (fnOf "__init__" "End.__init__" (Zt zs7) (Zp zs7) (Zi zs7) .none kV7 dc7 pm7 an7 cd7 ct7),sl7⟩) (c7:codeIn K cd7 "End.__init__"=true) (k7:keepIn K (.ref f7)=true)
    (a8:nsIn K mainGlobals "start_timer"=some (some (.ref f8))) (l8:K.lookup f8=some ⟨oc8,od8,.func (fnOf "start_timer" "start_timer" (Zt zs8) (Zp zs8) (Zi zs8) .none kV8 dc8 pm8 an8 cd8 ct8),sl8⟩) (c8:codeIn K cd8 "start_timer"=true) (k8:keepIn K (.ref f8)=true)
    (a9:nsIn K mainGlobals "state"=some (some (.ref f9))) (l9:K.lookup f9=some ⟨oc9,od9,.func (fnOf "state" "state" (Zt zs9) (Zp zs9) (Zi zs9) .none kV9 dc9 pm9 an9 cd9 ct9),sl9⟩) (c9:codeIn K cd9 "state"=true) (k9:keepIn K (.ref f9)=true)
    (a10:nsIn K mainGlobals "error"=some (some (.ref f10))) (l10:K.lookup f10=some ⟨oc10,od10,.func (fnOf "error" "error" (Zt Zk9) (Zp Zk9) (Zi Zk9) .none kV10 dc10 pm10 an10 cd10 ct10),sl10⟩) (c10:codeIn K cd10 "error"=true) (k10:keepIn K (.ref f10)=true)
    (a11:nsIn K mainGlobals "our_window"=some (some (.ref f11))) (l11:K.lookup f11=some ⟨oc11,od11,.func (fnOf "our_window" "our_window" (Zt Zk8) (Zp Zk8) (Zi Zk8) .none kV11 dc11 pm11 an11 cd11 ct11),sl11⟩) (c11:codeIn K cd11 "our_window"=true) (k11:keepIn K (.ref f11)=true)
    (a12:nsIn K mainGlobals "has_sent_fin"=some (some (.ref f12))) (l12:K.lookup f12=some ⟨oc12,od12,.func (fnOf "has_sent_fin" "has_sent_fin" (Zt Zk7) (Zp Zk7) (Zi Zk7) .none kV12 dc12 pm12 an12 cd12 ct12),sl12⟩) (c12:codeIn K cd12 "has_sent_fin"=true) (k12:keepIn K (.ref f12)=true)
    (a13:nsIn K mainGlobals "folded"=some (some (.ref f13))) (l13:K.lookup f13=some ⟨oc13,od13,.func (fnOf "folded" "folded" (Zt Zk6) (Zp Zk6) (Zi Zk6) .none kV13 dc13 pm13 an13 cd13 ct13),sl13⟩) (c13:codeIn K cd13 "folded"=true) (k13:keepIn K (.ref f13)=true)
    (a14:nsIn K mainGlobals "sum_of"=some (some (.ref f14))) (l14:K.lookup f14=some ⟨oc14,od14,.func (fnOf "sum_of" "sum_of" (Zt Zk5) (Zp Zk5) (Zi Zk5) .none kV14 dc14 pm14 an14 cd14 ct14),sl14⟩) (c14:codeIn K cd14 "sum_of"=true) (k14:keepIn K (.ref f14)=true)
    (a15:nsIn K mainGlobals "length"=some (some (.ref f15))) (l15:K.lookup f15=some ⟨oc15,od15,.func (fnOf "length" "length" (Zt Zk4) (Zp Zk4) (Zi Zk4) .none kV15 dc15 pm15 an15 cd15 ct15),sl15⟩) (c15:codeIn K cd15 "length"=true) (k15:keepIn K (.ref f15)=true)
    (a16:nsIn K mainGlobals "has"=some (some (.ref f16))) (l16:K.lookup f16=some ⟨oc16,od16,.func (fnOf "has" "has" (Zt Zk3) (Zp Zk3) (Zi Zk3) .none kV16 dc16 pm16 an16 cd16 ct16),sl16⟩) (c16:codeIn K cd16 "has"=true) (k16:keepIn K (.ref f16)=true)
    (a17:nsIn K mainGlobals "bears"=some (some (.ref f17))) (l17:K.lookup f17=some ⟨oc17,od17,.func (fnOf "bears" "bears" (Zt Zk2) (Zp Zk2) (Zi Zk2) .none kV17 dc17 pm17 an17 cd17 ct17),sl17⟩) (c17:codeIn K cd17 "bears"=true) (k17:keepIn K (.ref f17)=true)
    (a18:nsIn K mainGlobals "put"=some (some (.ref f18))) (l18:K.lookup f18=some ⟨oc18,od18,.func (fnOf "put" "put" (Zt Zk1) (Zp Zk1) (Zi Zk1) .none kV18 dc18 pm18 an18 cd18 ct18),sl18⟩) (c18:codeIn K cd18 "put"=true) (k18:keepIn K (.ref f18)=true)
    (a19:nsIn K mainGlobals "bytes_ahead_of_sum"=some (some (.ref f19))) (l19:K.lookup f19=some ⟨oc19,od19,.func (fnOf "bytes_ahead_of_sum" "bytes_ahead_of_sum" (Zt Zk0) (Zp Zk0) (Zi Zk0) .none kV19 dc19 pm19 an19 cd19 ct19),sl19⟩) (c19:codeIn K cd19 "bytes_ahead_of_sum"=true) (k19:keepIn K (.ref f19)=true)
    (a20:nsIn K mainGlobals "byte_of_head"=some (some (.ref f20))) (l20:K.lookup f20=some ⟨oc20,od20,.func (fnOf "byte_of_head" "byte_of_head" (Zt ZkZ) (Zp ZkZ) (Zi ZkZ) .none kV20 dc20 pm20 an20 cd20 ct20),sl20⟩) (c20:codeIn K cd20 "byte_of_head"=true) (k20:keepIn K (.ref f20)=true)
    (a21:nsIn K mainGlobals "bytes_of_most"=some (some (.ref f21))) (l21:K.lookup f21=some ⟨oc21,od21,.func (fnOf "bytes_of_most" "bytes_of_most" (Zt ZkY) (Zp ZkY) (Zi ZkY) .none kV21 dc21 pm21 an21 cd21 ct21),sl21⟩) (c21:codeIn K cd21 "bytes_of_most"=true) (k21:keepIn K (.ref f21)=true)
    (a22:nsIn K mainGlobals "two_bytes"=some (some (.ref f22))) (l22:K.lookup f22=some ⟨oc22,od22,.func (fnOf "two_bytes" "two_bytes" (Zt ZkX) (Zp ZkX) (Zi ZkX) .none kV22 dc22 pm22 an22 cd22 ct22),sl22⟩) (c22:codeIn K cd22 "two_bytes"=true) (k22:keepIn K (.ref f22)=true)
    (a23:nsIn K mainGlobals "four_bytes"=some (some (.ref f23))) (l23:K.lookup f23=some ⟨oc23,od23,.func (fnOf "four_bytes" "four_bytes" (Zt ZkW) (Zp ZkW) (Zi ZkW) .none kV23 dc23 pm23 an23 cd23 ct23),sl23⟩) (c23:codeIn K cd23 "four_bytes"=true) (k23:keepIn K (.ref f23)=true)
    (a24:nsIn K mainGlobals "is_right"=some (some (.ref f24))) (l24:K.lookup f24=some ⟨oc24,od24,.func (fnOf "is_right" "is_right" (Zt ZkV) (Zp ZkV) (Zi ZkV) .none kV24 dc24 pm24 an24 cd24 ct24),sl24⟩) (c24:codeIn K cd24 "is_right"=true) (k24:keepIn K (.ref f24)=true)
    (a25:nsIn K mainGlobals "head_of"=some (some (.ref f25))) (l25:K.lookup f25=some ⟨oc25,od25,.func (fnOf "head_of" "head_of" (Zt ZkU) (Zp ZkU) (Zi ZkU) .none kV25 dc25 pm25 an25 cd25 ct25),sl25⟩) (c25:codeIn K cd25 "head_of"=true) (k25:keepIn K (.ref f25)=true)
    (a26:nsIn K mainGlobals "is_right_long_head"=some (some (.ref f26))) (l26:K.lookup f26=some ⟨oc26,od26,.func (fnOf "is_right_long_head" "is_right_long_head" (Zt ZkT) (Zp ZkT) (Zi ZkT) .none kV26 dc26 pm26 an26 cd26 ct26),sl26⟩) (c26:codeIn K cd26 "is_right_long_head"=true) (k26:keepIn K (.ref f26)=true)
    (a27:nsIn K mainGlobals "get"=some (some (.ref f27))) (l27:K.lookup f27=some ⟨oc27,od27,.func (fnOf "get" "get" (Zt ZkS) (Zp ZkS) (Zi ZkS) .none kV27 dc27 pm27 an27 cd27 ct27),sl27⟩) (c27:codeIn K cd27 "get"=true) (k27:keepIn K (.ref f27)=true)
    (a28:nsIn K mainGlobals "two_at"=some (some (.ref f28))) (l28:K.lookup f28=some ⟨oc28,od28,.func (fnOf "two_at" "two_at" (Zt ZkR) (Zp ZkR) (Zi ZkR) .none kV28 dc28 pm28 an28 cd28 ct28),sl28⟩) (c28:codeIn K cd28 "two_at"=true) (k28:keepIn K (.ref f28)=true)
    (a29:nsIn K mainGlobals "four_at"=some (some (.ref f29))) (l29:K.lookup f29=some ⟨oc29,od29,.func (fnOf "four_at" "four_at" (Zt ZkQ) (Zp ZkQ) (Zi ZkQ) .none kV29 dc29 pm29 an29 cd29 ct29),sl29⟩) (c29:codeIn K cd29 "four_at"=true) (k29:keepIn K (.ref f29)=true)
    (a30:nsIn K mainGlobals "reset_for"=some (some (.ref f30))) (l30:K.lookup f30=some ⟨oc30,od30,.func (fnOf "reset_for" "reset_for" (Zt ZkP) (Zp ZkP) (Zi ZkP) .none kV30 dc30 pm30 an30 cd30 ct30),sl30⟩) (c30:codeIn K cd30 "reset_for"=true) (k30:keepIn K (.ref f30)=true)
    (a31:nsIn K mainGlobals "owe_reset_for"=some (some (.ref f31))) (l31:K.lookup f31=some ⟨oc31,od31,.func (fnOf "owe_reset_for" "owe_reset_for" (Zt ZkO) (Zp ZkO) (Zi ZkO) .none kV31 dc31 pm31 an31 cd31 ct31),sl31⟩) (c31:codeIn K cd31 "owe_reset_for"=true) (k31:keepIn K (.ref f31)=true)
    (a32:nsIn K mainGlobals "come_to_closed"=some (some (.ref f32))) (l32:K.lookup f32=some ⟨oc32,od32,.func (fnOf "come_to_closed" "come_to_closed" (Zt ZkN) (Zp ZkN) (Zi ZkN) .none kV32 dc32 pm32 an32 cd32 ct32),sl32⟩) (c32:codeIn K cd32 "come_to_closed"=true) (k32:keepIn K (.ref f32)=true)
    (a33:nsIn K mainGlobals "come_to_listen"=some (some (.ref f33))) (l33:K.lookup f33=some ⟨oc33,od33,.func (fnOf "come_to_listen" "come_to_listen" (Zt ZkM) (Zp ZkM) (Zi ZkM) .none kV33 dc33 pm33 an33 cd33 ct33),sl33⟩) (c33:codeIn K cd33 "come_to_listen"=true) (k33:keepIn K (.ref f33)=true)
    (a34:nsIn K mainGlobals "hear_syn"=some (some (.ref f34))) (l34:K.lookup f34=some ⟨oc34,od34,.func (fnOf "hear_syn" "hear_syn" (Zt ZkL) (Zp ZkL) (Zi ZkL) .none kV34 dc34 pm34 an34 cd34 ct34),sl34⟩) (c34:codeIn K cd34 "hear_syn"=true) (k34:keepIn K (.ref f34)=true)
    (a35:nsIn K mainGlobals "come_to_syn_sent"=some (some (.ref f35))) (l35:K.lookup f35=some ⟨oc35,od35,.func (fnOf "come_to_syn_sent" "come_to_syn_sent" (Zt ZkK) (Zp ZkK) (Zi ZkK) .none kV35 dc35 pm35 an35 cd35 ct35),sl35⟩) (c35:codeIn K cd35 "come_to_syn_sent"=true) (k35:keepIn K (.ref f35)=true)
    (a36:nsIn K mainGlobals "answers_syn"=some (some (.ref f36))) (l36:K.lookup f36=some ⟨oc36,od36,.func (fnOf "answers_syn" "answers_syn" (Zt ZkJ) (Zp ZkJ) (Zi ZkJ) .none kV36 dc36 pm36 an36 cd36 ct36),sl36⟩) (c36:codeIn K cd36 "answers_syn"=true) (k36:keepIn K (.ref f36)=true)
    (a37:nsIn K mainGlobals "refuse"=some (some (.ref f37))) (l37:K.lookup f37=some ⟨oc37,od37,.func (fnOf "refuse" "refuse" (Zt ZkI) (Zp ZkI) (Zi ZkI) .none kV37 dc37 pm37 an37 cd37 ct37),sl37⟩) (c37:codeIn K cd37 "refuse"=true) (k37:keepIn K (.ref f37)=true)
    (a38:nsIn K mainGlobals "go_on_from_syn_sent"=some (some (.ref f38))) (l38:K.lookup f38=some ⟨oc38,od38,.func (fnOf "go_on_from_syn_sent" "go_on_from_syn_sent" (Zt ZkH) (Zp ZkH) (Zi ZkH) .none kV38 dc38 pm38 an38 cd38 ct38),sl38⟩) (c38:codeIn K cd38 "go_on_from_syn_sent"=true) (k38:keepIn K (.ref f38)=true)
    (a39:nsIn K mainGlobals "arrive"=some (some (.ref f39))) (l39:K.lookup f39=some ⟨oc39,od39,.func (fnOf "arrive" "arrive" (Zt ZkG) (Zp ZkG) (Zi ZkG) .none kV39 dc39 pm39 an39 cd39 ct39),sl39⟩) (c39:codeIn K cd39 "arrive"=true) (k39:keepIn K (.ref f39)=true)
    (a40:nsIn K mainGlobals "is_for"=some (some (.ref f40))) (l40:K.lookup f40=some ⟨oc40,od40,.func (fnOf "is_for" "is_for" (Zt ZkF) (Zp ZkF) (Zi ZkF) .none kV40 dc40 pm40 an40 cd40 ct40),sl40⟩) (c40:codeIn K cd40 "is_for"=true) (k40:keepIn K (.ref f40)=true)
    (a41:nsIn K mainGlobals "come_to_stream"=some (some (.ref f41))) (l41:K.lookup f41=some ⟨oc41,od41,.func (fnOf "come_to_stream" "come_to_stream" (Zt ZkE) (Zp ZkE) (Zi ZkE) .none kV41 dc41 pm41 an41 cd41 ct41),sl41⟩) (c41:codeIn K cd41 "come_to_stream"=true) (k41:keepIn K (.ref f41)=true)
    (a42:nsIn K mainGlobals "fits"=some (some (.ref f42))) (l42:K.lookup f42=some ⟨oc42,od42,.func (fnOf "fits" "fits" (Zt ZkD) (Zp ZkD) (Zi ZkD) .none kV42 dc42 pm42 an42 cd42 ct42),sl42⟩) (c42:codeIn K cd42 "fits"=true) (k42:keepIn K (.ref f42)=true)
    (a43:nsIn K mainGlobals "is_in_window"=some (some (.ref f43))) (l43:K.lookup f43=some ⟨oc43,od43,.func (fnOf "is_in_window" "is_in_window" (Zt ZkC) (Zp ZkC) (Zi ZkC) .none kV43 dc43 pm43 an43 cd43 ct43),sl43⟩) (c43:codeIn K cd43 "is_in_window"=true) (k43:keepIn K (.ref f43)=true)
    (a44:nsIn K mainGlobals "turn_away"=some (some (.ref f44))) (l44:K.lookup f44=some ⟨oc44,od44,.func (fnOf "turn_away" "turn_away" (Zt ZkB) (Zp ZkB) (Zi ZkB) .none kV44 dc44 pm44 an44 cd44 ct44),sl44⟩) (c44:codeIn K cd44 "turn_away"=true) (k44:keepIn K (.ref f44)=true)
    (a45:nsIn K mainGlobals "hear_reset"=some (some (.ref f45))) (l45:K.lookup f45=some ⟨oc45,od45,.func (fnOf "hear_reset" "hear_reset" (Zt ZkA) (Zp ZkA) (Zi ZkA) .none kV45 dc45 pm45 an45 cd45 ct45),sl45⟩) (c45:codeIn K cd45 "hear_reset"=true) (k45:keepIn K (.ref f45)=true)
    (a46:nsIn K mainGlobals "goes_on_behind_answer"=some (some (.ref f46))) (l46:K.lookup f46=some ⟨oc46,od46,.func (fnOf "goes_on_behind_answer" "goes_on_behind_answer" (Zt Zkz) (Zp Zkz) (Zi Zkz) .none kV46 dc46 pm46 an46 cd46 ct46),sl46⟩) (c46:codeIn K cd46 "goes_on_behind_answer"=true) (k46:keepIn K (.ref f46)=true)
    (a47:nsIn K mainGlobals "has_answered_syn"=some (some (.ref f47))) (l47:K.lookup f47=some ⟨oc47,od47,.func (fnOf "has_answered_syn" "has_answered_syn" (Zt Zky) (Zp Zky) (Zi Zky) .none kV47 dc47 pm47 an47 cd47 ct47),sl47⟩) (c47:codeIn K cd47 "has_answered_syn"=true) (k47:keepIn K (.ref f47)=true)
    (a48:nsIn K mainGlobals "take_window"=some (some (.ref f48))) (l48:K.lookup f48=some ⟨oc48,od48,.func (fnOf "take_window" "take_window" (Zt Zkx) (Zp Zkx) (Zi Zkx) .none kV48 dc48 pm48 an48 cd48 ct48),sl48⟩) (c48:codeIn K cd48 "take_window"=true) (k48:keepIn K (.ref f48)=true)
    (a49:nsIn K mainGlobals "hear_answer"=some (some (.ref f49))) (l49:K.lookup f49=some ⟨oc49,od49,.func (fnOf "hear_answer" "hear_answer" (Zt Zkw) (Zp Zkw) (Zi Zkw) .none kV49 dc49 pm49 an49 cd49 ct49),sl49⟩) (c49:codeIn K cd49 "hear_answer"=true) (k49:keepIn K (.ref f49)=true)
    (a50:nsIn K mainGlobals "is_newer"=some (some (.ref f50))) (l50:K.lookup f50=some ⟨oc50,od50,.func (fnOf "is_newer" "is_newer" (Zt Zkv) (Zp Zkv) (Zi Zkv) .none kV50 dc50 pm50 an50 cd50 ct50),sl50⟩) (c50:codeIn K cd50 "is_newer"=true) (k50:keepIn K (.ref f50)=true)
    (a51:nsIn K mainGlobals "end_what_is_acknowledged"=some (some (.ref f51))) (l51:K.lookup f51=some ⟨oc51,od51,.func (fnOf "end_what_is_acknowledged" "end_what_is_acknowledged" (Zt Zku) (Zp Zku) (Zi Zku) .none kV51 dc51 pm51 an51 cd51 ct51),sl51⟩) (c51:codeIn K cd51 "end_what_is_acknowledged"=true) (k51:keepIn K (.ref f51)=true)
    (a52:nsIn K mainGlobals "hear_stream"=some (some (.ref f52))) (l52:K.lookup f52=some ⟨oc52,od52,.func (fnOf "hear_stream" "hear_stream" (Zt Zkt) (Zp Zkt) (Zi Zkt) .none kV52 dc52 pm52 an52 cd52 ct52),sl52⟩) (c52:codeIn K cd52 "hear_stream"=true) (k52:keepIn K (.ref f52)=true)
    (a53:nsIn K mainGlobals "keep_data"=some (some (.ref f53))) (l53:K.lookup f53=some ⟨oc53,od53,.func (fnOf "keep_data" "keep_data" (Zt Zks) (Zp Zks) (Zi Zks) .none kV53 dc53 pm53 an53 cd53 ct53),sl53⟩) (c53:codeIn K cd53 "keep_data"=true) (k53:keepIn K (.ref f53)=true)
    (a54:nsIn K mainGlobals "keep_fin"=some (some (.ref f54))) (l54:K.lookup f54=some ⟨oc54,od54,.func (fnOf "keep_fin" "keep_fin" (Zt Zkr) (Zp Zkr) (Zi Zkr) .none kV54 dc54 pm54 an54 cd54 ct54),sl54⟩) (c54:codeIn K cd54 "keep_fin"=true) (k54:keepIn K (.ref f54)=true)
    (a55:nsIn K mainGlobals "draw_in_order"=some (some (.ref f55))) (l55:K.lookup f55=some ⟨oc55,od55,.func (fnOf "draw_in_order" "draw_in_order" (Zt Zkq) (Zp Zkq) (Zi Zkq) .none kV55 dc55 pm55 an55 cd55 ct55),sl55⟩) (c55:codeIn K cd55 "draw_in_order"=true) (k55:keepIn K (.ref f55)=true)
    (a56:nsIn K mainGlobals "hear_fin"=some (some (.ref f56))) (l56:K.lookup f56=some ⟨oc56,od56,.func (fnOf "hear_fin" "hear_fin" (Zt Zkp) (Zp Zkp) (Zi Zkp) .none kV56 dc56 pm56 an56 cd56 ct56),sl56⟩) (c56:codeIn K cd56 "hear_fin"=true) (k56:keepIn K (.ref f56)=true)
    (a57:nsIn K mainGlobals "opened"=some (some (.ref f57))) (l57:K.lookup f57=some ⟨oc57,od57,.func (fnOf "opened" "opened" (Zt Zko) (Zp Zko) (Zi Zko) .none kV57 dc57 pm57 an57 cd57 ct57),sl57⟩) (c57:codeIn K cd57 "opened"=true) (k57:keepIn K (.ref f57)=true)
    (a58:nsIn K mainGlobals "write"=some (some (.ref f58))) (l58:K.lookup f58=some ⟨oc58,od58,.func (fnOf "write" "write" (Zt Zkn) (Zp Zkn) (Zi Zkn) .none kV58 dc58 pm58 an58 cd58 ct58),sl58⟩) (c58:codeIn K cd58 "write"=true) (k58:keepIn K (.ref f58)=true)
    (a59:nsIn K mainGlobals "read"=some (some (.ref f59))) (l59:K.lookup f59=some ⟨oc59,od59,.func (fnOf "read" "read" (Zt Zkm) (Zp Zkm) (Zi Zkm) .none kV59 dc59 pm59 an59 cd59 ct59),sl59⟩) (c59:codeIn K cd59 "read"=true) (k59:keepIn K (.ref f59)=true)
    (a60:nsIn K mainGlobals "send"=some (some (.ref f60))) (l60:K.lookup f60=some ⟨oc60,od60,.func (fnOf "send" "send" (Zt Zkl) (Zp Zkl) (Zi Zkl) .none kV60 dc60 pm60 an60 cd60 ct60),sl60⟩) (c60:codeIn K cd60 "send"=true) (k60:keepIn K (.ref f60)=true)
    (a61:nsIn K mainGlobals "going"=some (some (.ref f61))) (l61:K.lookup f61=some ⟨oc61,od61,.func (fnOf "going" "going" (Zt Zkk) (Zp Zkk) (Zi Zkk) .none kV61 dc61 pm61 an61 cd61 ct61),sl61⟩) (c61:codeIn K cd61 "going"=true) (k61:keepIn K (.ref f61)=true)
    (a62:nsIn K mainGlobals "paid_reset"=some (some (.ref f62))) (l62:K.lookup f62=some ⟨oc62,od62,.func (fnOf "paid_reset" "paid_reset" (Zt Zkj) (Zp Zkj) (Zi Zkj) .none kV62 dc62 pm62 an62 cd62 ct62),sl62⟩) (c62:codeIn K cd62 "paid_reset"=true) (k62:keepIn K (.ref f62)=true)
    (a63:nsIn K mainGlobals "is_due"=some (some (.ref f63))) (l63:K.lookup f63=some ⟨oc63,od63,.func (fnOf "is_due" "is_due" (Zt Zki) (Zp Zki) (Zi Zki) .none kV63 dc63 pm63 an63 cd63 ct63),sl63⟩) (c63:codeIn K cd63 "is_due"=true) (k63:keepIn K (.ref f63)=true)
    (a64:nsIn K mainGlobals "again"=some (some (.ref f64))) (l64:K.lookup f64=some ⟨oc64,od64,.func (fnOf "again" "again" (Zt Zkh) (Zp Zkh) (Zi Zkh) .none kV64 dc64 pm64 an64 cd64 ct64),sl64⟩) (c64:codeIn K cd64 "again"=true) (k64:keepIn K (.ref f64)=true)
    (a65:nsIn K mainGlobals "most_at_once"=some (some (.ref f65))) (l65:K.lookup f65=some ⟨oc65,od65,.func (fnOf "most_at_once" "most_at_once" (Zt Zkg) (Zp Zkg) (Zi Zkg) .none kV65 dc65 pm65 an65 cd65 ct65),sl65⟩) (c65:codeIn K cd65 "most_at_once"=true) (k65:keepIn K (.ref f65)=true)
    (a66:nsIn K mainGlobals "paid_syn"=some (some (.ref f66))) (l66:K.lookup f66=some ⟨oc66,od66,.func (fnOf "paid_syn" "paid_syn" (Zt Zkf) (Zp Zkf) (Zi Zkf) .none kV66 dc66 pm66 an66 cd66 ct66),sl66⟩) (c66:codeIn K cd66 "paid_syn"=true) (k66:keepIn K (.ref f66)=true)
    (a67:nsIn K mainGlobals "segment_of"=some (some (.ref f67))) (l67:K.lookup f67=some ⟨oc67,od67,.func (fnOf "segment_of" "segment_of" (Zt Zke) (Zp Zke) (Zi Zke) .none kV67 dc67 pm67 an67 cd67 ct67),sl67⟩) (c67:codeIn K cd67 "segment_of"=true) (k67:keepIn K (.ref f67)=true)
    (a68:nsIn K mainGlobals "going_as_new"=some (some (.ref f68))) (l68:K.lookup f68=some ⟨oc68,od68,.func (fnOf "going_as_new" "going_as_new" (Zt Zkd) (Zp Zkd) (Zi Zkd) .none kV68 dc68 pm68 an68 cd68 ct68),sl68⟩) (c68:codeIn K cd68 "going_as_new"=true) (k68:keepIn K (.ref f68)=true)
    (a69:nsIn K mainGlobals "new_syn"=some (some (.ref f69))) (l69:K.lookup f69=some ⟨oc69,od69,.func (fnOf "new_syn" "new_syn" (Zt Zkc) (Zp Zkc) (Zi Zkc) .none kV69 dc69 pm69 an69 cd69 ct69),sl69⟩) (c69:codeIn K cd69 "new_syn"=true) (k69:keepIn K (.ref f69)=true)
    (a70:nsIn K mainGlobals "has_more"=some (some (.ref f70))) (l70:K.lookup f70=some ⟨oc70,od70,.func (fnOf "has_more" "has_more" (Zt Zkb) (Zp Zkb) (Zi Zkb) .none kV70 dc70 pm70 an70 cd70 ct70),sl70⟩) (c70:codeIn K cd70 "has_more"=true) (k70:keepIn K (.ref f70)=true)
    (a71:nsIn K mainGlobals "has_new_data"=some (some (.ref f71))) (l71:K.lookup f71=some ⟨oc71,od71,.func (fnOf "has_new_data" "has_new_data" (Zt Zka) (Zp Zka) (Zi Zka) .none kV71 dc71 pm71 an71 cd71 ct71),sl71⟩) (c71:codeIn K cd71 "has_new_data"=true) (k71:keepIn K (.ref f71)=true)
    (a72:nsIn K mainGlobals "unsent"=some (some (.ref f72))) (l72:K.lookup f72=some ⟨oc72,od72,.func (fnOf "unsent" "unsent" (Zt Zj9) (Zp Zj9) (Zi Zj9) .none kV72 dc72 pm72 an72 cd72 ct72),sl72⟩) (c72:codeIn K cd72 "unsent"=true) (k72:keepIn K (.ref f72)=true)
    (a73:nsIn K mainGlobals "has_new_fin"=some (some (.ref f73))) (l73:K.lookup f73=some ⟨oc73,od73,.func (fnOf "has_new_fin" "has_new_fin" (Zt Zj8) (Zp Zj8) (Zi Zj8) .none kV73 dc73 pm73 an73 cd73 ct73),sl73⟩) (c73:codeIn K cd73 "has_new_fin"=true) (k73:keepIn K (.ref f73)=true)
    (a74:nsIn K mainGlobals "new_piece"=some (some (.ref f74))) (l74:K.lookup f74=some ⟨oc74,od74,.func (fnOf "new_piece" "new_piece" (Zt Zj7) (Zp Zj7) (Zi Zj7) .none kV74 dc74 pm74 an74 cd74 ct74),sl74⟩) (c74:codeIn K cd74 "new_piece"=true) (k74:keepIn K (.ref f74)=true)
    (a75:nsIn K mainGlobals "new_data"=some (some (.ref f75))) (l75:K.lookup f75=some ⟨oc75,od75,.func (fnOf "new_data" "new_data" (Zt Zj6) (Zp Zj6) (Zi Zj6) .none kV75 dc75 pm75 an75 cd75 ct75),sl75⟩) (c75:codeIn K cd75 "new_data"=true) (k75:keepIn K (.ref f75)=true)
    (a76:nsIn K mainGlobals "new_fin"=some (some (.ref f76))) (l76:K.lookup f76=some ⟨oc76,od76,.func (fnOf "new_fin" "new_fin" (Zt Zj5) (Zp Zj5) (Zi Zj5) .none kV76 dc76 pm76 an76 cd76 ct76),sl76⟩) (c76:codeIn K cd76 "new_fin"=true) (k76:keepIn K (.ref f76)=true)
    (a77:nsIn K mainGlobals "going_as_probe"=some (some (.ref f77))) (l77:K.lookup f77=some ⟨oc77,od77,.func (fnOf "going_as_probe" "going_as_probe" (Zt Zj4) (Zp Zj4) (Zi Zj4) .none kV77 dc77 pm77 an77 cd77 ct77),sl77⟩) (c77:codeIn K cd77 "going_as_probe"=true) (k77:keepIn K (.ref f77)=true)
    (a78:nsIn K mainGlobals "going_as_answer"=some (some (.ref f78))) (l78:K.lookup f78=some ⟨oc78,od78,.func (fnOf "going_as_answer" "going_as_answer" (Zt Zj3) (Zp Zj3) (Zi Zj3) .none kV78 dc78 pm78 an78 cd78 ct78),sl78⟩) (c78:codeIn K cd78 "going_as_answer"=true) (k78:keepIn K (.ref f78)=true)
    (a79:nsIn K mainGlobals "_law_cell"=some (some (.ref f79))) (l79:K.lookup f79=some ⟨oc79,od79,.func (fnOf "_law_cell" "_law_cell" (Zt Zj2) (Zp Zj2) (Zi Zj2) .none kV79 dc79 pm79 an79 cd79 ct79),sl79⟩) (c79:codeIn K cd79 "_law_cell"=true) (k79:keepIn K (.ref f79)=true)
    (a80:nsIn K mainGlobals "_law_mix"=some (some (.ref f80))) (l80:K.lookup f80=some ⟨oc80,od80,.func (fnOf "_law_mix" "_law_mix" (Zt Zj1) (Zp Zj1) (Zi Zj1) .none kV80 dc80 pm80 an80 cd80 ct80),sl80⟩) (c80:codeIn K cd80 "_law_mix"=true) (k80:keepIn K (.ref f80)=true)
    (a81:nsIn K mainGlobals "_law_two"=some (some (.ref f81))) (l81:K.lookup f81=some ⟨oc81,od81,.func (fnOf "_law_two" "_law_two" (Zt Zj0) (Zp Zj0) (Zi Zj0) .none kV81 dc81 pm81 an81 cd81 ct81),sl81⟩) (c81:codeIn K cd81 "_law_two"=true) (k81:keepIn K (.ref f81)=true)
    (a82:nsIn K mainGlobals "_law_folded"=some (some (.ref f82))) (l82:K.lookup f82=some ⟨oc82,od82,.func (fnOf "_law_folded" "_law_folded" (Zt ZjZ) (Zp ZjZ) (Zi ZjZ) .none kV82 dc82 pm82 an82 cd82 ct82),sl82⟩) (c82:codeIn K cd82 "_law_folded"=true) (k82:keepIn K (.ref f82)=true)
    (a83:nsIn K mainGlobals "_law_bytes"=some (some (.ref f83))) (l83:K.lookup f83=some ⟨oc83,od83,.func (fnOf "_law_bytes" "_law_bytes" (Zt Zjq) (Zp Zjq) (Zi Zjq) .none kV83 dc83 pm83 an83 cd83 ct83),sl83⟩) (c83:codeIn K cd83 "_law_bytes"=true) (k83:keepIn K (.ref f83)=true)
    (a84:nsIn K mainGlobals "_law_read"=some (some (.ref f84))) (l84:K.lookup f84=some ⟨oc84,od84,.func (fnOf "_law_read" "_law_read" (Zt ZiB) (Zp ZiB) (Zi ZiB) .none kV84 dc84 pm84 an84 cd84 ct84),sl84⟩) (c84:codeIn K cd84 "_law_read"=true) (k84:keepIn K (.ref f84)=true)
    (a85:nsIn K mainGlobals "_law_byte"=some (some (.ref f85))) (l85:K.lookup f85=some ⟨oc85,od85,.func (fnOf "_law_byte" "_law_byte" (Zt ZjY) (Zp ZjY) (Zi ZjY) .none kV85 dc85 pm85 an85 cd85 ct85),sl85⟩) (c85:codeIn K cd85 "_law_byte"=true) (k85:keepIn K (.ref f85)=true)
    (a86:nsIn K mainGlobals "_law_any"=some (some (.ref f86))) (l86:K.lookup f86=some ⟨oc86,od86,.func (fnOf "_law_any" "_law_any" (Zt Zjp) (Zp Zjp) (Zi Zjp) .none kV86 dc86 pm86 an86 cd86 ct86),sl86⟩) (c86:codeIn K cd86 "_law_any"=true) (k86:keepIn K (.ref f86)=true)
    (a87:nsIn K mainGlobals "_law_plus"=some (some (.ref f87))) (l87:K.lookup f87=some ⟨oc87,od87,.func (fnOf "_law_plus" "_law_plus" (Zt ZjX) (Zp ZjX) (Zi ZjX) .none kV87 dc87 pm87 an87 cd87 ct87),sl87⟩) (c87:codeIn K cd87 "_law_plus"=true) (k87:keepIn K (.ref f87)=true)
    (a88:nsIn K mainGlobals "_law_first"=some (some (.ref f88))) (l88:K.lookup f88=some ⟨oc88,od88,.func (fnOf "_law_first" "_law_first" (Zt ZjW) (Zp ZjW) (Zi ZjW) .none kV88 dc88 pm88 an88 cd88 ct88),sl88⟩) (c88:codeIn K cd88 "_law_first"=true) (k88:keepIn K (.ref f88)=true)
    (a89:nsIn K mainGlobals "_law_given"=some (some (.ref f89))) (l89:K.lookup f89=some ⟨oc89,od89,.func (fnOf "_law_given" "_law_given" (Zt ZjV) (Zp ZjV) (Zi ZjV) .none kV89 dc89 pm89 an89 cd89 ct89),sl89⟩) (c89:codeIn K cd89 "_law_given"=true) (k89:keepIn K (.ref f89)=true)
    (a90:nsIn K mainGlobals "_law_opened"=some (some (.ref f90))) (l90:K.lookup f90=some ⟨oc90,od90,.func (fnOf "_law_opened" "_law_opened" (Zt ZjU) (Zp ZjU) (Zi ZjU) .none kV90 dc90 pm90 an90 cd90 ct90),sl90⟩) (c90:codeIn K cd90 "_law_opened"=true) (k90:keepIn K (.ref f90)=true)
    (a91:nsIn K mainGlobals "_law_strange"=some (some (.ref f91))) (l91:K.lookup f91=some ⟨oc91,od91,.func (fnOf "_law_strange" "_law_strange" (Zt Zjo) (Zp Zjo) (Zi Zjo) .none kV91 dc91 pm91 an91 cd91 ct91),sl91⟩) (c91:codeIn K cd91 "_law_strange"=true) (k91:keepIn K (.ref f91)=true)
    (a92:nsIn K mainGlobals "law"=some (some (.ref f92))) (l92:K.lookup f92=some ⟨oc92,od92,.func (fnOf "law" "law" (Zt ZhJ) (Zp ZhJ) (Zi ZhJ) .none kV92 dc92 pm92 an92 cd92 ct92),sl92⟩) (c92:codeIn K cd92 "law"=true) (k92:keepIn K (.ref f92)=true)
    (pg_End:plainGet K C_End Str.empty=true) (hd_End:hasDictIn K C_End=true) (po_End:plainOver K C_End=true) (sa_End:findIn K (.ref C_End) "__setattr__"=some (some (.builtin "object.__setattr__"))) (mk_End:makesIn K C_End=true) (kc_End:keepIn K (.ref C_End)=true)
    (pg_Pile:plainGet K C_Pile Str.empty=true) (hd_Pile:hasDictIn K C_Pile=true) (po_Pile:plainOver K C_Pile=true) (sa_Pile:findIn K (.ref C_Pile) "__setattr__"=some (some (.builtin "object.__setattr__"))) (mk_Pile:makesIn K C_Pile=true) (kc_Pile:keepIn K (.ref C_Pile)=true)
    (zA0:findIn K (.ref C_End) "behind"=some none)
    (zA1:findIn K (.ref C_End) "come"=some none)
    (zA2:findIn K (.ref C_End) "early"=some none)
    (zA3:findIn K (.ref C_End) "early_fin"=some none)
    (zA4:findIn K (.ref C_End) "error"=some none)
    (zA5:findIn K (.ref C_End) "first"=some none)
    (zA6:findIn K (.ref C_End) "has_closed"=some none)
    (zA7:findIn K (.ref C_End) "most"=some none)
    (zA8:findIn K (.ref C_End) "nxt"=some none)
    (zA9:findIn K (.ref C_End) "ours"=some none)
    (zA10:findIn K (.ref C_End) "owed_reset"=some none)
    (zA11:findIn K (.ref C_End) "owes_answer"=some none)
    (zA12:findIn K (.ref C_End) "owes_syn"=some none)
    (zA13:findIn K (.ref C_End) "probes"=some none)
    (zA14:findIn K (.ref C_End) "rcv"=some none)
    (zA15:findIn K (.ref C_End) "since"=some none)
    (zA16:findIn K (.ref C_End) "state"=some none)
    (zA17:findIn K (.ref C_End) "theirs"=some none)
    (zA18:findIn K (.ref C_End) "told"=some none)
    (zA19:findIn K (.ref C_End) "told_by"=some none)
    (zA20:findIn K (.ref C_End) "tries"=some none)
    (zA21:findIn K (.ref C_End) "una"=some none)
    (zA22:findIn K (.ref C_End) "wait"=some none)
    (zA23:findIn K (.ref C_End) "wnd"=some none)
    (zA24:findIn K (.ref C_End) "written"=some none)
    (zA25:findIn K (.ref C_Pile) "row"=some none)
    (zg0:nsIn K mainGlobals "ACK"=some (some (.int 16 zt0)))
    (zg1:nsIn K mainGlobals "ANSWER"=some (some (.int 3 zt1)))
    (zg2:nsIn K mainGlobals "CLOSED"=some (some (.str "closed" zt2)))
    (zg3:nsIn K mainGlobals "CLOSE_WAIT"=some (some (.str "close wait" zt3)))
    (zg4:nsIn K mainGlobals "CLOSING"=some (some (.str "closing" zt4)))
    (zg5:nsIn K mainGlobals "DATA"=some (some (.int 7 zt5)))
    (zg6:nsIn K mainGlobals "FIN"=some (some (.int 1 zt6)))
    (zg7:nsIn K mainGlobals "FIRST_WAIT"=some (some (.int 1000 zt7)))
    (zg8:nsIn K mainGlobals "FLAGS"=some (some (.int 4 zt8)))
    (zg9:nsIn K mainGlobals "GOAL"=some (some (.int 1 zt9)))
    (zg10:nsIn K mainGlobals "GREATEST_DATA"=some (some (.int 16 zt10)))
    (zg11:nsIn K mainGlobals "GREATEST_FLAGS"=some (some (.int 31 zt11)))
    (zg12:nsIn K mainGlobals "GREATEST_WORD"=some (some (.int 65535 zt12)))
    (zg13:nsIn K mainGlobals "HALF_ROUND"=some (some (.int 2147483648 zt13)))
    (zg14:nsIn K mainGlobals "LAST_ACK"=some (some (.str "last ack" zt14)))
    (zg15:nsIn K mainGlobals "LAST_WAIT"=some (some (.int 120000 zt15)))
    (zg16:nsIn K mainGlobals "LEAST_MOST"=some (some (.int 4 zt16)))
    (zg17:nsIn K mainGlobals "LISTEN"=some (some (.str "listen" zt17)))
    (zg18:nsIn K mainGlobals "LONGEST_WAIT"=some (some (.int 16000 zt18)))
    (zg19:nsIn K mainGlobals "LONG_HEAD"=some (some (.int 24 zt19)))
    (zg20:nsIn K mainGlobals "MOST"=some (some (.int 6 zt20)))
    (zg21:nsIn K mainGlobals "MOST_TRIES"=some (some (.int 6 zt21)))
    (zg22:nsIn K mainGlobals "MOST_UNTOLD"=some (some (.int 12 zt22)))
    (zg23:nsIn K mainGlobals "NO_ERROR"=some (some (.str "" zt23)))
    (zg24:nsIn K mainGlobals "NUMBER"=some (some (.int 2 zt24)))
    (zg25:nsIn K mainGlobals "OPEN"=some (some (.str "open" zt25)))
    (zg26:nsIn K mainGlobals "PSH"=some (some (.int 8 zt26)))
    (zg27:nsIn K mainGlobals "REFUSED"=some (some (.str "refused" zt27)))
    (zg28:nsIn K mainGlobals "RESET"=some (some (.str "reset" zt28)))
    (zg29:nsIn K mainGlobals "RIGHT_SUM"=some (some (.int 65535 zt29)))
    (zg30:nsIn K mainGlobals "ROOM"=some (some (.int 64 zt30)))
    (zg31:nsIn K mainGlobals "ROUND"=some (some (.int 4294967296 zt31)))
    (zg32:nsIn K mainGlobals "RST"=some (some (.int 4 zt32)))
    (zg33:nsIn K mainGlobals "SHORT_HEAD"=some (some (.int 20 zt33)))
    (zg34:nsIn K mainGlobals "SOURCE"=some (some (.int 0 zt34)))
    (zg35:nsIn K mainGlobals "SYN"=some (some (.int 2 zt35)))
    (zg36:nsIn K mainGlobals "SYN_COME"=some (some (.str "syn come" zt36)))
    (zg37:nsIn K mainGlobals "SYN_SENT"=some (some (.str "syn sent" zt37)))
    (zg38:nsIn K mainGlobals "TIME"=some (some (.str "time" zt38)))
    (zg39:nsIn K mainGlobals "TIME_WAIT"=some (some (.str "time wait" zt39)))
    (zg40:nsIn K mainGlobals "WAIT_ONE"=some (some (.str "wait one" zt40)))
    (zg41:nsIn K mainGlobals "WAIT_TWO"=some (some (.str "wait two" zt41)))
    (zg42:nsIn K mainGlobals "WINDOW"=some (some (.int 5 zt42)))
    (zg43:nsIn K mainGlobals "WORDS"=some (some (.int 65536 zt43)))
    (z_all:nsIn K mainGlobals "all"=some none)
    (z_bool:nsIn K mainGlobals "bool"=some none)
    (z_enumerate:nsIn K mainGlobals "enumerate"=some none)
    (z_int:nsIn K mainGlobals "int"=some none)
    (z_isinstance:nsIn K mainGlobals "isinstance"=some none)
    (z_len:nsIn K mainGlobals "len"=some none)
    (z_list:nsIn K mainGlobals "list"=some none)
    (z_max:nsIn K mainGlobals "max"=some none)
    (z_min:nsIn K mainGlobals "min"=some none)
    (z_range:nsIn K mainGlobals "range"=some none)
    (z_sum:nsIn K mainGlobals "sum"=some none)
    (z_tuple:nsIn K mainGlobals "tuple"=some none) :
    ∃fd:FuncData,(∀(s:Shared) (v:Value),BindsTo s fd ⟨[v],[]⟩ [("_law_script",v)])∧∀base:Heap,K.In base→base.Ns mainGlobals mg→FnOk l.prog w K mg base CX0 10 fa fd ["_law_script"] (Zm7 K):=by
  have e:=hfa.symm.trans (mg_of X G a92)
  cases e
  have eC_End:C_End=Zaf mg "End":=(ZnB (mg_of X G aC_End)).symm
  have eC_Pile:C_Pile=Zaf mg "Pile":=(ZnB (mg_of X G aC_Pile)).symm
  subst eC_End
  subst eC_Pile
  have g:Glb K mg:=⟨⟨_,mg_of X G zg0⟩,⟨_,mg_of X G zg1⟩,⟨_,mg_of X G zg2⟩,⟨_,mg_of X G zg3⟩,⟨_,mg_of X G zg4⟩,⟨_,mg_of X G zg5⟩,⟨_,mg_of X G zg6⟩,⟨_,mg_of X G zg7⟩,⟨_,mg_of X G zg8⟩,⟨_,mg_of X G zg9⟩,⟨_,mg_of X G zg10⟩,⟨_,mg_of X G zg11⟩,⟨_,mg_of X G zg12⟩,⟨_,mg_of X G zg13⟩,⟨_,mg_of X G zg14⟩,⟨_,mg_of X G zg15⟩,⟨_,mg_of X G zg16⟩,⟨_,mg_of X G zg17⟩,⟨_,mg_of X G zg18⟩,⟨_,mg_of X G zg19⟩,⟨_,mg_of X G zg20⟩,⟨_,mg_of X G zg21⟩,⟨_,mg_of X G zg22⟩,⟨_,mg_of X G zg23⟩,⟨_,mg_of X G zg24⟩,⟨_,mg_of X G zg25⟩,⟨_,mg_of X G zg26⟩,⟨_,mg_of X G zg27⟩,⟨_,mg_of X G zg28⟩,⟨_,mg_of X G zg29⟩,⟨_,mg_of X G zg30⟩,⟨_,mg_of X G zg31⟩,⟨_,mg_of X G zg32⟩,⟨_,mg_of X G zg33⟩,⟨_,mg_of X G zg34⟩,⟨_,mg_of X G zg35⟩,⟨_,mg_of X G zg36⟩,⟨_,mg_of X G zg37⟩,⟨_,mg_of X G zg38⟩,⟨_,mg_of X G zg39⟩,⟨_,mg_of X G zg40⟩,⟨_,mg_of X G zg41⟩,⟨_,mg_of X G zg42⟩,⟨_,mg_of X G zg43⟩,mg_none_of X G z_all,mg_none_of X G z_bool,mg_none_of X G z_enumerate,mg_none_of X G z_int,mg_none_of X G z_isinstance,mg_none_of X G z_len,mg_none_of X G z_list,mg_none_of X G z_max,mg_none_of X G z_min,mg_none_of X G z_range,mg_none_of X G z_sum,mg_none_of X G z_tuple,⟨pg_End,hd_End,po_End,sa_End⟩,⟨pg_Pile,hd_Pile,po_Pile,sa_Pile⟩,zA0,zA1,zA2,zA3,zA4,zA5,zA6,zA7,zA8,zA9,zA10,zA11,zA12,zA13,zA14,zA15,zA16,zA17,zA18,zA19,zA20,zA21,zA22,zA23,zA24,zA25⟩
  have F0:=ZB (st:=zs0) l0 c0 k0
  have b0:=F0.binds (ps:=zP0) fun _ _ _ _ _ _=>us1 fun _=>rfl
  have D0:Mk0 K mg "Pile" "Pile.__init__" zs0 zP0:=⟨_,_,F0,b0,⟨mk_Pile,a0,i0,kc_Pile⟩,mg_of X G aC_Pile⟩
  have F1:=ZB (st:=zs1) l1 c1 k1
  have b1:=F1.binds (ps:=zP1) fun _ _ _ _ _ _=>us1 fun _=>rfl
  have D1:Zn K mg "room" zs1 zP1:=⟨_,_,F1,b1,mg_of X G a1⟩
  have F2:=ZB (st:=zs2) l2 c2 k2
  have b2:=F2.binds (ps:=zP2) fun _ _ _ _ _ _=>us2 fun _ _=>rfl
  have D2:Zn K mg "lay" zs2 zP2:=⟨_,_,F2,b2,mg_of X G a2⟩
  have F3:=ZB (st:=zs3) l3 c3 k3
  have b3:=F3.binds (ps:=zP3) fun _ _ _ _ _ _=>us2 fun _ _=>rfl
  have D3:Zn K mg "take" zs3 zP3:=⟨_,_,F3,b3,mg_of X G a3⟩
  have F4:=ZB (st:=zs4) l4 c4 k4
  have b4:=F4.binds (ps:=zP4) fun _ _ _ _ _ _=>us2 fun _ _=>rfl
  have D4:Zn K mg "plus" zs4 zP4:=⟨_,_,F4,b4,mg_of X G a4⟩
  have F5:=ZB (st:=zs5) l5 c5 k5
  have b5:=F5.binds (ps:=zP5) fun _ _ _ _ _ _=>us2 fun _ _=>rfl
  have D5:Zn K mg "offset" zs5 zP5:=⟨_,_,F5,b5,mg_of X G a5⟩
  have F6:=ZB (st:=zs6) l6 c6 k6
  have b6:=F6.binds (ps:=zP6) fun _ _ _ _ _ _=>us2 fun _ _=>rfl
  have D6:Zn K mg "past" zs6 zP6:=⟨_,_,F6,b6,mg_of X G a6⟩
  have F7:=ZB (st:=zs7) l7 c7 k7
  have b7:=F7.binds (ps:=zP7) fun _ _ _ _ _ _=>us5 fun _ _ _ _ _=>rfl
  have D7:Mk0 K mg "End" "End.__init__" zs7 zP7:=⟨_,_,F7,b7,⟨mk_End,a7,i7,kc_End⟩,mg_of X G aC_End⟩
  have F8:=ZB (st:=zs8) l8 c8 k8
  have b8:=F8.binds (ps:=zP8) fun _ _ _ _ _ _=>us2 fun _ _=>rfl
  have D8:Zn K mg "start_timer" zs8 zP8:=⟨_,_,F8,b8,mg_of X G a8⟩
  have F9:=ZB (st:=zs9) l9 c9 k9
  have b9:=F9.binds (ps:=zP9) fun _ _ _ _ _ _=>us1 fun _=>rfl
  have D9:Zn K mg "state" zs9 zP9:=⟨_,_,F9,b9,mg_of X G a9⟩
  have F10:=ZB (st:=Zk9) l10 c10 k10
  have b10:=F10.binds (ps:=ZpR) fun _ _ _ _ _ _=>us1 fun _=>rfl
  have D10:Zn K mg "error" Zk9 ZpR:=⟨_,_,F10,b10,mg_of X G a10⟩
  have F11:=ZB (st:=Zk8) l11 c11 k11
  have b11:=F11.binds (ps:=ZpQ) fun _ _ _ _ _ _=>us1 fun _=>rfl
  have D11:Zn K mg "our_window" Zk8 ZpQ:=⟨_,_,F11,b11,mg_of X G a11⟩
  have F12:=ZB (st:=Zk7) l12 c12 k12
  have b12:=F12.binds (ps:=ZpP) fun _ _ _ _ _ _=>us1 fun _=>rfl
  have D12:Zn K mg "has_sent_fin" Zk7 ZpP:=⟨_,_,F12,b12,mg_of X G a12⟩
  have F13:=ZB (st:=Zk6) l13 c13 k13
  have b13:=F13.binds (ps:=ZpO) fun _ _ _ _ _ _=>us1 fun _=>rfl
  have D13:Zn K mg "folded" Zk6 ZpO:=⟨_,_,F13,b13,mg_of X G a13⟩
  have F14:=ZB (st:=Zk5) l14 c14 k14
  have b14:=F14.binds (ps:=ZpN) fun _ _ _ _ _ _=>us1 fun _=>rfl
  have D14:Zn K mg "sum_of" Zk5 ZpN:=⟨_,_,F14,b14,mg_of X G a14⟩
  have F15:=ZB (st:=Zk4) l15 c15 k15
  have b15:=F15.binds (ps:=ZpM) fun _ _ _ _ _ _=>us1 fun _=>rfl
  have D15:Zn K mg "length" Zk4 ZpM:=⟨_,_,F15,b15,mg_of X G a15⟩
  have F16:=ZB (st:=Zk3) l16 c16 k16
  have b16:=F16.binds (ps:=ZpL) fun _ _ _ _ _ _=>us2 fun _ _=>rfl
  have D16:Zn K mg "has" Zk3 ZpL:=⟨_,_,F16,b16,mg_of X G a16⟩
  have F17:=ZB (st:=Zk2) l17 c17 k17
  have b17:=F17.binds (ps:=ZpK) fun _ _ _ _ _ _=>us2 fun _ _=>rfl
  have D17:Zn K mg "bears" Zk2 ZpK:=⟨_,_,F17,b17,mg_of X G a17⟩
  have F18:=ZB (st:=Zk1) l18 c18 k18
  have b18:=F18.binds (ps:=ZpJ) fun _ _ _ _ _ _=>us1 fun _=>rfl
  have D18:Zn K mg "put" Zk1 ZpJ:=⟨_,_,F18,b18,mg_of X G a18⟩
  have F19:=ZB (st:=Zk0) l19 c19 k19
  have b19:=F19.binds (ps:=ZpI) fun _ _ _ _ _ _=>us1 fun _=>rfl
  have D19:Zn K mg "bytes_ahead_of_sum" Zk0 ZpI:=⟨_,_,F19,b19,mg_of X G a19⟩
  have F20:=ZB (st:=ZkZ) l20 c20 k20
  have b20:=F20.binds (ps:=ZpH) fun _ _ _ _ _ _=>us1 fun _=>rfl
  have D20:Zn K mg "byte_of_head" ZkZ ZpH:=⟨_,_,F20,b20,mg_of X G a20⟩
  have F21:=ZB (st:=ZkY) l21 c21 k21
  have b21:=F21.binds (ps:=ZpG) fun _ _ _ _ _ _=>us1 fun _=>rfl
  have D21:Zn K mg "bytes_of_most" ZkY ZpG:=⟨_,_,F21,b21,mg_of X G a21⟩
  have F22:=ZB (st:=ZkX) l22 c22 k22
  have b22:=F22.binds (ps:=ZpF) fun _ _ _ _ _ _=>us1 fun _=>rfl
  have D22:Zn K mg "two_bytes" ZkX ZpF:=⟨_,_,F22,b22,mg_of X G a22⟩
  have F23:=ZB (st:=ZkW) l23 c23 k23
  have b23:=F23.binds (ps:=ZpE) fun _ _ _ _ _ _=>us1 fun _=>rfl
  have D23:Zn K mg "four_bytes" ZkW ZpE:=⟨_,_,F23,b23,mg_of X G a23⟩
  have F24:=ZB (st:=ZkV) l24 c24 k24
  have b24:=F24.binds (ps:=ZpD) fun _ _ _ _ _ _=>us1 fun _=>rfl
  have D24:Zn K mg "is_right" ZkV ZpD:=⟨_,_,F24,b24,mg_of X G a24⟩
  have F25:=ZB (st:=ZkU) l25 c25 k25
  have b25:=F25.binds (ps:=ZpC) fun _ _ _ _ _ _=>us1 fun _=>rfl
  have D25:Zn K mg "head_of" ZkU ZpC:=⟨_,_,F25,b25,mg_of X G a25⟩
  have F26:=ZB (st:=ZkT) l26 c26 k26
  have b26:=F26.binds (ps:=ZpB) fun _ _ _ _ _ _=>us1 fun _=>rfl
  have D26:Zn K mg "is_right_long_head" ZkT ZpB:=⟨_,_,F26,b26,mg_of X G a26⟩
  have F27:=ZB (st:=ZkS) l27 c27 k27
  have b27:=F27.binds (ps:=ZpA) fun _ _ _ _ _ _=>us1 fun _=>rfl
  have D27:Zn K mg "get" ZkS ZpA:=⟨_,_,F27,b27,mg_of X G a27⟩
  have F28:=ZB (st:=ZkR) l28 c28 k28
  have b28:=F28.binds (ps:=Zpz) fun _ _ _ _ _ _=>us2 fun _ _=>rfl
  have D28:Zn K mg "two_at" ZkR Zpz:=⟨_,_,F28,b28,mg_of X G a28⟩
  have F29:=ZB (st:=ZkQ) l29 c29 k29
  have b29:=F29.binds (ps:=Zpy) fun _ _ _ _ _ _=>us2 fun _ _=>rfl
  have D29:Zn K mg "four_at" ZkQ Zpy:=⟨_,_,F29,b29,mg_of X G a29⟩
  have F30:=ZB (st:=ZkP) l30 c30 k30
  have b30:=F30.binds (ps:=Zpx) fun _ _ _ _ _ _=>us1 fun _=>rfl
  have D30:Zn K mg "reset_for" ZkP Zpx:=⟨_,_,F30,b30,mg_of X G a30⟩
  have F31:=ZB (st:=ZkO) l31 c31 k31
  have b31:=F31.binds (ps:=Zpw) fun _ _ _ _ _ _=>us2 fun _ _=>rfl
  have D31:Zn K mg "owe_reset_for" ZkO Zpw:=⟨_,_,F31,b31,mg_of X G a31⟩
  have F32:=ZB (st:=ZkN) l32 c32 k32
  have b32:=F32.binds (ps:=Zpv) fun _ _ _ _ _ _=>us2 fun _ _=>rfl
  have D32:Zn K mg "come_to_closed" ZkN Zpv:=⟨_,_,F32,b32,mg_of X G a32⟩
  have F33:=ZB (st:=ZkM) l33 c33 k33
  have b33:=F33.binds (ps:=Zpu) fun _ _ _ _ _ _=>us2 fun _ _=>rfl
  have D33:Zn K mg "come_to_listen" ZkM Zpu:=⟨_,_,F33,b33,mg_of X G a33⟩
  have F34:=ZB (st:=ZkL) l34 c34 k34
  have b34:=F34.binds (ps:=Zpt) fun _ _ _ _ _ _=>us2 fun _ _=>rfl
  have D34:Zn K mg "hear_syn" ZkL Zpt:=⟨_,_,F34,b34,mg_of X G a34⟩
  have F35:=ZB (st:=ZkK) l35 c35 k35
  have b35:=F35.binds (ps:=Zps) fun _ _ _ _ _ _=>us3 fun _ _ _=>rfl
  have D35:Zn K mg "come_to_syn_sent" ZkK Zps:=⟨_,_,F35,b35,mg_of X G a35⟩
  have F36:=ZB (st:=ZkJ) l36 c36 k36
  have b36:=F36.binds (ps:=Zpr) fun _ _ _ _ _ _=>us2 fun _ _=>rfl
  have D36:Zn K mg "answers_syn" ZkJ Zpr:=⟨_,_,F36,b36,mg_of X G a36⟩
  have F37:=ZB (st:=ZkI) l37 c37 k37
  have b37:=F37.binds (ps:=Zpq) fun _ _ _ _ _ _=>us2 fun _ _=>rfl
  have D37:Zn K mg "refuse" ZkI Zpq:=⟨_,_,F37,b37,mg_of X G a37⟩
  have F38:=ZB (st:=ZkH) l38 c38 k38
  have b38:=F38.binds (ps:=Zpp) fun _ _ _ _ _ _=>us3 fun _ _ _=>rfl
  have D38:Zn K mg "go_on_from_syn_sent" ZkH Zpp:=⟨_,_,F38,b38,mg_of X G a38⟩
  have F39:=ZB (st:=ZkG) l39 c39 k39
  have b39:=F39.binds (ps:=Zpo) fun _ _ _ _ _ _=>us3 fun _ _ _=>rfl
  have D39:Zn K mg "arrive" ZkG Zpo:=⟨_,_,F39,b39,mg_of X G a39⟩
  have F40:=ZB (st:=ZkF) l40 c40 k40
  have b40:=F40.binds (ps:=Zpn) fun _ _ _ _ _ _=>us2 fun _ _=>rfl
  have D40:Zn K mg "is_for" ZkF Zpn:=⟨_,_,F40,b40,mg_of X G a40⟩
  have F41:=ZB (st:=ZkE) l41 c41 k41
  have b41:=F41.binds (ps:=Zpm) fun _ _ _ _ _ _=>us3 fun _ _ _=>rfl
  have D41:Zn K mg "come_to_stream" ZkE Zpm:=⟨_,_,F41,b41,mg_of X G a41⟩
  have F42:=ZB (st:=ZkD) l42 c42 k42
  have b42:=F42.binds (ps:=Zpl) fun _ _ _ _ _ _=>us2 fun _ _=>rfl
  have D42:Zn K mg "fits" ZkD Zpl:=⟨_,_,F42,b42,mg_of X G a42⟩
  have F43:=ZB (st:=ZkC) l43 c43 k43
  have b43:=F43.binds (ps:=Zpk) fun _ _ _ _ _ _=>us2 fun _ _=>rfl
  have D43:Zn K mg "is_in_window" ZkC Zpk:=⟨_,_,F43,b43,mg_of X G a43⟩
  have F44:=ZB (st:=ZkB) l44 c44 k44
  have b44:=F44.binds (ps:=Zpj) fun _ _ _ _ _ _=>us3 fun _ _ _=>rfl
  have D44:Zn K mg "turn_away" ZkB Zpj:=⟨_,_,F44,b44,mg_of X G a44⟩
  have F45:=ZB (st:=ZkA) l45 c45 k45
  have b45:=F45.binds (ps:=Zpi) fun _ _ _ _ _ _=>us2 fun _ _=>rfl
  have D45:Zn K mg "hear_reset" ZkA Zpi:=⟨_,_,F45,b45,mg_of X G a45⟩
  have F46:=ZB (st:=Zkz) l46 c46 k46
  have b46:=F46.binds (ps:=Zph) fun _ _ _ _ _ _=>us3 fun _ _ _=>rfl
  have D46:Zn K mg "goes_on_behind_answer" Zkz Zph:=⟨_,_,F46,b46,mg_of X G a46⟩
  have F47:=ZB (st:=Zky) l47 c47 k47
  have b47:=F47.binds (ps:=Zpg) fun _ _ _ _ _ _=>us2 fun _ _=>rfl
  have D47:Zn K mg "has_answered_syn" Zky Zpg:=⟨_,_,F47,b47,mg_of X G a47⟩
  have F48:=ZB (st:=Zkx) l48 c48 k48
  have b48:=F48.binds (ps:=Zpf) fun _ _ _ _ _ _=>us2 fun _ _=>rfl
  have D48:Zn K mg "take_window" Zkx Zpf:=⟨_,_,F48,b48,mg_of X G a48⟩
  have F49:=ZB (st:=Zkw) l49 c49 k49
  have b49:=F49.binds (ps:=Zpe) fun _ _ _ _ _ _=>us3 fun _ _ _=>rfl
  have D49:Zn K mg "hear_answer" Zkw Zpe:=⟨_,_,F49,b49,mg_of X G a49⟩
  have F50:=ZB (st:=Zkv) l50 c50 k50
  have b50:=F50.binds (ps:=Zpd) fun _ _ _ _ _ _=>us2 fun _ _=>rfl
  have D50:Zn K mg "is_newer" Zkv Zpd:=⟨_,_,F50,b50,mg_of X G a50⟩
  have F51:=ZB (st:=Zku) l51 c51 k51
  have b51:=F51.binds (ps:=Zpc) fun _ _ _ _ _ _=>us2 fun _ _=>rfl
  have D51:Zn K mg "end_what_is_acknowledged" Zku Zpc:=⟨_,_,F51,b51,mg_of X G a51⟩
  have F52:=ZB (st:=Zkt) l52 c52 k52
  have b52:=F52.binds (ps:=Zpb) fun _ _ _ _ _ _=>us3 fun _ _ _=>rfl
  have D52:Zn K mg "hear_stream" Zkt Zpb:=⟨_,_,F52,b52,mg_of X G a52⟩
  have F53:=ZB (st:=Zks) l53 c53 k53
  have b53:=F53.binds (ps:=Zpa) fun _ _ _ _ _ _=>us2 fun _ _=>rfl
  have D53:Zn K mg "keep_data" Zks Zpa:=⟨_,_,F53,b53,mg_of X G a53⟩
  have F54:=ZB (st:=Zkr) l54 c54 k54
  have b54:=F54.binds (ps:=Zo9) fun _ _ _ _ _ _=>us2 fun _ _=>rfl
  have D54:Zn K mg "keep_fin" Zkr Zo9:=⟨_,_,F54,b54,mg_of X G a54⟩
  have F55:=ZB (st:=Zkq) l55 c55 k55
  have b55:=F55.binds (ps:=Zo8) fun _ _ _ _ _ _=>us1 fun _=>rfl
  have D55:Zn K mg "draw_in_order" Zkq Zo8:=⟨_,_,F55,b55,mg_of X G a55⟩
  have F56:=ZB (st:=Zkp) l56 c56 k56
  have b56:=F56.binds (ps:=Zo7) fun _ _ _ _ _ _=>us2 fun _ _=>rfl
  have D56:Zn K mg "hear_fin" Zkp Zo7:=⟨_,_,F56,b56,mg_of X G a56⟩
  have F57:=ZB (st:=Zko) l57 c57 k57
  have b57:=F57.binds (ps:=Zo6) fun _ _ _ _ _ _=>us4 fun _ _ _ _=>rfl
  have D57:Zn K mg "opened" Zko Zo6:=⟨_,_,F57,b57,mg_of X G a57⟩
  have F58:=ZB (st:=Zkn) l58 c58 k58
  have b58:=F58.binds (ps:=Zo5) fun _ _ _ _ _ _=>us2 fun _ _=>rfl
  have D58:Zn K mg "write" Zkn Zo5:=⟨_,_,F58,b58,mg_of X G a58⟩
  have F59:=ZB (st:=Zkm) l59 c59 k59
  have b59:=F59.binds (ps:=Zo4) fun _ _ _ _ _ _=>us2 fun _ _=>rfl
  have D59:Zn K mg "read" Zkm Zo4:=⟨_,_,F59,b59,mg_of X G a59⟩
  have F60:=ZB (st:=Zkl) l60 c60 k60
  have b60:=F60.binds (ps:=Zo3) fun _ _ _ _ _ _=>us2 fun _ _=>rfl
  have D60:Zn K mg "send" Zkl Zo3:=⟨_,_,F60,b60,mg_of X G a60⟩
  have F61:=ZB (st:=Zkk) l61 c61 k61
  have b61:=F61.binds (ps:=Zo2) fun _ _ _ _ _ _=>us2 fun _ _=>rfl
  have D61:Zn K mg "going" Zkk Zo2:=⟨_,_,F61,b61,mg_of X G a61⟩
  have F62:=ZB (st:=Zkj) l62 c62 k62
  have b62:=F62.binds (ps:=Zo1) fun _ _ _ _ _ _=>us1 fun _=>rfl
  have D62:Zn K mg "paid_reset" Zkj Zo1:=⟨_,_,F62,b62,mg_of X G a62⟩
  have F63:=ZB (st:=Zki) l63 c63 k63
  have b63:=F63.binds (ps:=Zo0) fun _ _ _ _ _ _=>us2 fun _ _=>rfl
  have D63:Zn K mg "is_due" Zki Zo0:=⟨_,_,F63,b63,mg_of X G a63⟩
  have F64:=ZB (st:=Zkh) l64 c64 k64
  have b64:=F64.binds (ps:=ZoZ) fun _ _ _ _ _ _=>us2 fun _ _=>rfl
  have D64:Zn K mg "again" Zkh ZoZ:=⟨_,_,F64,b64,mg_of X G a64⟩
  have F65:=ZB (st:=Zkg) l65 c65 k65
  have b65:=F65.binds (ps:=ZoY) fun _ _ _ _ _ _=>us1 fun _=>rfl
  have D65:Zn K mg "most_at_once" Zkg ZoY:=⟨_,_,F65,b65,mg_of X G a65⟩
  have F66:=ZB (st:=Zkf) l66 c66 k66
  have b66:=F66.binds (ps:=ZoX) fun _ _ _ _ _ _=>us1 fun _=>rfl
  have D66:Zn K mg "paid_syn" Zkf ZoX:=⟨_,_,F66,b66,mg_of X G a66⟩
  have F67:=ZB (st:=Zke) l67 c67 k67
  have b67:=F67.binds (ps:=ZoW) fun _ _ _ _ _ _=>us4 fun _ _ _ _=>rfl
  have D67:Zn K mg "segment_of" Zke ZoW:=⟨_,_,F67,b67,mg_of X G a67⟩
  have F68:=ZB (st:=Zkd) l68 c68 k68
  have b68:=F68.binds (ps:=ZoV) fun _ _ _ _ _ _=>us2 fun _ _=>rfl
  have D68:Zn K mg "going_as_new" Zkd ZoV:=⟨_,_,F68,b68,mg_of X G a68⟩
  have F69:=ZB (st:=Zkc) l69 c69 k69
  have b69:=F69.binds (ps:=ZoU) fun _ _ _ _ _ _=>us2 fun _ _=>rfl
  have D69:Zn K mg "new_syn" Zkc ZoU:=⟨_,_,F69,b69,mg_of X G a69⟩
  have F70:=ZB (st:=Zkb) l70 c70 k70
  have b70:=F70.binds (ps:=ZoT) fun _ _ _ _ _ _=>us1 fun _=>rfl
  have D70:Zn K mg "has_more" Zkb ZoT:=⟨_,_,F70,b70,mg_of X G a70⟩
  have F71:=ZB (st:=Zka) l71 c71 k71
  have b71:=F71.binds (ps:=ZoS) fun _ _ _ _ _ _=>us1 fun _=>rfl
  have D71:Zn K mg "has_new_data" Zka ZoS:=⟨_,_,F71,b71,mg_of X G a71⟩
  have F72:=ZB (st:=Zj9) l72 c72 k72
  have b72:=F72.binds (ps:=ZoR) fun _ _ _ _ _ _=>us1 fun _=>rfl
  have D72:Zn K mg "unsent" Zj9 ZoR:=⟨_,_,F72,b72,mg_of X G a72⟩
  have F73:=ZB (st:=Zj8) l73 c73 k73
  have b73:=F73.binds (ps:=ZoQ) fun _ _ _ _ _ _=>us1 fun _=>rfl
  have D73:Zn K mg "has_new_fin" Zj8 ZoQ:=⟨_,_,F73,b73,mg_of X G a73⟩
  have F74:=ZB (st:=Zj7) l74 c74 k74
  have b74:=F74.binds (ps:=ZoP) fun _ _ _ _ _ _=>us2 fun _ _=>rfl
  have D74:Zn K mg "new_piece" Zj7 ZoP:=⟨_,_,F74,b74,mg_of X G a74⟩
  have F75:=ZB (st:=Zj6) l75 c75 k75
  have b75:=F75.binds (ps:=ZoO) fun _ _ _ _ _ _=>us2 fun _ _=>rfl
  have D75:Zn K mg "new_data" Zj6 ZoO:=⟨_,_,F75,b75,mg_of X G a75⟩
  have F76:=ZB (st:=Zj5) l76 c76 k76
  have b76:=F76.binds (ps:=ZoN) fun _ _ _ _ _ _=>us1 fun _=>rfl
  have D76:Zn K mg "new_fin" Zj5 ZoN:=⟨_,_,F76,b76,mg_of X G a76⟩
  have F77:=ZB (st:=Zj4) l77 c77 k77
  have b77:=F77.binds (ps:=ZoM) fun _ _ _ _ _ _=>us2 fun _ _=>rfl
  have D77:Zn K mg "going_as_probe" Zj4 ZoM:=⟨_,_,F77,b77,mg_of X G a77⟩
  have F78:=ZB (st:=Zj3) l78 c78 k78
  have b78:=F78.binds (ps:=ZoL) fun _ _ _ _ _ _=>us1 fun _=>rfl
  have D78:Zn K mg "going_as_answer" Zj3 ZoL:=⟨_,_,F78,b78,mg_of X G a78⟩
  have F79:=ZB (st:=Zj2) l79 c79 k79
  have b79:=F79.binds (ps:=ZoK) fun _ _ _ _ _ _=>us2 fun _ _=>rfl
  have D79:Zn K mg "_law_cell" Zj2 ZoK:=⟨_,_,F79,b79,mg_of X G a79⟩
  have F80:=ZB (st:=Zj1) l80 c80 k80
  have b80:=F80.binds (ps:=ZoJ) fun _ _ _ _ _ _=>us2 fun _ _=>rfl
  have D80:Zn K mg "_law_mix" Zj1 ZoJ:=⟨_,_,F80,b80,mg_of X G a80⟩
  have F81:=ZB (st:=Zj0) l81 c81 k81
  have b81:=F81.binds (ps:=ZoI) fun _ _ _ _ _ _=>us1 fun _=>rfl
  have D81:Zn K mg "_law_two" Zj0 ZoI:=⟨_,_,F81,b81,mg_of X G a81⟩
  have F82:=ZB (st:=ZjZ) l82 c82 k82
  have b82:=F82.binds (ps:=ZoH) fun _ _ _ _ _ _=>us1 fun _=>rfl
  have D82:Zn K mg "_law_folded" ZjZ ZoH:=⟨_,_,F82,b82,mg_of X G a82⟩
  have F83:=ZB (st:=Zjq) l83 c83 k83
  have b83:=F83.binds (ps:=ZnN) fun _ _ _ _ _ _=>us1 fun _=>rfl
  have D83:Zn K mg "_law_bytes" Zjq ZnN:=⟨_,_,F83,b83,mg_of X G a83⟩
  have F84:=ZB (st:=ZiB) l84 c84 k84
  have b84:=F84.binds (ps:=ZoG) fun _ _ _ _ _ _=>us1 fun _=>rfl
  have D84:Zn K mg "_law_read" ZiB ZoG:=⟨_,_,F84,b84,mg_of X G a84⟩
  have F85:=ZB (st:=ZjY) l85 c85 k85
  have b85:=F85.binds (ps:=ZoF) fun _ _ _ _ _ _=>us1 fun _=>rfl
  have D85:Zn K mg "_law_byte" ZjY ZoF:=⟨_,_,F85,b85,mg_of X G a85⟩
  have F86:=ZB (st:=Zjp) l86 c86 k86
  have b86:=F86.binds (ps:=ZoE) fun _ _ _ _ _ _=>us2 fun _ _=>rfl
  have D86:Zn K mg "_law_any" Zjp ZoE:=⟨_,_,F86,b86,mg_of X G a86⟩
  have F87:=ZB (st:=ZjX) l87 c87 k87
  have b87:=F87.binds (ps:=ZoD) fun _ _ _ _ _ _=>us2 fun _ _=>rfl
  have D87:Zn K mg "_law_plus" ZjX ZoD:=⟨_,_,F87,b87,mg_of X G a87⟩
  have F88:=ZB (st:=ZjW) l88 c88 k88
  have b88:=F88.binds (ps:=ZoC) fun _ _ _ _ _ _=>us1 fun _=>rfl
  have D88:Zn K mg "_law_first" ZjW ZoC:=⟨_,_,F88,b88,mg_of X G a88⟩
  have F89:=ZB (st:=ZjV) l89 c89 k89
  have b89:=F89.binds (ps:=ZoB) fun _ _ _ _ _ _=>us2 fun _ _=>rfl
  have D89:Zn K mg "_law_given" ZjV ZoB:=⟨_,_,F89,b89,mg_of X G a89⟩
  have F90:=ZB (st:=ZjU) l90 c90 k90
  have b90:=F90.binds (ps:=ZoA) fun _ _ _ _ _ _=>us4 fun _ _ _ _=>rfl
  have D90:Zn K mg "_law_opened" ZjU ZoA:=⟨_,_,F90,b90,mg_of X G a90⟩
  have F91:=ZB (st:=Zjo) l91 c91 k91
  have b91:=F91.binds (ps:=Zoz) fun _ _ _ _ _ _=>us3 fun _ _ _=>rfl
  have D91:Zn K mg "_law_strange" Zjo Zoz:=⟨_,_,F91,b91,mg_of X G a91⟩
  have F92:=ZB (st:=ZhJ) l92 c92 k92
  have b92:=F92.binds (ps:=Zoy) fun _ _ _ _ _ _=>us1 fun _=>rfl
  have D92:Zn K mg "law" ZhJ Zoy:=⟨_,_,F92,b92,mg_of X G a92⟩
  refine ⟨fnOf "law" "law" (Zt ZhJ) (Zp ZhJ) (Zi ZhJ) .none kV92 dc92 pm92 an92 cd92 ct92,fun s v=>.of_eq rfl,fun base _ _=>?_⟩
  exact ZsQ law_true (ZuV F92 D0 D1 D2 D3 D4 D5 D6 D7 D8 D9 D10 D11 D12 D13 D14 D15 D16 D17 D18 D19 D20 D21 D22 D23 D24 D25 D26 D27 D28 D29 D30 D31 D32 D33 D34 D35 D36 D37 D38 D39 D40 D41 D42 D43 D44 D45 D46 D47 D48 D49 D50 D51 D52 D53 D54 D55 D56 D57 D58 D59 D60 D61 D62 D63 D64 D65 D66 D67 D68 D69 D70 D71 D72 D73 D74 D75 D76 D77 D78 D79 D80 D81 D82 D83 D84 D85 D86 D87 D88 D89 D90 D91 g)
theorem ZzA {l:OpenLaw} {q:Program} {loose:List Str} {XP:(Str→Option Value)→Heap→Prop} {YP:World→Heap→Prop} {d:DefRec} {K:Params→Frag} (hn:l.most=some 63) (hdf:d.params.defaults=[])
    (hY:∀(w:World) (h:Heap),YP w h→(K w.params).In h)
    (F:∀(w:World) (mg:Str→Option Value) (fa:Addr) (h:Heap),(K w.params).In h→h.Ns mainGlobals mg→mg d.name=some (.ref fa)→
      ∃fd:FuncData,(∀(s:Shared) (u:Value),BindsTo s fd ⟨[u],[]⟩ [("_law_script",u)])∧∀base:Heap,(K w.params).In base→base.Ns mainGlobals mg→FnOk l.prog w (K w.params) mg base CX0 10 fa fd ["_law_script"] (Zm7 (K w.params))) :
    WalkO q loose XP YP l.row.toRowW d [] (fun f vs=>PySem.call f vs):=
  L2.ZrY (n:=63) (k:=10) (x:="_law_script") (CX:=fun _=>CX0) (sp:=fun w=>Zm7 (K w.params)) hn (by decide) hdf ⟨rfl,by decide,by decide⟩ hY F (fun _ H a ns hl hO hS=>⟨a,ns,rfl,hO,hS,hl,fun _=>rfl⟩) fun _ _ _ _ _ z=>z
end My
open PySem PySem.W PyProof.Rows
set_option maxRecDepth 100000 in
set_option maxHeartbeats 0 in
theorem PySem.Challenge.cw_wirestream_k33_whole_strangers_holds : PySem.Challenge.rw_wirestream_k33_whole_strangers.Holds := by
  w_on; o_law; k_head; (case hw=>w_witness2)
  k_fill
  refine My.ZzA (l:=PySem.Challenge.rw_wirestream_k33_whole_strangers) rfl rfl (fun w h Y=>PySem.W.kIn_of Y) ?F
  case F=>
    intro w mg fa h KX G hmg
    refine' My.Zve KX G hmg ?aC_End ?aC_Pile ?a0 ?i0 ?l0 ?c0 ?k0 ?a1 ?l1 ?c1 ?k1 ?a2 ?l2 ?c2 ?k2 ?a3 ?l3 ?c3 ?k3 ?a4 ?l4 ?c4 ?k4 ?a5 ?l5 ?c5 ?k5 ?a6 ?l6 ?c6 ?k6 ?a7 ?i7 ?l7 ?c7 ?k7 ?a8 ?l8 ?c8 ?k8 ?a9 ?l9 ?c9 ?k9 ?a10 ?l10 ?c10 ?k10 ?a11 ?l11 ?c11 ?k11 ?a12 ?l12 ?c12 ?k12 ?a13 ?l13 ?c13 ?k13 ?a14 ?l14 ?c14 ?k14 ?a15 ?l15 ?c15 ?k15 ?a16 ?l16 ?c16 ?k16 ?a17 ?l17 ?c17 ?k17 ?a18 ?l18 ?c18 ?k18 ?a19 ?l19 ?c19 ?k19 ?a20 ?l20 ?c20 ?k20 ?a21 ?l21 ?c21 ?k21 ?a22 ?l22 ?c22 ?k22 ?a23 ?l23 ?c23 ?k23 ?a24 ?l24 ?c24 ?k24 ?a25 ?l25 ?c25 ?k25 ?a26 ?l26 ?c26 ?k26 ?a27 ?l27 ?c27 ?k27 ?a28 ?l28 ?c28 ?k28 ?a29 ?l29 ?c29 ?k29 ?a30 ?l30 ?c30 ?k30 ?a31 ?l31 ?c31 ?k31 ?a32 ?l32 ?c32 ?k32 ?a33 ?l33 ?c33 ?k33 ?a34 ?l34 ?c34 ?k34 ?a35 ?l35 ?c35 ?k35 ?a36 ?l36 ?c36 ?k36 ?a37 ?l37 ?c37 ?k37 ?a38 ?l38 ?c38 ?k38 ?a39 ?l39 ?c39 ?k39 ?a40 ?l40 ?c40 ?k40 ?a41 ?l41 ?c41 ?k41 ?a42 ?l42 ?c42 ?k42 ?a43 ?l43 ?c43 ?k43 ?a44 ?l44 ?c44 ?k44 ?a45 ?l45 ?c45 ?k45 ?a46 ?l46 ?c46 ?k46 ?a47 ?l47 ?c47 ?k47 ?a48 ?l48 ?c48 ?k48 ?a49 ?l49 ?c49 ?k49 ?a50 ?l50 ?c50 ?k50 ?a51 ?l51 ?c51 ?k51 ?a52 ?l52 ?c52 ?k52 ?a53 ?l53 ?c53 ?k53 ?a54 ?l54 ?c54 ?k54 ?a55 ?l55 ?c55 ?k55 ?a56 ?l56 ?c56 ?k56 ?a57 ?l57 ?c57 ?k57 ?a58 ?l58 ?c58 ?k58 ?a59 ?l59 ?c59 ?k59 ?a60 ?l60 ?c60 ?k60 ?a61 ?l61 ?c61 ?k61 ?a62 ?l62 ?c62 ?k62 ?a63 ?l63 ?c63 ?k63 ?a64 ?l64 ?c64 ?k64 ?a65 ?l65 ?c65 ?k65 ?a66 ?l66 ?c66 ?k66 ?a67 ?l67 ?c67 ?k67 ?a68 ?l68 ?c68 ?k68 ?a69 ?l69 ?c69 ?k69 ?a70 ?l70 ?c70 ?k70 ?a71 ?l71 ?c71 ?k71 ?a72 ?l72 ?c72 ?k72 ?a73 ?l73 ?c73 ?k73 ?a74 ?l74 ?c74 ?k74 ?a75 ?l75 ?c75 ?k75 ?a76 ?l76 ?c76 ?k76 ?a77 ?l77 ?c77 ?k77 ?a78 ?l78 ?c78 ?k78 ?a79 ?l79 ?c79 ?k79 ?a80 ?l80 ?c80 ?k80 ?a81 ?l81 ?c81 ?k81 ?a82 ?l82 ?c82 ?k82 ?a83 ?l83 ?c83 ?k83 ?a84 ?l84 ?c84 ?k84 ?a85 ?l85 ?c85 ?k85 ?a86 ?l86 ?c86 ?k86 ?a87 ?l87 ?c87 ?k87 ?a88 ?l88 ?c88 ?k88 ?a89 ?l89 ?c89 ?k89 ?a90 ?l90 ?c90 ?k90 ?a91 ?l91 ?c91 ?k91 ?a92 ?l92 ?c92 ?k92 ?pg_End ?hd_End ?po_End ?sa_End ?mk_End ?kc_End ?pg_Pile ?hd_Pile ?po_Pile ?sa_Pile ?mk_Pile ?kc_Pile ?zA0 ?zA1 ?zA2 ?zA3 ?zA4 ?zA5 ?zA6 ?zA7 ?zA8 ?zA9 ?zA10 ?zA11 ?zA12 ?zA13 ?zA14 ?zA15 ?zA16 ?zA17 ?zA18 ?zA19 ?zA20 ?zA21 ?zA22 ?zA23 ?zA24 ?zA25 ?zg0 ?zg1 ?zg2 ?zg3 ?zg4 ?zg5 ?zg6 ?zg7 ?zg8 ?zg9 ?zg10 ?zg11 ?zg12 ?zg13 ?zg14 ?zg15 ?zg16 ?zg17 ?zg18 ?zg19 ?zg20 ?zg21 ?zg22 ?zg23 ?zg24 ?zg25 ?zg26 ?zg27 ?zg28 ?zg29 ?zg30 ?zg31 ?zg32 ?zg33 ?zg34 ?zg35 ?zg36 ?zg37 ?zg38 ?zg39 ?zg40 ?zg41 ?zg42 ?zg43 ?z_all ?z_bool ?z_enumerate ?z_int ?z_isinstance ?z_len ?z_list ?z_max ?z_min ?z_range ?z_sum ?z_tuple
    case aC_End | aC_Pile | a0 | i0 | l0 | c0 | k0 | a1 | l1 | c1 | k1 | a2 | l2 | c2 | k2 | a3 | l3 | c3 | k3 | a4 | l4 | c4 | k4 | a5 | l5 | c5 | k5 | a6 | l6 | c6 | k6 | a7 | i7 | l7 | c7 | k7 | a8 | l8 | c8 | k8 | a9 | l9 | c9 | k9 | a10 | l10 | c10 | k10 | a11 | l11 | c11 | k11 | a12 | l12 | c12 | k12 | a13 | l13 | c13 | k13 | a14 | l14 | c14 | k14 | a15 | l15 | c15 | k15 | a16 | l16 | c16 | k16 | a17 | l17 | c17 | k17 | a18 | l18 | c18 | k18 | a19 | l19 | c19 | k19 | a20 | l20 | c20 | k20 | a21 | l21 | c21 | k21 | a22 | l22 | c22 | k22 | a23 | l23 | c23 | k23 | a24 | l24 | c24 | k24 | a25 | l25 | c25 | k25 | a26 | l26 | c26 | k26 | a27 | l27 | c27 | k27 | a28 | l28 | c28 | k28 | a29 | l29 | c29 | k29 | a30 | l30 | c30 | k30 | a31 | l31 | c31 | k31 | a32 | l32 | c32 | k32 | a33 | l33 | c33 | k33 | a34 | l34 | c34 | k34 | a35 | l35 | c35 | k35 | a36 | l36 | c36 | k36 | a37 | l37 | c37 | k37 | a38 | l38 | c38 | k38 | a39 | l39 | c39 | k39 | a40 | l40 | c40 | k40 | a41 | l41 | c41 | k41 | a42 | l42 | c42 | k42 | a43 | l43 | c43 | k43 | a44 | l44 | c44 | k44 | a45 | l45 | c45 | k45 | a46 | l46 | c46 | k46 | a47 | l47 | c47 | k47 | a48 | l48 | c48 | k48 | a49 | l49 | c49 | k49 | a50 | l50 | c50 | k50 | a51 | l51 | c51 | k51 | a52 | l52 | c52 | k52 | a53 | l53 | c53 | k53 | a54 | l54 | c54 | k54 | a55 | l55 | c55 | k55 | a56 | l56 | c56 | k56 | a57 | l57 | c57 | k57 | a58 | l58 | c58 | k58 | a59 | l59 | c59 | k59 | a60 | l60 | c60 | k60 | a61 | l61 | c61 | k61 | a62 | l62 | c62 | k62 | a63 | l63 | c63 | k63 | a64 | l64 | c64 | k64 | a65 | l65 | c65 | k65 | a66 | l66 | c66 | k66 | a67 | l67 | c67 | k67 | a68 | l68 | c68 | k68 | a69 | l69 | c69 | k69 | a70 | l70 | c70 | k70 | a71 | l71 | c71 | k71 | a72 | l72 | c72 | k72 | a73 | l73 | c73 | k73 | a74 | l74 | c74 | k74 | a75 | l75 | c75 | k75 | a76 | l76 | c76 | k76 | a77 | l77 | c77 | k77 | a78 | l78 | c78 | k78 | a79 | l79 | c79 | k79 | a80 | l80 | c80 | k80 | a81 | l81 | c81 | k81 | a82 | l82 | c82 | k82 | a83 | l83 | c83 | k83 | a84 | l84 | c84 | k84 | a85 | l85 | c85 | k85 | a86 | l86 | c86 | k86 | a87 | l87 | c87 | k87 | a88 | l88 | c88 | k88 | a89 | l89 | c89 | k89 | a90 | l90 | c90 | k90 | a91 | l91 | c91 | k91 | a92 | l92 | c92 | k92 | pg_End | hd_End | po_End | sa_End | mk_End | kc_End | pg_Pile | hd_Pile | po_Pile | sa_Pile | mk_Pile | kc_Pile | zA0 | zA1 | zA2 | zA3 | zA4 | zA5 | zA6 | zA7 | zA8 | zA9 | zA10 | zA11 | zA12 | zA13 | zA14 | zA15 | zA16 | zA17 | zA18 | zA19 | zA20 | zA21 | zA22 | zA23 | zA24 | zA25 | zg0 | zg1 | zg2 | zg3 | zg4 | zg5 | zg6 | zg7 | zg8 | zg9 | zg10 | zg11 | zg12 | zg13 | zg14 | zg15 | zg16 | zg17 | zg18 | zg19 | zg20 | zg21 | zg22 | zg23 | zg24 | zg25 | zg26 | zg27 | zg28 | zg29 | zg30 | zg31 | zg32 | zg33 | zg34 | zg35 | zg36 | zg37 | zg38 | zg39 | zg40 | zg41 | zg42 | zg43 | z_all | z_bool | z_enumerate | z_int | z_isinstance | z_len | z_list | z_max | z_min | z_range | z_sum | z_tuple=>k_is
#print axioms PySem.Challenge.cw_wirestream_k33_whole_strangers_holds
