import PyProof.Rows.All
import KE.KDictLaws
import KE.KDictOf
import KE.KFromBytes
import KE.KIsAll
import KE.KItem
import Wide.Meth
import PySem.Challenge.RW_wirestream_k23_closing
set_option compiler.extract_closed false
set_option bootstrap.genMatcherCode false
set_option Elab.async false
set_option linter.all false
set_option maxRecDepth 100000
namespace L2
open PySem PySem.Spec PyProof.Rows
abbrev Key:=Sum Int Str
def Zi6:Key→Value→Bool
  | .inl k,v=>Value.isInt k v
  | .inr x,v=>Value.isStrOf x v
def ZAL (w:World):Key→Int
  | .inl k=>hashInt k
  | .inr x=>hashStr w x
theorem Zar:∀{k:Key} {v:Value},Zi6 k v=true→(∃i t,k=Sum.inl i∧v=Value.int i t)∨(∃x t,k=Sum.inr x∧v=Value.str x t)
  | .inl i,v,h=>by
    obtain ⟨t,e⟩:=Value.isInt_shape (k:=i) (v:=v) h
    exact .inl ⟨i,t,rfl,e⟩
  | .inr x,v,h=>by
    obtain ⟨t,e⟩:=Value.isStrOf_shape (x:=x) (v:=v) h
    exact .inr ⟨x,t,rfl,e⟩
theorem Zop (i:Int) (t:Tok):Zi6 (.inl i) (.int i t)=true:=by simp [Zi6,Value.isInt]
theorem Zoo (x:Str) (t:Tok):Zi6 (.inr x) (.str x t)=true:=by simp [Zi6,Value.isStrOf]
theorem Zvc (a b:Int):decide ((Sum.inl a:Key)=Sum.inl b)=(a == b):=by
  by_cases e:a=b
  · subst e; simp
  · have h:¬(Sum.inl a:Key)=Sum.inl b:=fun q=>e (Sum.inl.inj q)
    rw [decide_eq_false h]
    exact (beq_eq_false_iff_ne.mpr e).symm
theorem Zu9 (a b:Str):decide ((Sum.inr a:Key)=Sum.inr b)=decide (a=b):=by
  by_cases e:a=b
  · subst e; simp
  · have h:¬(Sum.inr a:Key)=Sum.inr b:=fun q=>e (Sum.inr.inj q)
    rw [decide_eq_false h,decide_eq_false e]
theorem Zvb (a:Int) (b:Str):decide ((Sum.inl a:Key)=Sum.inr b)=false:=decide_eq_false (fun q=>nomatch q)
theorem Zva (a:Str) (b:Int):decide ((Sum.inr a:Key)=Sum.inl b)=false:=decide_eq_false (fun q=>nomatch q)
def zZ (prog:Program) (w:World):PySem.KeyKind prog w Key where
  is:=Zi6
  hash:=ZAL w
  inj:=fun v a b ha hb=>by
    rcases Zar ha with ⟨i,t,rfl,rfl⟩ | ⟨x,t,rfl,rfl⟩
    · rcases Zar hb with ⟨j,u,rfl,e⟩ | ⟨y,u,rfl,e⟩
      · injection e with e1 _; rw [e1]
      · exact nomatch e
    · rcases Zar hb with ⟨j,u,rfl,e⟩ | ⟨y,u,rfl,e⟩
      · exact nomatch e
      · injection e with e1 _; rw [e1]
  byValue:=fun k v h=>by
    rcases Zar h with ⟨i,t,rfl,rfl⟩ | ⟨x,t,rfl,rfl⟩<;>rfl
  pyHash:=fun hv h=>by
    rcases Zar hv with ⟨i,t,rfl,rfl⟩ | ⟨x,t,rfl,rfl⟩
    · exact wpAny_pyHash_int h
    · exact wpAny_pyHash_str h
  eqBool:=fun hu hv h=>by
    rcases Zar hu with ⟨i,t,rfl,rfl⟩ | ⟨x,t,rfl,rfl⟩
    · rcases Zar hv with ⟨j,u,rfl,rfl⟩ | ⟨y,u,rfl,rfl⟩
      · rw [Zvc] at h; exact wpAny_eqBool_int h
      · rw [Zvb] at h; exact SeqAt.EqAt.int_str i t y u _ _ _ _ h
    · rcases Zar hv with ⟨j,u,rfl,rfl⟩ | ⟨y,u,rfl,rfl⟩
      · rw [Zva] at h; exact SeqAt.EqAt.str_int x t j u _ _ _ _ h
      · rw [Zu9] at h; exact wpAny_eqBool_str h
  «strs»:=fun k x t v h=>by
    rcases Zar h with ⟨i,u,rfl,e⟩ | ⟨y,u,rfl,e⟩
    · exact nomatch e
    · injection e with e1 _
      subst e1
      cases v<;>rfl
theorem ZlT (prog:Program) (w:World) (i:Int) (t:Tok):(zZ prog w).is (.inl i) (.int i t)=true:=Zop i t
theorem ZlS (prog:Program) (w:World) (x:Str) (t:Tok):(zZ prog w).is (.inr x) (.str x t)=true:=Zoo x t
end L2
namespace L2
open PySem PySem.Spec PyProof.Rows
inductive V where
  | non | bl (b:Bool) | int (i:Int) | str (x:Str) | byt (b:Array UInt8) | flt (b:UInt64) | ref (a:Addr) | ty (n:String)
  deriving DecidableEq
def RelV:V→Value→Prop
  | .non,u=>u=Value.none
  | .bl b,u=>u=Value.bool b
  | .int i,u=>∃t,u=Value.int i t
  | .str x,u=>∃t,u=Value.str x t
  | .byt b,u=>∃t,u=Value.bytes b t
  | .flt b,u=>∃t,u=Value.float b t
  | .ref a,u=>u=Value.ref a
  | .ty n,u=>u=Value.type n
abbrev Vals:List V→List Value→Prop:=Paired RelV
theorem Vals.length {xs:List V} {us:List Value} (r:Vals xs us):xs.length=us.length:=Paired.length r
theorem Vals.get:∀{xs:List V} {us:List Value} {i:Nat} {x:V},Vals xs us→xs[i]?=some x→∃u,us[i]?=some u∧RelV x u
  | _,_,_,_,.nil,e=>by simp at e
  | _,_,0,_,.cons r _,e=>by simp at e; subst e; exact ⟨_,rfl,r⟩
  | _,_,i+1,x,.cons _ t,e=>by
    obtain ⟨u,h1,h2⟩:=Vals.get (i:=i) (x:=x) t (by simpa using e)
    exact ⟨u,by simpa using h1,h2⟩
theorem Vals.append:∀{xs ys:List V} {us ws:List Value},Vals xs us→Vals ys ws→Vals (xs++ys) (us++ws)
  | _,_,_,_,.nil,s=>s
  | _,_,_,_,.cons r t,s=>.cons r (Vals.append t s)
theorem Vals.take:∀{xs:List V} {us:List Value} (n:Nat),Vals xs us→Vals (xs.take n) (us.take n)
  | _,_,0,_=>.nil
  | _,_,_+1,.nil=>.nil
  | _,_,n+1,.cons r t=>.cons r (Vals.take n t)
theorem Vals.drop:∀{xs:List V} {us:List Value} (n:Nat),Vals xs us→Vals (xs.drop n) (us.drop n)
  | _,_,0,r=>r
  | _,_,_+1,.nil=>.nil
  | _,_,n+1,.cons _ t=>Vals.drop n t
theorem Vals.none_of:∀{xs:List V} {us:List Value} {i:Nat},Vals xs us→xs[i]?=none→us[i]?=none:=fun {xs us i} r e=>by
  have h1:=r.length
  have h2:xs.length≤i:=List.getElem?_eq_none_iff.mp e
  exact List.getElem?_eq_none_iff.mpr (by omega)
def RelO:Option V→Option Value→Prop
  | some v,some u=>RelV v u
  | none,none=>True
  | _,_=>False
def KV {κ:Type}:List (κ×V)→List (κ×Value)→Prop:=Paired fun (p:κ×V) (q:κ×Value)=>p.1=q.1∧RelV p.2 q.2
def kV:Key→V
  | .inl i=>.int i
  | .inr x=>.str x
inductive HO where
  | lst (xs:List V)
  | tup (xs:List V)
  | dK (kvs:List (Key×V)) | dT (kvs:List (List Key×V))
  | set (S:Int→Bool) (n:Nat)
  | ins (C dx:Addr) (fs:List (Str×V))
  | own (x:Addr)
  | xd (fs:List (Str×V))
  | met (f x:Addr)
  | rng (lo hi:Int)
  | frz (o:Obj) (u:HO)
  | tbl (ps:Array Value)
  | ext (φ:Heap→Prop)
abbrev Hp:=Addr→Option HO
def upd (H:Hp) (a:Addr) (o:HO):Hp:=fun b=>if b=a then some o else H b
theorem zi {H:Hp} {a:Addr} {o:HO}:upd H a o a=some o:=by unfold upd; rw [if_pos rfl]
theorem ZS {H:Hp} {a b:Addr} {o:HO} (h:b≠a):upd H a o b=H b:=by unfold upd; rw [if_neg h]
theorem Zm5 {H:Hp} {a:Addr} {o u:HO}:upd (upd H a o) a u=upd H a u:=by
  funext b; unfold upd; split<;>rfl
theorem zm {H:Hp} {a b:Addr} {o:HO} (h:H a=some o) (h':H b=none):a≠b:=by
  intro e; subst e; rw [h] at h'; cases h'
section
variable (P:Program) (w:World)
def ObjOk (H:Hp) (h:Heap) (a:Addr):HO→Prop
  | .lst xs=>xs.length≤sizeLine∧∃(its:List Value) (n:Nat),Vals xs its∧h.get? a=some { cls:=.type "list",data:=.seq its.toArray n }
  | .tup xs=>xs.length≤sizeLine∧∃its:List Value,Vals xs its∧IsTup h a its.toArray
  | .dK kvs=>kvs.length≤sizeLine∧(a == sysModules)=false∧∃vs,KV kvs vs∧h.DictOf (zZ P w) a vs
  | .dT kvs=>kvs.length≤sizeLine∧(a == sysModules)=false∧∃xs:List (List Key×Addr×Value),
      Paired (fun (p:List Key×V) (q:List Key×Addr×Value)=>p.1=q.1∧H q.2.1=some (.tup (p.1.map kV))∧RelV p.2 q.2.2) kvs xs∧
      ∃o es ep,h.get? a=some o∧o.ExactDict∧o.data=.dict es ep∧es.toList=xs.map (entryOfKey (tupleKind (zZ P w)))∧(xs.map (·.1)).Nodup
  | .set S n=>h.SetOf (intKind P w) a S n
  | .ins C dx fs=>H dx=some (.own a)∧fs.length≤1000∧dx≠a∧h.get? a=some (PySem.W.instObj C dx)∧
      ∃mA,h.Ns1 dx mA∧(∀f,RelO (fs.lookup f) (mA f))∧PySem.Within mA (fs.map (·.1))
  | .own _=>∃o,h.get? a=some o
  | .xd fs=>∃mA,h.Ns1 a mA∧∀f,RelO (fs.lookup f) (mA f)
  | .rng lo hi=>∃t u v,h.get? a=some { cls:=.type "range",data:=.fields #[.int lo t,.int hi u,.int 1 v] }
  | .frz o u=>h.get? a=some o∧ObjOk H h a u
  | .tbl ps=>h.get? a=some { cls:=.none,data:=.fields ps }
  | .met f x=>h.get? a=some (PySem.W.methodObj (.ref f) (.ref x))
  | .ext φ=>φ h∧(∃o,h.get? a=some o)∧∀h1 h2:Heap,φ h1→(∀o,h1.get? a=some o→h2.get? a=some o)→φ h2
def HOk (H:Hp) (h:Heap):Prop:=∀a o,H a=some o→ObjOk P w H h a o
end
section
variable {P:Program} {w:World} {H H':Hp} {h h':Heap} {a:Addr} {o:HO}
theorem ObjOk.lt (x:ObjOk P w H h a o):a<h.objs.size:=by
  cases o with
  | lst xs=>obtain ⟨_,_,_,_,e⟩:=x; exact Heap.lt_size e
  | tup xs=>obtain ⟨_,_,_,p⟩:=x; exact p.lt
  | dK kvs=>obtain ⟨_,_,_,_,o,_,_,e,_⟩:=x; exact Heap.lt_size e
  | dT kvs=>obtain ⟨_,_,_,_,o,_,_,e,_⟩:=x; exact Heap.lt_size e
  | set S n=>obtain ⟨o,_,_,_,e,_⟩:=x; exact Heap.lt_size e
  | ins C dx fs=>obtain ⟨_,_,_,e,_⟩:=x; exact Heap.lt_size e
  | own y=>obtain ⟨_,e⟩:=x; exact Heap.lt_size e
  | xd fs=>obtain ⟨_,⟨_,_,_,e,_⟩,_⟩:=x; exact Heap.lt_size e
  | rng lo hi=>obtain ⟨_,_,_,e⟩:=x; exact Heap.lt_size e
  | frz ob u=>obtain ⟨e,_⟩:=x; exact Heap.lt_size e
  | tbl ps=>exact Heap.lt_size (show h.get? a=some _ from x)
  | met f y=>exact Heap.lt_size (show h.get? a=some _ from x)
  | ext φ=>obtain ⟨_,⟨_,e⟩,_⟩:=x; exact Heap.lt_size e
theorem Paired.mapP {α β:Type} {F G:α→β→Prop}:∀{l₁:List α} {l₂:List β},Paired F l₁ l₂→(∀a b,F a b→G a b)→Paired G l₁ l₂
  | _,_,.nil,_=>.nil
  | _,_,.cons r t,f=>.cons (f _ _ r) (Paired.mapP t f)
theorem ObjOk.stay (x:ObjOk P w H h a o) (k:∀b u,(b=a∨H b=some (.own a))→h.get? b=some u→h'.get? b=some u)
    (ho:∀b,H b=some (.own a)→H' b=some (.own a)) (ht:∀b xs,H b=some (.tup xs)→H' b=some (.tup xs)):ObjOk P w H' h' a o:=by
  induction o with
  | lst xs=>obtain ⟨z,its,n,r,e⟩:=x; exact ⟨z,its,n,r,k _ _ (.inl rfl) e⟩
  | tup xs=>obtain ⟨z,its,r,ob,e,c⟩:=x; exact ⟨z,its,r,ob,k _ _ (.inl rfl) e,c⟩
  | dK kvs=>obtain ⟨z,y,vs,r,ob,es,ep,e,c⟩:=x; exact ⟨z,y,vs,r,ob,es,ep,k _ _ (.inl rfl) e,c⟩
  | dT kvs=>
    obtain ⟨z,y,xs,r,ob,es,ep,e,c⟩:=x
    exact ⟨z,y,xs,Paired.mapP r fun p q z=>⟨z.1,ht _ _ z.2.1,z.2.2⟩,ob,es,ep,k _ _ (.inl rfl) e,c⟩
  | set S n=>obtain ⟨ob,es,ep,t,e,c⟩:=x; exact ⟨ob,es,ep,t,k _ _ (.inl rfl) e,c⟩
  | ins C dx fs=>
    obtain ⟨d,z,ne,e,mA,⟨od,es,ep,e2,c⟩,r⟩:=x
    exact ⟨ho _ d,z,ne,k _ _ (.inl rfl) e,mA,⟨od,es,ep,k _ _ (.inr d) e2,c⟩,r⟩
  | own y=>obtain ⟨ob,e⟩:=x; exact ⟨ob,k _ _ (.inl rfl) e⟩
  | xd fs=>obtain ⟨mA,⟨od,es,ep,e,c⟩,r⟩:=x; exact ⟨mA,⟨od,es,ep,k _ _ (.inl rfl) e,c⟩,r⟩
  | rng lo hi=>obtain ⟨t,u,v,e⟩:=x; exact ⟨t,u,v,k _ _ (.inl rfl) e⟩
  | frz ob u ih=>obtain ⟨e,q⟩:=x; exact ⟨k _ _ (.inl rfl) e,ih q⟩
  | tbl ps=>
    have e:h.get? a=some { cls:=.none,data:=.fields ps }:=x
    show h'.get? a=some { cls:=.none,data:=.fields ps }
    exact k a _ (.inl rfl) e
  | met f y=>
    have e:h.get? a=some (PySem.W.methodObj (.ref f) (.ref y)):=x
    show h'.get? a=some (PySem.W.methodObj (.ref f) (.ref y))
    exact k a _ (.inl rfl) e
  | ext φ=>obtain ⟨p,⟨o,e⟩,st⟩:=x; exact ⟨st _ _ p fun o q=>k _ _ (.inl rfl) q,⟨o,k _ _ (.inl rfl) e⟩,st⟩
theorem HOk.lt (x:HOk P w H h) (e:H a=some o):a<h.objs.size:=(x a o e).lt
theorem HOk.fresh (x:HOk P w H h) (e:h.objs.size≤a):H a=none:=by
  cases q:H a with
  | none=>rfl
  | some u=>exact absurd (Nat.lt_of_lt_of_le (x.lt q) e) (Nat.lt_irrefl _)
theorem HOk.kept (x:HOk P w H h) (k:∀b u,h.get? b=some u→h'.get? b=some u):HOk P w H h':=fun a o e=>
  (x a o e).stay (fun b u _ q=>k b u q) (fun _ q=>q) fun _ _ q=>q
theorem HOk.laid (x:HOk P w H h) (k:∀b u,h.get? b=some u→h'.get? b=some u) (hp:h.objs.size≤a) (new:ObjOk P w (upd H a o) h' a o):HOk P w (upd H a o) h':=fun b u e=>by
  have hn:=x.fresh hp
  by_cases hb:b=a
  · subst hb; rw [zi] at e; cases e; exact new
  · rw [ZS hb] at e
    exact (x b u e).stay (fun c v _ q=>k c v q) (fun c q=>by rw [ZS (zm q hn)]; exact q) fun c xs q=>by rw [ZS (zm q hn)]; exact q
end
def Rd (H:Hp) (a:Addr) (u:HO):Prop:=H a=some u∨∃o,H a=some (.frz o u)
theorem Rd.ok {P:Program} {w:World} {H:Hp} {h:Heap} {a:Addr} {u:HO} (r:Rd H a u) (x:HOk P w H h):ObjOk P w H h a u:=by
  rcases r with r | ⟨o,r⟩
  · exact x a u r
  · obtain ⟨_,q⟩:=x a _ r
    exact q
def Mut:Option HO→Prop
  | some (.lst _)=>True
  | some (.dK _)=>True
  | some (.dT _)=>True
  | some (.set _ _)=>True
  | some (.ins _ _ _)=>True
  | some (.ext _)=>True
  | _=>False
section
variable {P:Program} {w:World} {H:Hp} {h h':Heap} {x e:Addr} {o':HO}
theorem HOk.write (ok:HOk P w H h) (mu:Mut (H x)) (he:e=x∨H e=some (.own x)) (k:∀b u,b≠e→h.get? b=some u→h'.get? b=some u) (heo:∃u,h'.get? e=some u)
    (new:ObjOk P w (upd H x o') h' x o'):HOk P w (upd H x o') h':=fun b u q=>by
  have nown:∀c y,H c=some (.own y)→c≠x:=fun c y r z=>by subst z; rw [r] at mu; exact mu
  have ntup:∀c xs,H c=some (.tup xs)→c≠x:=fun c xs r z=>by subst z; rw [r] at mu; exact mu
  by_cases hb:b=x
  · subst hb; rw [zi] at q; cases q; exact new
  · rw [ZS hb] at q
    by_cases hbe:b=e
    · have q':H b=some (.own x):=by
        rcases he with z | z
        · exact absurd (hbe.trans z) hb
        · rw [hbe]; exact z
      rw [q] at q'; cases q'
      obtain ⟨v,hv⟩:=heo
      exact ⟨v,by rw [hbe]; exact hv⟩
    · refine (ok b u q).stay (fun c v hc r=>k c v ?_ r) (fun c r=>by rw [ZS (nown c b r)]; exact r) fun c xs r=>by rw [ZS (ntup c xs r)]; exact r
      rcases hc with rfl | hc
      · exact hbe
      · rintro rfl
        rcases he with z | z
        · exact nown c b hc z
        · rw [hc] at z; cases z; exact hb rfl
end
structure Un (fs ex:List Addr) (H H':Hp) (h h':Heap):Prop where
  keep:∀b o,h.get? b=some o→H b=none→b∉fs→b∉ex→h'.get? b=some o
  slot:∀b o,h.get? b=some o→H b=none→b∈fs→b∉ex→∃sl,h'.get? b=some { o with slots:=sl }
  free:∀b o,h.get? b=some o→H b=none→b∉ex→H' b=none
  there:∀b o,h.get? b=some o→b∉ex→∃o',h'.get? b=some o'
  tups:∀b xs,H b=some (.tup xs)→H' b=some (.tup xs)
  frzs:∀b o u,H b=some (.frz o u)→H' b=some (.frz o u)
  tbls:∀b ps,H b=some (.tbl ps)→∃more,H' b=some (.tbl (ps++more))
section
variable {fs fs' ex ex':List Addr} {H H1 H2:Hp} {h h1 h2 h':Heap} {a x e:Addr} {o:HO}
theorem Un.any (u:Un fs ex H H1 h h1) {b:Addr} {ob:Obj} (q:h.get? b=some ob) (n:H b=none) (hx:b∉ex):∃sl,h1.get? b=some { ob with slots:=sl }:=by
  by_cases hb:b∈fs
  · exact u.slot b ob q n hb hx
  · exact ⟨ob.slots,u.keep b ob q n hb hx⟩
theorem Un.kept (k:∀b u,h.get? b=some u→h'.get? b=some u):Un fs ex H H h h':=
  ⟨fun b ob q _ _ _=>k b ob q,fun b ob q _ _ _=>⟨ob.slots,k b ob q⟩,fun _ _ _ n _=>n,fun b ob q _=>⟨ob,k b ob q⟩,fun _ _ q=>q,fun _ _ _ q=>q,fun _ ps q=>⟨#[],by rw [q]; simp⟩⟩
theorem Un.refl:Un fs ex H H h h:=Un.kept fun _ _ q=>q
theorem Un.laid (k:∀b u,h.get? b=some u→h'.get? b=some u) (hp:h.objs.size≤a) (hn:H a=none):Un fs ex H (upd H a o) h h' where
  keep:=fun b u q _ _ _=>k b u q
  slot:=fun b u q _ _ _=>⟨u.slots,k b u q⟩
  free:=fun b u q n _=>by rw [ZS (Nat.ne_of_lt (Nat.lt_of_lt_of_le (Heap.lt_size q) hp))]; exact n
  there:=fun b u q _=>⟨u,k b u q⟩
  tups:=fun b xs q=>by rw [ZS (zm q hn)]; exact q
  frzs:=fun b u xs q=>by rw [ZS (zm q hn)]; exact q
  tbls:=fun b ps q=>⟨#[],by rw [ZS (zm q hn),q]; simp⟩
theorem Un.write (mu:Mut (H x)) (he:e=x∨H e=some (.own x)) (k:∀b u,b≠e→h.get? b=some u→h'.get? b=some u) (heo:∃u,h'.get? e=some u):Un fs ex H (upd H x o) h h':=by
  have hx:∀b,H b=none→b≠x:=fun b n z=>by subst z; rw [n] at mu; exact mu
  have hb:∀b,H b=none→b≠e:=fun b n z=>by
    subst z
    rcases he with r | r
    · exact hx b n r
    · rw [n] at r; cases r
  have hm:∀b u,H b=some u→¬Mut (some u)→b≠x:=fun b u q nm z=>by subst z; rw [q] at mu; exact nm mu
  refine ⟨fun b u q n _ _=>k b u (hb b n) q,fun b u q n _ _=>⟨u.slots,k b u (hb b n) q⟩,fun b u q n _=>by rw [ZS (hx b n)]; exact n,fun b u q _=>?_,
    fun b xs q=>by rw [ZS (hm b _ q fun z=>z)]; exact q,fun b u xs q=>by rw [ZS (hm b _ q fun z=>z)]; exact q,fun b ps q=>⟨#[],by rw [ZS (hm b _ q fun z=>z),q]; simp⟩⟩
  by_cases hbe:b=e
  · subst hbe; exact heo
  · exact ⟨u,k b u hbe q⟩
end
def trk (h:Heap) (H:Hp):List Addr:=(List.range h.objs.size).filter fun a=>(H a).isSome
def ZjQ (h:Heap) (H:Hp):Heap:=PySem.W.hideAll h (trk h H)
theorem Zot (h:Heap) (H:Hp):(ZjQ h H).objs.size=h.objs.size:=PySem.W.hideAll_size _ _
theorem Zrp {h:Heap} {H:Hp} {b:Addr} {o:Obj} (e:h.get? b=some o) (n:H b=none):(ZjQ h H).get? b=some o:=
  PySem.W.hideAll_get _ e fun hm=>by
    have q:(H b).isSome=true:=(List.mem_filter.mp hm).2
    rw [n] at q; simp at q
theorem ZsR {h:Heap} {H:Hp} {b:Addr} {o:Obj} (e:(ZjQ h H).get? b=some o):h.get? b=some o∧H b=none:=by
  have e':h.get? b=some o:=PySem.W.of_hideAll (trk h H) e
  refine ⟨e',?_⟩
  cases q:H b with
  | none=>rfl
  | some x=>
    have hm:b∈trk h H:=List.mem_filter.mpr ⟨List.mem_range.mpr (Heap.lt_size e'),by simp [q]⟩
    have z:(ZjQ h H).get? b=none:=PySem.W.hideAll_none (trk h H) hm
    rw [z] at e; cases e
def Ztr (g h:Heap) (L:Addr):List (Addr×Obj):=(List.range h.objs.size).filterMap fun a=>if a=L∨(g.get? a).isSome=true then none else (h.get? a).map fun o=>(a,o)
def rest (g h:Heap) (L d:Addr):List (Addr×Obj):=(Ztr g h L).filter fun p=>decide (p.1≠d)
end L2
namespace L2
open PySem PySem.Spec PyProof.Rows
structure Mod (K:PySem.W.Frag) (mg:Str→Option Value) (base:Heap):Prop where
  kin:K.In base
  glob:base.Ns mainGlobals mg
  blt:∃mb,base.Ns builtinsNs mb∧∀x:Str,x≠"__name__"→mb x=bootBuiltins x
  nolimit:base.NoLimit
structure Cx where
  prog:Program
  w:World
  K:PySem.W.Frag
  mg:Str→Option Value
  base:Heap
  A:Around
  N:List Str
  s₀:Shared
  H₀:Hp
  env:Env
  outer:List Env
  stack:List Env
  ex:List Addr
  fn:Str→Bool
  calm:Bool
  pn:List (Addr×Obj)
  xe:Value→Shared→Prop
def frs (l:List Env):List Addr:=l.filterMap (·.frame)
abbrev Cx.fs (X:Cx):List Addr:=frs X.outer
def Vis (sc:Scope) (x:Str):Prop:=sc.names.lookup x=some .local∨sc.names.lookup x=some .cell∨sc.names.lookup x=some .free
def Loc (sc:Scope) (x:Str):Prop:=sc.names.lookup x=some .local∨sc.names.lookup x=some .cell
def ZBf (env:Env) (h:Heap) (m:Str→Option Value) (x:Str) (u:Value):Prop:=
  (env.kindOf x=some .local∧m x=some u)∨((env.kindOf x=some .cell∨env.kindOf x=some .free)∧∃c,env.cells.lookup x=some c∧h.IsCell c (some u))
structure Cx.Ok (X:Cx):Prop where
  mod:Mod X.K X.mg X.base
  kind:X.env.scope.kind=.function
  glob:X.env.globals=mainGlobals
  blt:X.env.builtins=builtinsNs
  above:X.s₀.heap.objs.size≤X.env.locals
  inj:∀x y c,X.env.cells.lookup x=some c→X.env.cells.lookup y=some c→x=y
  has:∀x,(X.env.kindOf x=some .cell∨X.env.kindOf x=some .free)→∃c,X.env.cells.lookup x=some c
  cab:∀x c,X.fn x=true→X.env.cells.lookup x=some c→X.s₀.heap.objs.size≤c
  hd:X.calm=true→X.A.handled=none
  frames:X.A.frames=some X.stack
  stk:X.stack=X.outer∨(X.stack=X.env::X.outer∧X.env.frame=some X.env.locals)
  exf:∀b∈X.ex,b≠X.env.locals∧∀x c,X.env.cells.lookup x=some c→c≠b
  bs:∀b o,X.base.get? b=some o→X.s₀.heap.get? b=some o∧X.H₀ b=none
  bsz:X.base.objs.size≤X.s₀.heap.objs.size
  noex:∀b o,X.base.get? b=some o→b∉X.ex
  exfs:∀b∈X.ex,b∉X.fs
  funs:X.s₀.heap.FunFrames X.base X.outer
  frf:∀b∈X.fs,X.H₀ b=none
structure Inv (X:Cx) (pins:List (Addr×Obj)) (σ:List (Option V)) (H:Hp) (s:Shared):Prop where
  ok:X.Ok
  os:s.os=X.s₀.os
  bare:AllBare s.gens
  base:Un X.fs X.ex X.H₀ H X.s₀.heap s.heap
  loc:∃m,s.heap.Ns X.env.locals m∧∀(i:Nat) (x:Str) (v:V),X.N[i]?=some x→σ[i]?=some (some v)→Vis X.env.scope x→∃u,RelV v u∧ZBf X.env s.heap m x u
  cell:∀x c,X.env.cells.lookup x=some c→∃v,s.heap.IsCell c v
  free:H X.env.locals=none
  freeC:∀x c,X.env.cells.lookup x=some c→H c=none
  pin:∀p∈X.pn++pins,s.heap.get? p.1=some p.2∧H p.1=none∧p.1≠X.env.locals∧p.1∉X.fs∧∀v,p.2.data≠.cell v
  hok:HOk X.prog X.w H s.heap
  len:σ.length=X.N.length
section
variable {X:Cx} {pins:List (Addr×Obj)} {σ:List (Option V)} {H H':Hp} {s:Shared} {h':Heap}
theorem Cx.Ok.nofr (ok:X.Ok) {b:Addr} {o:Obj} (e:X.base.get? b=some o):b∉X.fs:=fun hb=>by
  have:=(ok.funs.mem hb).1
  rw [e] at this; cases this
theorem Inv.bs (I:Inv X pins σ H s):∀b o,X.base.get? b=some o→s.heap.get? b=some o∧H b=none:=fun b o e=>
  ⟨I.base.keep b o (I.ok.bs b o e).1 (I.ok.bs b o e).2 (I.ok.nofr e) (I.ok.noex b o e),I.base.free b o (I.ok.bs b o e).1 (I.ok.bs b o e).2 (I.ok.noex b o e)⟩
theorem Inv.bk (I:Inv X pins σ H s):∀b o,X.base.get? b=some o→s.heap.get? b=some o:=fun b o e=>(I.bs b o e).1
theorem Inv.mod (I:Inv X pins σ H s):Mod X.K X.mg X.base:=I.ok.mod
theorem Inv.kIn (I:Inv X pins σ H s):X.K.In s.heap:=I.ok.mod.kin.keeps I.bk
theorem Inv.lt (I:Inv X pins σ H s):X.env.locals<s.heap.objs.size:=let ⟨_,hn,_⟩:=I.loc; hn.lt
theorem Inv.sz (I:Inv X pins σ H s):X.s₀.heap.objs.size≤s.heap.objs.size:=Nat.le_trans I.ok.above (Nat.le_of_lt I.lt)
theorem Inv.nofs (I:Inv X pins σ H s) {a:Addr} (h:s.heap.objs.size≤a):a∉X.fs:=fun hb=>by
  obtain ⟨_,o,ho,_⟩:=I.ok.funs.mem hb
  exact absurd (Nat.lt_of_lt_of_le (Heap.lt_size ho) (Nat.le_trans I.sz h)) (Nat.lt_irrefl _)
theorem Inv.cne (I:Inv X pins σ H s):∀x c,X.env.cells.lookup x=some c→c≠X.env.locals:=fun x c e z=>by
  obtain ⟨v,o,ho,hd⟩:=I.cell x c e
  obtain ⟨m,⟨o',es,ep,ho',hd',_⟩,_⟩:=I.loc
  rw [z,ho'] at ho; cases ho; rw [hd'] at hd; cases hd
theorem Inv.funs (I:Inv X pins σ H s):s.heap.FunFrames X.base X.outer:=by
  have all:∀(l:List Env),(∀b∈frs l,b∈X.fs)→X.s₀.heap.FunFrames X.base l→s.heap.FunFrames X.base l:=by
    intro l
    induction l with
    | nil=>intro _ _; trivial
    | cons env r ih=>
      intro hs hl
      obtain ⟨hk,⟨L,o,hf,hn,ho,hd⟩,hr⟩:=hl
      have hL:L∈X.fs:=hs L (by unfold frs; rw [List.filterMap_cons,hf]; exact List.mem_cons_self)
      obtain ⟨sl,e⟩:=I.base.slot L o ho (I.ok.frf L hL) hL fun z=>I.ok.exfs L z hL
      exact ⟨hk,⟨L,_,hf,hn,e,hd⟩,ih (fun b hb=>hs b (by unfold frs; rw [List.filterMap_cons,hf]; exact List.mem_cons_of_mem _ hb)) hr⟩
  exact all X.outer (fun _ hb=>hb) I.ok.funs
theorem Inv.stack (I:Inv X pins σ H s):s.heap.FunFrames X.base X.stack:=by
  rcases I.ok.stk with e | ⟨e,hf⟩
  · rw [e]; exact I.funs
  · rw [e]
    obtain ⟨m,hn,_⟩:=I.loc
    refine .cons (by rw [I.ok.kind]; decide) hf hn ?_ I.funs
    exact Heap.get?_none_of_le (Nat.le_trans I.ok.bsz I.ok.above)
theorem Inv.stkSub (I:Inv X pins σ H s):∀b∈frs X.stack,b∈X.env.locals::X.fs:=fun b hb=>by
  rcases I.ok.stk with e | ⟨e,hf⟩
  · rw [e] at hb; exact List.mem_cons_of_mem _ hb
  · rw [e] at hb
    unfold frs at hb
    rw [List.filterMap_cons,hf] at hb
    exact hb
theorem Inv.stkFree (I:Inv X pins σ H s):∀b∈frs X.stack,H b=none:=fun b hb=>by
  rcases List.mem_cons.mp (I.stkSub b hb) with e | hb
  · rw [e]; exact I.free
  · obtain ⟨_,o,ho,_⟩:=I.ok.funs.mem hb
    exact I.base.free b o ho (I.ok.frf b hb) fun z=>I.ok.exfs b z hb
theorem Inv.step {g':Array GenState} {t':Nat} {d':Drawn} {ch:List Addr} (I:Inv X pins σ H s)
    (hch:∀b∈ch,(b∈X.ex∨X.s₀.heap.objs.size≤b)∧b≠X.env.locals∧(∀x c,X.env.cells.lookup x=some c→c≠b)∧∀p∈X.pn++pins,p.1≠b)
    (keep:∀b o,b≠X.env.locals→b∉X.fs→b∉ch→s.heap.get? b=some o→H b=none→h'.get? b=some o)
    (slot:∀b o,b≠X.env.locals→b∈X.fs→b∉ch→s.heap.get? b=some o→H b=none→∃sl,h'.get? b=some { o with slots:=sl }) (free:∀b o,b∉ch→s.heap.get? b=some o→H b=none→H' b=none)
    (there:∀b o,b∉ch→s.heap.get? b=some o→∃o',h'.get? b=some o')
    (tups:∀b xs,H b=some (.tup xs)→H' b=some (.tup xs)) (frzs:∀b o u,H b=some (.frz o u)→H' b=some (.frz o u)) (tbls:∀b ps,H b=some (.tbl ps)→∃more,H' b=some (.tbl (ps++more)))
    (ns:∀m,s.heap.Ns X.env.locals m→h'.Ns X.env.locals m) (hok:HOk X.prog X.w H' h') (hg:AllBare g') :
    Inv X pins σ H' { s with heap:=h',gens:=g',drawn:=d',toks:=t' }:=by
  have neL:∀b o,X.s₀.heap.get? b=some o→b≠X.env.locals:=fun b o e=>Nat.ne_of_lt (Nat.lt_of_lt_of_le (Heap.lt_size e) I.ok.above)
  have neC:∀b o,X.s₀.heap.get? b=some o→b∉X.ex→b∉ch:=fun b o e hx hb=>by
    rcases (hch b hb).1 with z | z
    · exact hx z
    · exact absurd (Nat.lt_of_lt_of_le (Heap.lt_size e) z) (Nat.lt_irrefl _)
  have cellK:∀x c,X.env.cells.lookup x=some c→∀v,s.heap.IsCell c v→h'.IsCell c v:=fun x c e v ⟨o,ho,hd⟩=>by
    have nch:c∉ch:=fun z=>(hch c z).2.2.1 x c e rfl
    by_cases hc:c∈X.fs
    · obtain ⟨sl,q⟩:=slot c o (I.cne x c e) hc nch ho (I.freeC x c e)
      exact ⟨_,q,hd⟩
    · exact ⟨o,keep c o (I.cne x c e) hc nch ho (I.freeC x c e),hd⟩
  refine ⟨I.ok,I.os,hg,⟨fun b o e n hb hx=>?_,fun b o e n hb hx=>?_,fun b o e n hx=>?_,fun b o e hx=>?_,fun b xs e=>tups b xs (I.base.tups b xs e),fun b o xs e=>frzs b o xs (I.base.frzs b o xs e),fun b ps e=>?_⟩,?_,fun x c e=>?_,?_,fun x c e=>?_,fun p hp=>?_,hok,I.len⟩
  · exact keep b o (neL b o e) hb (neC b o e hx) (I.base.keep b o e n hb hx) (I.base.free b o e n hx)
  · obtain ⟨sl,e1⟩:=I.base.slot b o e n hb hx
    obtain ⟨sl',e2⟩:=slot b _ (neL b o e) hb (neC b o e hx) e1 (I.base.free b o e n hx)
    exact ⟨sl',e2⟩
  · obtain ⟨o',e1⟩:=I.base.there b o e hx
    exact free b o' (neC b o e hx) e1 (I.base.free b o e n hx)
  · obtain ⟨o',e1⟩:=I.base.there b o e hx
    exact there b o' (neC b o e hx) e1
  · obtain ⟨m1,e1⟩:=I.base.tbls b ps e
    obtain ⟨m2,e2⟩:=tbls b _ e1
    exact ⟨m1++m2,by rw [e2,Array.append_assoc]⟩
  · obtain ⟨m,hn,hl⟩:=I.loc
    refine ⟨m,ns m hn,fun i x v e1 e2 e3=>?_⟩
    obtain ⟨u,r,l⟩:=hl i x v e1 e2 e3
    refine ⟨u,r,?_⟩
    rcases l with l | ⟨k,c,e,z⟩
    · exact .inl l
    · exact .inr ⟨k,c,e,cellK x c e _ z⟩
  · obtain ⟨v,z⟩:=I.cell x c e
    exact ⟨v,cellK x c e v z⟩
  · obtain ⟨m,⟨o,_,_,ho,_⟩,_⟩:=I.loc
    exact free _ o (fun z=>(hch _ z).2.1 rfl) ho I.free
  · obtain ⟨v,o,ho,hd⟩:=I.cell x c e
    exact free c o (fun z=>(hch c z).2.2.1 x c e rfl) ho (I.freeC x c e)
  · obtain ⟨e,n,ne,nf,d⟩:=I.pin p hp
    have nch:p.1∉ch:=fun z=>(hch p.1 z).2.2.2 p hp rfl
    exact ⟨keep p.1 p.2 ne nf nch e n,free p.1 p.2 nch e n,ne,nf,d⟩
theorem Inv.un {t':Nat} (I:Inv X pins σ H s) (u:Un X.fs [] H H' s.heap h') (hok:HOk X.prog X.w H' h'):Inv X pins σ H' { s with heap:=h',toks:=t' }:=by
  obtain ⟨m,⟨o,es,ep,ho,r⟩,_⟩:=id I.loc
  obtain ⟨sl,hL⟩:=u.any ho I.free (by simp)
  exact I.step (g':=s.gens) (d':=s.drawn) (ch:=[]) (fun _ z=>nomatch z) (fun b o _ hb _ e n=>u.keep b o e n hb (by simp)) (fun b o _ hb _ e n=>u.slot b o e n hb (by simp)) (fun b o _ e n=>u.free b o e n (by simp)) (fun b o _ e=>u.there b o e (by simp)) u.tups u.frzs u.tbls (fun m' hm=>by
    obtain ⟨o',es',ep',ho',r'⟩:=hm
    rw [ho] at ho'; cases ho'
    exact ⟨_,es',ep',hL,r'⟩) hok I.bare
theorem Inv.call {g':Array GenState} {t':Nat} {d':Drawn} {ch:List Addr} (I:Inv X pins σ H s) (u:Un (frs X.stack) ch H H' s.heap h') (hok:HOk X.prog X.w H' h') (hg:AllBare g')
    (hch:∀b∈ch,(b∈X.ex∨X.s₀.heap.objs.size≤b)∧b≠X.env.locals∧(∀x c,X.env.cells.lookup x=some c→c≠b)∧∀p∈X.pn++pins,p.1≠b) :
    Inv X pins σ H' { s with heap:=h',gens:=g',drawn:=d',toks:=t' }:=by
  obtain ⟨m,⟨o,es,ep,ho,r⟩,_⟩:=id I.loc
  obtain ⟨sl,hL⟩:=u.any ho I.free fun z=>(hch _ z).2.1 rfl
  exact I.step (ch:=ch) hch (fun b o hL hb hc e n=>u.keep b o e n (fun z=>(List.mem_cons.mp (I.stkSub b z)).elim hL hb) hc) (fun b o _ _ hc e n=>u.any e n hc) (fun b o hc e n=>u.free b o e n hc) (fun b o hc e=>u.there b o e hc) u.tups u.frzs u.tbls (fun m' hm=>by
    obtain ⟨o',es',ep',ho',r'⟩:=hm
    rw [ho] at ho'; cases ho'
    exact ⟨_,es',ep',hL,r'⟩) hok hg
theorem Inv.turned {t':Nat} {it:Addr} (I:Inv X pins σ H s) (k:∀b o,b≠it→s.heap.get? b=some o→h'.get? b=some o) (hn:H it=none) (hL:it≠X.env.locals)
    (h1:it∈X.ex∨X.s₀.heap.objs.size≤it) (h2:∀x c,X.env.cells.lookup x=some c→c≠it) (h3:∀p∈X.pn++pins,p.1≠it):Inv X pins σ H { s with heap:=h',toks:=t' }:=by
  have nit:∀b u,H b=some u→b≠it:=fun b u e z=>by rw [z,hn] at e; cases e
  refine I.step (g':=s.gens) (d':=s.drawn) (ch:=[it]) (fun b hb=>?_) (fun b o _ _ hc e _=>k b o (fun z=>hc (by simp [z])) e) (fun b o _ _ hc e _=>⟨o.slots,k b o (fun z=>hc (by simp [z])) e⟩) (fun _ _ _ _ n=>n)
    (fun b o hc e=>⟨o,k b o (fun z=>hc (by simp [z])) e⟩) (fun _ _ e=>e) (fun _ _ _ e=>e) (fun b ps e=>⟨#[],by rw [e]; simp⟩) (fun m hm=>?_) (fun b u e=>?_) I.bare
  · have e:b=it:=by simpa using hb
    subst e
    exact ⟨h1,hL,h2,h3⟩
  · obtain ⟨o,es,ep,ho,r⟩:=hm
    exact ⟨o,es,ep,k _ o (Ne.symm hL) ho,r⟩
  · refine (I.hok b u e).stay (fun c v hc q=>k c v ?_ q) (fun _ q=>q) fun _ _ q=>q
    rcases hc with z | z
    · rw [z]; exact nit b u e
    · exact nit c _ z
theorem Inv.tok (I:Inv X pins σ H s) (t:Nat):Inv X pins σ H { s with toks:=t }:=I.un (h':=s.heap) (t':=t) Un.refl I.hok
theorem Inv.kept {t':Nat} (I:Inv X pins σ H s) (k:∀b u,s.heap.get? b=some u→h'.get? b=some u):Inv X pins σ H { s with heap:=h',toks:=t' }:=I.un (Un.kept k) (I.hok.kept k)
theorem Inv.laid {a:Addr} {o:HO} {t':Nat} (I:Inv X pins σ H s) (k:∀b u,s.heap.get? b=some u→h'.get? b=some u) (hp:s.heap.objs.size≤a) (new:ObjOk X.prog X.w (upd H a o) h' a o) :
    Inv X pins σ (upd H a o) { s with heap:=h',toks:=t' }:=I.un (Un.laid k hp (I.hok.fresh hp)) (I.hok.laid k hp new)
theorem Inv.write {x e:Addr} {o:HO} {t':Nat} (I:Inv X pins σ H s) (mu:Mut (H x)) (he:e=x∨H e=some (.own x)) (k:∀b u,b≠e→s.heap.get? b=some u→h'.get? b=some u) (heo:∃u,h'.get? e=some u)
    (new:ObjOk X.prog X.w (upd H x o) h' x o):Inv X pins σ (upd H x o) { s with heap:=h',toks:=t' }:=I.un (Un.write mu he k heo) (I.hok.write mu he k heo new)
theorem Inv.pins_of {pins':List (Addr×Obj)} (I:Inv X pins σ H s) (h:∀p∈pins',s.heap.get? p.1=some p.2∧H p.1=none∧p.1≠X.env.locals∧p.1∉X.fs∧∀v,p.2.data≠.cell v):Inv X pins' σ H s:=
  ⟨I.ok,I.os,I.bare,I.base,I.loc,I.cell,I.free,I.freeC,fun p hp=>(List.mem_append.mp hp).elim (fun z=>I.pin p (List.mem_append_left _ z)) (h p),I.hok,I.len⟩
theorem ZlP {N:List Str} (hN:N.Nodup) {i j:Nat} {x:Str} (a:N[i]?=some x) (b:N[j]?=some x):i=j:=by
  obtain ⟨h1,e1⟩:=List.getElem?_eq_some_iff.mp a
  obtain ⟨h2,e2⟩:=List.getElem?_eq_some_iff.mp b
  exact (List.getElem_inj hN).mp (e1.trans e2.symm)
theorem Zn9 {M:Model} {A:Around} {E:Value→Shared→Prop} {i:Nat} {x:Str} {v:V} {u:Value} {Q:Unit→Shared→Prop} (I:Inv X pins σ H s) (hN:X.N.Nodup) (hi:X.N[i]?=some x) (hx:Loc X.env.scope x) (r:RelV v u)
    (h:∀s',Inv X pins (σ.set i (some v)) H s'→(∃a,Heap.SameBut a s.heap s'.heap∧(a=X.env.locals∨X.env.cells.lookup x=some a))→Q () s') (hf:X.fn x=true∨X.env.scope.names.lookup x=some .local:=by first | exact .inl rfl | exact .inr rfl | assumption):wpAny M A (storeName X.env x u) Q E s:=by
  obtain ⟨m,hn,hl⟩:=id I.loc
  have hcls:(X.env.scope.kind == .class || (X.env.scope.kind == .module && X.env.locals != X.env.globals))=false:=by rw [I.ok.kind]; rfl
  have hiσ:i < σ.length:=by rw [I.len]; exact (List.getElem?_eq_some_iff.mp hi).1
  have cne:=I.cne
  have tracked:∀{a:Addr} {h':Heap},(∃o,s.heap.get? a=some o∧H a=none)→Heap.SameBut a s.heap h'→HOk X.prog X.w H h':=fun {a h'} ha hs b ob e=>by
    obtain ⟨_,_,hfree⟩:=ha
    refine (I.hok b ob e).stay (fun c w' hc q=>(hs.2 c ?_).trans q) (fun _ q=>q) fun _ _ q=>q
    rintro rfl
    rcases hc with rfl | hc
    · rw [hfree] at e; cases e
    · rw [hfree] at hc; cases hc
  rcases hx with hk | hk
  · refine wpAny_storeName_local hk hn (fun h' hn' hs=>?_) hcls
    obtain ⟨oL,_,_,hoL,_⟩:=id hn
    refine h _ ⟨I.ok,I.os,I.bare,⟨fun b o e n hb hx=>?_,fun b o e n hb hx=>?_,I.base.free,fun b o e hx=>?_,I.base.tups,I.base.frzs,I.base.tbls⟩,⟨_,hn',fun j y v' e1 e2 e3=>?_⟩,fun y c e=>?_,I.free,I.freeC,fun p hp=>?_,tracked ⟨oL,hoL,I.free⟩ hs,by simpa using I.len⟩ ⟨_,hs,.inl rfl⟩
    · exact (hs.2 b (Nat.ne_of_lt (Nat.lt_of_lt_of_le (Heap.lt_size e) I.ok.above))).trans (I.base.keep b o e n hb hx)
    · obtain ⟨sl,e1⟩:=I.base.slot b o e n hb hx
      exact ⟨sl,(hs.2 b (Nat.ne_of_lt (Nat.lt_of_lt_of_le (Heap.lt_size e) I.ok.above))).trans e1⟩
    · obtain ⟨o',e1⟩:=I.base.there b o e hx
      exact ⟨o',(hs.2 b (Nat.ne_of_lt (Nat.lt_of_lt_of_le (Heap.lt_size e) I.ok.above))).trans e1⟩
    · by_cases hj:j=i
      · subst hj
        rw [hi] at e1; cases e1
        rw [List.getElem?_set_self hiσ] at e2
        cases e2
        exact ⟨u,r,.inl ⟨hk,by simp⟩⟩
      · rw [List.getElem?_set_ne (Ne.symm hj)] at e2
        obtain ⟨u',r',q⟩:=hl j y v' e1 e2 e3
        refine ⟨u',r',?_⟩
        rcases q with ⟨k,e⟩ | ⟨k,c,e,z⟩
        · refine .inl ⟨k,?_⟩
          have:y≠x:=fun e=>hj (ZlP hN e1 (e ▸ hi))
          simp [this,e]
        · exact .inr ⟨k,c,e,z.sameBut hs (cne y c e)⟩
    · obtain ⟨w',z⟩:=I.cell y c e
      exact ⟨w',z.sameBut hs (cne y c e)⟩
    · obtain ⟨e,n,ne,nf,d⟩:=I.pin p hp
      exact ⟨(hs.2 p.1 ne).trans e,n,ne,nf,d⟩
  · have hfn:X.fn x=true:=by
      rcases hf with z | z
      · exact z
      · rw [z] at hk; cases hk
    obtain ⟨c,hc⟩:=I.ok.has x (.inl hk)
    obtain ⟨w',z⟩:=I.cell x c hc
    refine wpAny_storeName_cell I.ok.kind hk hc z (fun h' hc' hs=>?_)
    obtain ⟨oc,hoc,hocd⟩:=id z
    refine h { s with heap:=h' } ⟨I.ok,I.os,I.bare,⟨fun b o e n hb hx=>?_,fun b o e n hb hx=>?_,I.base.free,fun b o e hx=>?_,I.base.tups,I.base.frzs,I.base.tbls⟩,⟨m,hn.sameBut hs (Ne.symm (cne x c hc)),fun j y v' e1 e2 e3=>?_⟩,fun y c' e=>?_,I.free,I.freeC,fun p hp=>?_,tracked ⟨oc,hoc,I.freeC x c hc⟩ hs,by simpa using I.len⟩ ⟨c,hs,.inr hc⟩
    · exact (hs.2 b (Nat.ne_of_lt (Nat.lt_of_lt_of_le (Heap.lt_size e) (I.ok.cab x c hfn hc)))).trans (I.base.keep b o e n hb hx)
    · obtain ⟨sl,e1⟩:=I.base.slot b o e n hb hx
      exact ⟨sl,(hs.2 b (Nat.ne_of_lt (Nat.lt_of_lt_of_le (Heap.lt_size e) (I.ok.cab x c hfn hc)))).trans e1⟩
    · obtain ⟨o',e1⟩:=I.base.there b o e hx
      exact ⟨o',(hs.2 b (Nat.ne_of_lt (Nat.lt_of_lt_of_le (Heap.lt_size e) (I.ok.cab x c hfn hc)))).trans e1⟩
    · by_cases hj:j=i
      · subst hj
        rw [hi] at e1; cases e1
        rw [List.getElem?_set_self hiσ] at e2
        cases e2
        exact ⟨u,r,.inr ⟨.inl hk,c,hc,hc'⟩⟩
      · rw [List.getElem?_set_ne (Ne.symm hj)] at e2
        obtain ⟨u',r',q⟩:=hl j y v' e1 e2 e3
        refine ⟨u',r',?_⟩
        rcases q with q | ⟨k,c',e,z'⟩
        · exact .inl q
        · refine .inr ⟨k,c',e,z'.sameBut hs ?_⟩
          rintro rfl
          exact hj (ZlP hN e1 (I.ok.inj _ _ _ e hc ▸ hi))
    · by_cases hcc:c'=c
      · subst hcc; exact ⟨_,hc'⟩
      · obtain ⟨w2,z2⟩:=I.cell y c' e
        exact ⟨w2,z2.sameBut hs hcc⟩
    · obtain ⟨e,n,ne,nf,d⟩:=I.pin p hp
      refine ⟨(hs.2 p.1 ?_).trans e,n,ne,nf,d⟩
      intro q
      rw [q,hoc] at e
      have q':oc=p.2:=Option.some.inj e
      exact d w' (by rw [←q']; exact hocd)
theorem ZlA {M:Model} {A:Around} {E:Value→Shared→Prop} {i:Nat} {x:Str} {v:V} {u:Value} {Q:Unit→Shared→Prop} (I:Inv X pins σ H s) (hN:X.N.Nodup) (hi:X.N[i]?=some x) (hx:Loc X.env.scope x) (r:RelV v u)
    (h:∀s',Inv X pins (σ.set i (some v)) H s'→Q () s') (hf:X.fn x=true∨X.env.scope.names.lookup x=some .local:=by first | exact .inl rfl | exact .inr rfl | assumption):wpAny M A (storeName X.env x u) Q E s:=
  Zn9 I hN hi hx r (fun s' I' _=>h s' I') hf
theorem Inv.call' {s':Shared} {ch:List Addr} (I:Inv X pins σ H s) (ho:s'.os=s.os) (u:Un (frs X.stack) ch H H' s.heap s'.heap) (hok:HOk X.prog X.w H' s'.heap) (hg:AllBare s'.gens)
    (hch:∀b∈ch,(b∈X.ex∨X.s₀.heap.objs.size≤b)∧b≠X.env.locals∧(∀x c,X.env.cells.lookup x=some c→c≠b)∧∀p∈X.pn++pins,p.1≠b):Inv X pins σ H' s':=by
  obtain ⟨h',g',d',t',o'⟩:=s'
  have e:o'=s.os:=ho
  subst e
  exact I.call (g':=g') (t':=t') (d':=d') u hok hg hch
end
abbrev XK:=Value→Option Addr→Hp→Prop
abbrev St:=List (Option V)
abbrev VK:=V→Hp→Prop
abbrev TE:=St→Hp→VK→Prop
abbrev TT:=St→Hp→(Bool→Hp→Prop)→Prop
abbrev TA:=St→Hp→(List V→Hp→Prop)→Prop
structure Zfq where
  nx:St→Hp→Prop
  rt:VK
  bk:St→Hp→Prop:=fun _ _=>False
  ct:St→Hp→Prop:=fun _ _=>False
abbrev TS:=Zfq→St→Hp→Prop
def EP (X:Cx) (pins:List (Addr×Obj)) (σ:St) (Q:VK) (u:Value) (s':Shared):Prop:=∃v H',Inv X pins σ H' s'∧RelV v u∧Q v H'
def TP (X:Cx) (pins:List (Addr×Obj)) (σ:St) (Q:Bool→Hp→Prop) (b:Bool) (s':Shared):Prop:=∃H',Inv X pins σ H' s'∧Q b H'
def AP (X:Cx) (pins:List (Addr×Obj)) (σ:St) (Q:List V→Hp→Prop) (us:List Value) (s':Shared):Prop:=∃vs H',Inv X pins σ H' s'∧Vals vs us∧Q vs H'
def SP (X:Cx) (pins:List (Addr×Obj)) (D:Zfq) (f:Flow) (s':Shared):Prop:=
  match f with
  | .next=>∃σ' H',Inv X pins σ' H' s'∧D.nx σ' H'
  | .brk=>∃σ' H',Inv X pins σ' H' s'∧D.bk σ' H'
  | .cont=>∃σ' H',Inv X pins σ' H' s'∧D.ct σ' H'
  | .ret u=>∃v σ' H',Inv X pins σ' H' s'∧RelV v u∧D.rt v H'
def PE (X:Cx) (e:Expr) (t:TE):Prop:=
  ∀(pins:List (Addr×Obj)) (s:Shared) (σ:St) (H:Hp) (Q:VK),Inv X pins σ H s→t σ H Q→wpAny (model X.prog X.w) X.A (eval e X.env) (EP X pins σ Q) X.xe s
def PT (X:Cx) (e:Expr) (t:TT):Prop:=
  ∀(pins:List (Addr×Obj)) (s:Shared) (σ:St) (H:Hp) (Q:Bool→Hp→Prop),Inv X pins σ H s→t σ H Q→wpAny (model X.prog X.w) X.A (isTrue e X.env (eval e X.env)) (TP X pins σ Q) X.xe s
def PW (X:Cx) (e:Expr) (t:TT):Prop:=
  ∀(whole:Sem Value) (pins:List (Addr×Obj)) (s:Shared) (σ:St) (H:Hp) (Q:Bool→Hp→Prop),Inv X pins σ H s→t σ H Q→wpAny (model X.prog X.w) X.A (isTrue e X.env whole) (TP X pins σ Q) X.xe s
theorem PW.pt {X:Cx} {e:Expr} {t:TT} (h:PW X e t):PT X e t:=h _
def PA (X:Cx) (es:List Expr) (t:TA):Prop:=
  ∀(pos:Pos) (pins:List (Addr×Obj)) (s:Shared) (σ:St) (H:Hp) (Q:List V→Hp→Prop),Inv X pins σ H s→t σ H Q→wpAny (model X.prog X.w) X.A (spliced (backTo pos (starEach es X.env))) (AP X pins σ Q) X.xe s
def PS (X:Cx) (st:Stmt) (t:TS):Prop:=
  ∀(pins:List (Addr×Obj)) (s:Shared) (σ:St) (H:Hp) (D:Zfq),Inv X pins σ H s→t D σ H→wpAny (model X.prog X.w) X.A (exec st X.env) (SP X pins D) X.xe s
def PSs (X:Cx) (st:List Stmt) (t:TS):Prop:=
  ∀(pins:List (Addr×Obj)) (s:Shared) (σ:St) (H:Hp) (D:Zfq),Inv X pins σ H s→t D σ H→wpAny (model X.prog X.w) X.A (execs st X.env) (SP X pins D) X.xe s
theorem thn {α:Type} {t:Sem α} {Q Q':α→Shared→Prop} {M:Model} {A:Around} {E:Value→Shared→Prop} {s:Shared} (h:wpAny M A t Q E s) (hQ:∀a s,Q a s→Q' a s):wpAny M A t Q' E s:=wpAny_mono h hQ fun _ _ x=>x
end L2
namespace L2
open PySem PySem.Spec PyProof.Rows
section
variable {X:Cx}
theorem bin {a b:Expr} {ta tb:TE} (ha:PE X a ta) (hb:PE X b tb) {pins:List (Addr×Obj)} {s:Shared} {σ:St} {H:Hp} {R:V→V→Hp→Prop} (I:Inv X pins σ H s) (h:ta σ H fun x H1=>tb σ H1 fun y H2=>R x y H2)
    {α:Type} {Q:α→Shared→Prop} {f:Value→Value→Sem α}
    (hf:∀v u s2 x y H2,Inv X pins σ H2 s2→RelV x v→RelV y u→R x y H2→wpAny (model X.prog X.w) X.A (f v u) Q X.xe s2) :
    wpAny (model X.prog X.w) X.A (eval a X.env) (fun v s₁=>wpAny (model X.prog X.w) X.A (eval b X.env) (fun u s₂=>wpAny (model X.prog X.w) X.A (f v u) Q X.xe s₂) X.xe s₁) X.xe s:=by
  refine thn (ha pins s σ H _ I h) fun v s1 ⟨x,H1,I1,r1,q1⟩=>?_
  refine thn (hb pins s1 σ H1 _ I1 q1) fun u s2 ⟨y,H2,I2,r2,q2⟩=>?_
  exact hf v u s2 x y H2 I2 r1 r2 q2
def ZAk (i:Nat):TE:=fun σ H Q=>∃v,σ[i]?=some (some v)∧Q v H
def tC (v:V):TE:=fun _ H Q=>Q v H
theorem ZqL {i:Nat} {x:Str} {pos:Pos} (hN:X.N[i]?=some x) (hv:Vis X.env.scope x) (hd:(x == ("__debug__":Str))=false:=by decide) (hcd:(x == ("__classdict__":Str))=false:=by decide):PE X (.Name x pos) (ZAk i):=by
  intro pins s σ H Q I h
  obtain ⟨v,e,h⟩:=h
  obtain ⟨m,hn,hl⟩:=I.loc
  obtain ⟨u,r,l⟩:=hl i x v hN e hv
  have fin:EP X pins σ Q u s:=⟨v,H,I,r,h⟩
  rcases l with ⟨hk,hm⟩ | ⟨hk,c,hc,hcell⟩
  · exact wpAny_Name (wpAny_loadName_local I.ok.kind hk hn hm fin) hd
  · rcases hk with hk | hk
    · exact wpAny_Name (wpAny_loadName_cell I.ok.kind hk hc hcell fin) hd
    · exact wpAny_Name (wpAny_loadName_free I.ok.kind hk hc hcell fin hcd) hd
theorem ZuT {i j pos}:PE X (.Constant (.int i) j pos) (tC (.int i)):=fun _ _ _ H _ I h=>wpAny_Constant_int ⟨.int i,H,I.tok _,⟨_,rfl⟩,h⟩
theorem ZwM {b j pos}:PE X (.Constant (.bool b) j pos) (tC (.bl b)):=fun _ _ _ H _ I h=>Constant_bool ⟨.bl b,H,I,rfl,h⟩
theorem ZuS {j pos}:PE X (.Constant .none j pos) (tC .non):=fun _ _ _ H _ I h=>Constant_none ⟨.non,H,I,rfl,h⟩
theorem ZmH {x j pos}:PE X (.Constant (.str x) j pos) (tC (.str x)):=fun _ _ _ H _ I h=>Calls.Constant_str ⟨.str x,H,I.tok _,⟨_,rfl⟩,h⟩
def Gl (X:Cx) (x:Str):Prop:=X.env.kindOf x=some .globalImplicit
theorem Zhz {E:Value→Shared→Prop} {pins:List (Addr×Obj)} {s:Shared} {σ:St} {H:Hp} {x:Str} {u:Value} {pos:Pos} {Q:Value→Shared→Prop} (I:Inv X pins σ H s) (hg:Gl X x) (hm:X.mg x=some u) (h:Q u s)
    (hd:(x == ("__debug__":Str))=false:=by decide):wpAny (model X.prog X.w) X.A (eval (.Name x pos) X.env) Q E s:=
  Calls.Name_function_global I.ok.kind hg (Calls.loadGlobal_global (by rw [I.ok.glob]; exact I.mod.glob.keeps I.bk) hm h) hd
theorem Zh6 {E:Value→Shared→Prop} {pins:List (Addr×Obj)} {s:Shared} {σ:St} {H:Hp} {x:Str} {u:Value} {pos:Pos} {Q:Value→Shared→Prop} (I:Inv X pins σ H s) (hg:Gl X x) (hm:X.mg x=none) (hv:bootBuiltins x=some u) (h:Q u s)
    (hn:x≠"__name__":=by decide) (hd:(x == ("__debug__":Str))=false:=by decide):wpAny (model X.prog X.w) X.A (eval (.Name x pos) X.env) Q E s:=by
  obtain ⟨mb,h1,h2⟩:=I.mod.blt
  exact Calls.Name_function_global I.ok.kind hg (Calls.loadGlobal_builtin (by rw [I.ok.glob]; exact I.mod.glob.keeps I.bk) hm (by rw [I.ok.blt]; exact h1.keeps I.bk) ((h2 x hn).trans hv) h) hd
theorem Zno {x:Str} {v:V} {u:Value} {pos:Pos} (hg:Gl X x) (hm:X.mg x=some u) (r:RelV v u) (hd:(x == ("__debug__":Str))=false:=by decide):PE X (.Name x pos) (tC v):=
  fun _ _ _ H _ I h=>Zhz I hg hm ⟨v,H,I,r,h⟩ hd
theorem ZsO {x:Str} {v:V} {u:Value} {pos:Pos} (hg:Gl X x) (hm:X.mg x=none) (hv:bootBuiltins x=some u) (r:RelV v u) (hn:x≠"__name__":=by decide) (hd:(x == ("__debug__":Str))=false:=by decide):PE X (.Name x pos) (tC v):=
  fun _ _ _ H _ I h=>Zh6 I hg hm hv ⟨v,H,I,r,h⟩ hn hd
variable {a b:Expr} {ta tb:TE} {pos:Pos}
def PC (X:Cx) (op:CmpOp) (a b:Expr) (t:TE):Prop:=
  ∀(pins:List (Addr×Obj)) (s:Shared) (σ:St) (H:Hp) (Q:VK),Inv X pins σ H s→t σ H Q→
    wpAny (model X.prog X.w) X.A (eval a X.env) (fun v s₁=>wpAny (model X.prog X.w) X.A (eval b X.env) (fun u s₂=>wpAny (model X.prog X.w) X.A (compareOp op v u) (EP X pins σ Q) X.xe s₂) X.xe s₁) X.xe s
theorem Zq7 (b:Expr) {op:CmpOp} (h:op≠.In) (h2:op≠.NotIn):behindInMarks op b=false:=by
  have e1:(op == CmpOp.In)=false:=by cases op<;>first | rfl | exact absurd rfl h
  have e2:(op == CmpOp.NotIn)=false:=by cases op<;>first | rfl | exact absurd rfl h2
  cases b<;>simp [behindInMarks,e1,e2]
def tB (t:TE):TT:=fun σ H Q=>t σ H fun x H1=>∃c,x=.bl c∧Q c H1
theorem ZuJ {op:CmpOp} {t:TE} (h:PC X op a b t) (h1:behindInMarks op b=false:=by first | exact Zq7 _ (by decide) (by decide) | rfl):PT X (.Compare a [op] [b] pos) (tB t):=by
  intro pins s σ H Q I hw
  refine wpAny_isTrue_Compare1 (thn (h pins s σ H _ I hw) fun v s1 h1=>thn h1 fun u s2 h2=>thn h2 fun c s3 ⟨x,H1,I1,r1,q1⟩=>?_) h1
  obtain ⟨d,rfl,q⟩:=q1
  cases r1
  exact wpAny_truthy_bool ⟨H1,I1,q⟩
variable {tA tB':TT} {rest:List Expr}
def ZAv (t u:TT):TT:=fun σ H Q=>t σ H fun c H1=>if c=true then u σ H1 Q else Q false H1
def tOr (t u:TT):TT:=fun σ H Q=>t σ H fun c H1=>if c=true then Q true H1 else u σ H1 Q
def ZAq (t:TT):TT:=fun σ H Q=>t σ H fun c H1=>Q (!c) H1
theorem Zsx (ha:PT X a tA):PW X (.BoolOp .And [a] pos) tA:=by
  intro wh pins s σ H Q I h
  refine isTrue_and (thn (ha pins s σ H Q I h) fun c s1 e=>?_)
  cases c with
  | true=>exact isTrue_and_nil e
  | false=>exact e
theorem ZuF (ha:PT X a tA):PW X (.BoolOp .Or [a] pos) tA:=by
  intro wh pins s σ H Q I h
  refine isTrue_or (thn (ha pins s σ H Q I h) fun c s1 e=>?_)
  cases c with
  | false=>exact isTrue_or_nil e
  | true=>exact e
theorem ZuG (ha:PT X a tA) (hb:PW X (.BoolOp .And (b::rest) pos) tB'):PW X (.BoolOp .And (a::b::rest) pos) (ZAv tA tB'):=by
  intro wh pins s σ H Q I h
  refine isTrue_and (thn (ha pins s σ H _ I h) fun c s1 ⟨H1,I1,q1⟩=>?_)
  cases c with
  | true=>exact hb wh pins s1 σ H1 Q I1 q1
  | false=>exact ⟨H1,I1,q1⟩
theorem ZwC (ha:PT X a tA) (hb:PW X (.BoolOp .Or (b::rest) pos) tB'):PW X (.BoolOp .Or (a::b::rest) pos) (tOr tA tB'):=by
  intro wh pins s σ H Q I h
  refine isTrue_or (thn (ha pins s σ H _ I h) fun c s1 ⟨H1,I1,q1⟩=>?_)
  cases c with
  | true=>exact ⟨H1,I1,q1⟩
  | false=>exact hb wh pins s1 σ H1 Q I1 q1
theorem ZuI (ha:PT X a tA):PT X (.UnaryOp .Not a pos) (ZAq tA):=by
  intro pins s σ H Q I h
  exact isTrue_not (ha pins s σ H (fun c H1=>Q (!c) H1) I h)
def Zwq (ta tb:TE):TE:=fun σ H Q=>ta σ H fun x H1=>∃c,x=.bl c∧if c=true then tb σ H1 Q else Q (.bl false) H1
def ZAp (ta tb:TE):TE:=fun σ H Q=>ta σ H fun x H1=>∃c,x=.bl c∧if c=true then Q (.bl true) H1 else tb σ H1 Q
theorem ZuR {op} {t:TE} (h:PE X a t):PE X (.BoolOp op [a] pos) t:=fun pins s σ H Q I hw=>BoolOp_one (h pins s σ H Q I hw)
theorem ZuV (ha:PE X a ta) (hb:PE X (.BoolOp .And (b::rest) pos) tb):PE X (.BoolOp .And (a::b::rest) pos) (Zwq ta tb):=by
  intro pins s σ H Q I h
  refine BoolOp_and (thn (ha pins s σ H _ I h) fun v s1 ⟨x,H1,I1,r1,q1⟩=>?_)
  obtain ⟨c,rfl,q1⟩:=q1
  cases r1
  refine wpAny_truthy_bool ?_
  cases c with
  | true=>exact hb pins s1 σ H1 Q I1 q1
  | false=>exact ⟨.bl false,H1,I1,rfl,q1⟩
theorem ZwI (ha:PE X a ta) (hb:PE X (.BoolOp .Or (b::rest) pos) tb):PE X (.BoolOp .Or (a::b::rest) pos) (ZAp ta tb):=by
  intro pins s σ H Q I h
  refine BoolOp_or (thn (ha pins s σ H _ I h) fun v s1 ⟨x,H1,I1,r1,q1⟩=>?_)
  obtain ⟨c,rfl,q1⟩:=q1
  cases r1
  refine wpAny_truthy_bool ?_
  cases c with
  | false=>exact hb pins s1 σ H1 Q I1 q1
  | true=>exact ⟨.bl true,H1,I1,rfl,q1⟩
def tIf (t:TT) (ta tb:TE):TE:=fun σ H Q=>t σ H fun c H1=>if c=true then ta σ H1 Q else tb σ H1 Q
theorem ZqP {c:Expr} (hc:PT X c tA) (ha:PE X a ta) (hb:PE X b tb):PE X (.IfExp c a b pos) (tIf tA ta tb):=by
  intro pins s σ H Q I h
  refine wpAny_IfExp (thn (hc pins s σ H _ I h) fun d s1 ⟨H1,I1,q1⟩=>?_)
  cases d with
  | true=>exact ha pins s1 σ H1 Q I1 q1
  | false=>exact hb pins s1 σ H1 Q I1 q1
end
end L2
namespace L2
open PySem PySem.Spec PyProof.Rows
def SqL (K:PySem.W.Frag) (H:Hp) (a:Addr) (xs:List V):Prop:=
  Rd H a (.lst xs)∨
    ∃(o:Obj) (its:Array Value) (n:Nat),K.lookup a=some o∧o.cls=.type "list"∧o.dict=none∧o.data=.seq its n∧its.size≤sizeLine∧Vals xs its.toList
def SqT (K:PySem.W.Frag) (H:Hp) (a:Addr) (xs:List V):Prop:=
  Rd H a (.tup xs)∨
    ∃(o:Obj) (its:Array Value) (n:Nat),K.lookup a=some o∧o.cls=.type "tuple"∧o.data=.seq its n∧its.size≤sizeLine∧Vals xs its.toList
def ZBc:Value→Option V
  | .none=>some .non
  | .bool b=>some (.bl b)
  | .int i _=>some (.int i)
  | .str x _=>some (.str x)
  | .bytes b _=>some (.byt b)
  | .float b _=>some (.flt b)
  | .ref a=>some (.ref a)
  | .type n=>some (.ty n)
  | _=>none
theorem RelV.abs {x:V} {u:Value} (r:RelV x u):ZBc u=some x:=by
  cases x with
  | non=>cases r; rfl
  | bl _=>cases r; rfl
  | int _=>obtain ⟨t,rfl⟩:=r; rfl
  | str _=>obtain ⟨t,rfl⟩:=r; rfl
  | byt _=>obtain ⟨t,rfl⟩:=r; rfl
  | flt _=>obtain ⟨t,rfl⟩:=r; rfl
  | ref _=>cases r; rfl
  | ty _=>cases r; rfl
theorem RelV.inj {x y:V} {u:Value} (r:RelV x u) (q:RelV y u):x=y:=Option.some.inj (r.abs.symm.trans q.abs)
theorem Vals.inj:∀{xs ys:List V} {us:List Value},Vals xs us→Vals ys us→xs=ys
  | _,_,_,.nil,.nil=>rfl
  | _,_,_,.cons r t,.cons r' t'=>by rw [r.inj r',Vals.inj t t']
section
variable {X:Cx} {pins:List (Addr×Obj)} {σ:St} {H:Hp} {s:Shared} {a:Addr} {xs ys:List V}
theorem SqL.of {K:PySem.W.Frag} (h:H a=some (.lst xs)):SqL K H a xs:=.inl (.inl h)
theorem SqT.of {K:PySem.W.Frag} (h:H a=some (.tup xs)):SqT K H a xs:=.inl (.inl h)
theorem Inv.list (I:Inv X pins σ H s) (h:SqL X.K H a xs):∃its:List Value,Vals xs its∧PlainL s.heap a its.toArray∧xs.length≤sizeLine:=by
  rcases h with h | ⟨o,its,n,hk,hc,hd,hs,hz,r⟩
  · obtain ⟨z,its,n,r,e⟩:=h.ok I.hok
    exact ⟨its,r,⟨_,n,e,rfl,rfl,rfl⟩,z⟩
  · refine ⟨its.toList,r,⟨o,n,I.kIn a o hk,hc,hd,by simpa using hs⟩,?_⟩
    have e:=r.length
    simp only [Array.length_toList] at e
    omega
theorem Inv.tuple (I:Inv X pins σ H s) (h:SqT X.K H a xs):∃its:List Value,Vals xs its∧IsTup s.heap a its.toArray∧xs.length≤sizeLine:=by
  rcases h with h | ⟨o,its,n,hk,hc,hs,hz,r⟩
  · obtain ⟨z,its,r,p⟩:=h.ok I.hok
    exact ⟨its,r,p,z⟩
  · refine ⟨its.toList,r,⟨o,I.kIn a o hk,hc,n,by simpa using hs⟩,?_⟩
    have e:=r.length
    simp only [Array.length_toList] at e
    omega
theorem Inv.list_inj (I:Inv X pins σ H s) (h:SqL X.K H a xs) (h':SqL X.K H a ys):xs=ys:=by
  obtain ⟨its,r,⟨o,n,e,_,_,d⟩,_⟩:=I.list h
  obtain ⟨its',r',⟨o',n',e',_,_,d'⟩,_⟩:=I.list h'
  rw [e] at e'; cases e'
  rw [d] at d'
  injection d' with d1 _
  have:its=its':=by simpa using congrArg Array.toList d1
  subst this
  exact r.inj r'
theorem Inv.tuple_inj (I:Inv X pins σ H s) (h:SqT X.K H a xs) (h':SqT X.K H a ys):xs=ys:=by
  obtain ⟨its,r,⟨o,e,_,n,d⟩,_⟩:=I.tuple h
  obtain ⟨its',r',⟨o',e',_,n',d'⟩,_⟩:=I.tuple h'
  rw [e] at e'; cases e'
  rw [d] at d'
  injection d' with d1 _
  have:its=its':=by simpa using congrArg Array.toList d1
  subst this
  exact r.inj r'
end
abbrev Cx.wish (X:Cx) (E:Value→Shared→Prop):Cx:={ X with xe:=E }
abbrev Cx.nox (X:Cx):Cx:=X.wish fun _ _=>False
theorem Cx.Ok.wish {X:Cx} (ok:X.Ok) (E:Value→Shared→Prop):(X.wish E).Ok:=
  ⟨ok.mod,ok.kind,ok.glob,ok.blt,ok.above,ok.inj,ok.has,ok.cab,ok.hd,ok.frames,ok.stk,ok.exf,ok.bs,ok.bsz,ok.noex,ok.exfs,ok.funs,ok.frf⟩
theorem Cx.Ok.unwish {X:Cx} {E:Value→Shared→Prop} (ok:(X.wish E).Ok):X.Ok:=
  ⟨ok.mod,ok.kind,ok.glob,ok.blt,ok.above,ok.inj,ok.has,ok.cab,ok.hd,ok.frames,ok.stk,ok.exf,ok.bs,ok.bsz,ok.noex,ok.exfs,ok.funs,ok.frf⟩
section
variable {X:Cx} {pins:List (Addr×Obj)} {σ:St} {H:Hp} {s:Shared} {E:Value→Shared→Prop}
theorem Inv.wish (I:Inv X pins σ H s) (E:Value→Shared→Prop):Inv (X.wish E) pins σ H s:=⟨I.ok.wish E,I.os,I.bare,I.base,I.loc,I.cell,I.free,I.freeC,I.pin,I.hok,I.len⟩
theorem Inv.unwish (I:Inv (X.wish E) pins σ H s):Inv X pins σ H s:=⟨I.ok.unwish,I.os,I.bare,I.base,I.loc,I.cell,I.free,I.freeC,I.pin,I.hok,I.len⟩
theorem SP.unwish {D:Zfq} {f:Flow} {s':Shared} (h:SP (X.wish E) pins D f s'):SP X pins D f s':=by
  cases f with
  | next=>obtain ⟨σ',H',I,q⟩:=h; exact ⟨σ',H',I.unwish,q⟩
  | brk=>obtain ⟨σ',H',I,q⟩:=h; exact ⟨σ',H',I.unwish,q⟩
  | cont=>obtain ⟨σ',H',I,q⟩:=h; exact ⟨σ',H',I.unwish,q⟩
  | ret u=>obtain ⟨v,σ',H',I,r,q⟩:=h; exact ⟨v,σ',H',I.unwish,r,q⟩
theorem PSs.nox {st:List Stmt} {t:TS} (h:PSs X.nox st t):PSs X st t:=fun pins s σ H D I hw=>
  wpAny_mono (h pins s σ H D (I.wish _) hw) (fun _ _ q=>q.unwish) fun _ _ z=>False.elim z
end
section
variable {X:Cx} {st:Stmt} {rest:List Stmt} {t u:TS} {e:Expr} {te:TE} {pos:Pos}
def Zwk:TS:=fun D σ H=>D.nx σ H
def ZAn (t u:TS):TS:=fun D σ H=>t { D with nx:=u D } σ H
theorem ZsB:PSs X [] Zwk:=fun _ _ σ H _ I h=>wpAny_execs_nil ⟨σ,H,I,h⟩
theorem ZqD (h1:PS X st t) (h2:PSs X rest u):PSs X (st::rest) (ZAn t u):=by
  intro pins s σ H D I h
  refine wpAny_execs_cons (thn (h1 pins s σ H { D with nx:=u D } I h) fun f s1 q=>?_)
  cases f with
  | next=>
    obtain ⟨σ',H',I',q⟩:=q
    exact h2 pins s1 σ' H' D I' q
  | ret v=>exact q
  | brk=>exact q
  | cont=>exact q
theorem ZsA (h1:PS X st t):PSs X [st] t:=by
  intro pins s σ H D I h
  refine wpAny_execs_cons (thn (h1 pins s σ H D I h) fun f s1 q=>?_)
  cases f with
  | next=>exact wpAny_execs_nil q
  | ret v=>exact q
  | brk=>exact q
  | cont=>exact q
theorem Inv.quiet {pins:List (Addr×Obj)} {σ:St} {H:Hp} {s:Shared} (I:Inv X pins σ H s):interactive X.env=false:=by simp [interactive,I.ok.kind]
def Zwl (te:TE):TS:=fun D σ H=>te σ H fun _ H1=>D.nx σ H1
theorem Znm (he:PE X e te) (hs:swapsWith e none pos.line X.env=pure false:=by rfl):PS X (.Expr e pos) (Zwl te):=by
  intro pins s σ H D I h
  exact wpAny_Expr_any (thn (he pins s σ H _ I h) fun v s1 ⟨x,H1,I1,r1,q1⟩=>⟨σ,H1,I1,q1⟩) I.quiet hs
def ZAo (te:TE):TS:=fun D σ H=>te σ H D.rt
theorem ZuK (he:PE X e te):PS X (.Return (some e) pos) (ZAo te):=by
  intro pins s σ H D I h
  exact wpAny_Return_some (thn (he pins s σ H _ I h) fun v s1 ⟨x,H1,I1,r1,q1⟩=>⟨x,σ,H1,I1,r1,q1⟩)
def Zwi:TS:=fun D _ H=>D.rt .non H
theorem ZsC:PS X (.Return none pos) Zwi:=fun _ _ σ H _ I h=>wpAny_Return_none ⟨.non,σ,H,I,rfl,h⟩
def ZAs (c:TT) (t u:TS):TS:=fun D σ H=>c σ H fun b H1=>if b=true then t D σ H1 else u D σ H1
theorem ZwE {c:Expr} {a b:List Stmt} {tc:TT} (hc:PT X c tc) (ha:PSs X a t) (hb:PSs X b u):PS X (.If c a b pos) (ZAs tc t u):=by
  intro pins s σ H D I h
  refine wpAny_If (thn (hc pins s σ H _ I h) fun d s1 ⟨H1,I1,q1⟩=>?_)
  cases d with
  | true=>exact ha pins s1 σ H1 D I1 q1
  | false=>exact hb pins s1 σ H1 D I1 q1
end
abbrev TG:=V→St→Hp→(St→Hp→Prop)→Prop
abbrev TGs:=List V→St→Hp→(St→Hp→Prop)→Prop
def PG (X:Cx) (target:Expr) (t:TG):Prop:=
  ∀(pins:List (Addr×Obj)) (s:Shared) (σ:St) (H:Hp) (v:V) (u:Value) (Q:St→Hp→Prop),Inv X pins σ H s→RelV v u→t v σ H Q→
    wpAny (model X.prog X.w) X.A (assign target X.env u) (fun _ s'=>∃σ' H',Inv X pins σ' H' s'∧Q σ' H') X.xe s
def PGs (X:Cx) (ts:List Expr) (t:TGs):Prop:=
  ∀(pins:List (Addr×Obj)) (s:Shared) (σ:St) (H:Hp) (vs:List V) (us:List Value) (Q:St→Hp→Prop),Inv X pins σ H s→Vals vs us→t vs σ H Q→
    wpAny (model X.prog X.w) X.A (assignInOrder ((assignEach ts X.env).map (·.2)) us) (fun _ s'=>∃σ' H',Inv X pins σ' H' s'∧Q σ' H') X.xe s
section
variable {X:Cx} {pos:Pos}
def Zl3 (i:Nat):TG:=fun v σ H Q=>Q (σ.set i (some v)) H
theorem ZfW {i:Nat} {x:Str} (hN:X.N.Nodup) (hi:X.N[i]?=some x) (hx:Loc X.env.scope x) (hf:X.fn x=true∨X.env.scope.names.lookup x=some .local:=by first | exact .inl rfl | exact .inr rfl | assumption):PG X (.Name x pos) (Zl3 i):=by
  intro pins s σ H v u Q I r h
  exact wpAny_assign_Name (ZlA I hN hi hx r (fun s' I'=>⟨_,H,I',h⟩) hf)
def ZA2:TGs:=fun vs σ H Q=>vs=[]∧Q σ H
def Zxe (t:TG) (u:TGs):TGs:=fun vs σ H Q=>∃v r,vs=v::r∧t v σ H fun σ' H'=>u r σ' H' Q
theorem ZsI:PGs X [] ZA2:=by
  intro pins s σ H vs us Q I r h
  obtain ⟨e,h⟩:=h
  subst e
  cases r
  exact assignInOrder_nil ⟨σ,H,I,h⟩
theorem ZlI {e:Expr} {es:List Expr} {t:TG} {u:TGs} (h1:PG X e t) (h2:PGs X es u)
    (hs:(assignEach (e::es) X.env).map (·.2)=assign e X.env::(assignEach es X.env).map (·.2):=by rfl):PGs X (e::es) (Zxe t u):=by
  intro pins s σ H vs us Q I r h
  obtain ⟨v,vr,e1,h⟩:=h
  subst e1
  cases r with
  | cons r rr=>
    rw [hs]
    refine assignInOrder_cons (thn (h1 pins s σ H _ _ _ I r h) fun _ s1 ⟨σ1,H1,I1,q1⟩=>?_)
    exact h2 pins s1 σ1 H1 _ _ Q I1 rr q1
def ZA1 (K:PySem.W.Frag) (n:Nat) (t:TGs):TG:=fun v σ H Q=>∃a xs,v=.ref a∧SqT K H a xs∧xs.length=n∧t xs σ H Q
theorem ZuP {es:List Expr} {k:Nat} {t:TGs} {n:Nat} (hc:X.calm=true) (h:PGs X es t)
    (hn:(assignEach es X.env).length=n:=by rfl) (hst:(assignEach es X.env).findIdx? (·.1)=none:=by rfl):PG X (.Tuple es k pos) (ZA1 X.K n t):=by
  intro pins s σ H v u Q I r hw
  obtain ⟨a,xs,e1,hq,hl,hw⟩:=hw
  subst e1
  cases r
  obtain ⟨its,rv,ht,hz⟩:=I.tuple hq
  refine assign_Tuple_tuple (I.ok.hd hc) ht (by simp [hn,←hl,rv.length]) hst fun h' hx=>?_
  have I1:Inv X pins σ H { s with heap:=h' }:=I.kept (t':=s.toks) fun b o e=>hx b o (Nat.ne_of_lt (Heap.lt_size e)) e
  exact h pins _ σ H xs _ Q I1 (by simpa using rv) hw
def Zwp (te:TE) (g:TG):TS:=fun D σ H=>te σ H fun x H1=>g x σ H1 D.nx
theorem ZqF {i:Nat} {x:Str} {e:Expr} {te:TE} {pos':Pos} (hN:X.N.Nodup) (hi:X.N[i]?=some x) (hx:Loc X.env.scope x) (he:PE X e te) (hs:swapsWith e (some (.Name x pos')) pos.line X.env=pure false:=by rfl) (hf:X.fn x=true∨X.env.scope.names.lookup x=some .local:=by first | exact .inl rfl | exact .inr rfl | assumption) :
    PS X (.Assign [.Name x pos'] e pos) (Zwp te (Zl3 i)):=by
  intro pins s σ H D I h
  refine wpAny_Assign_Name (thn (he pins s σ H _ I h) fun v s1 ⟨y,H1,I1,r1,q1⟩=>?_) hs
  exact ZlA I1 hN hi hx r1 (fun s2 I2=>⟨_,H1,I2,q1⟩) hf
end
section
variable {X:Cx} {pos:Pos}
def Zus (c:TT) (tb:TS):TS:=fun D σ H=>∃W:Nat→St→Hp→Prop,(∃m,W m σ H)∧∀m σ H,W m σ H→
  c σ H fun b H1=>if b=true then ∃N:St→Hp→Prop,(∀σ' H',N σ' H'→∃m',m'<m∧W m' σ' H')∧tb { D with nx:=N,ct:=N,bk:=D.nx } σ H1 else D.nx σ H1
theorem ZqE {c:Expr} {body:List Stmt} {tc:TT} {tb:TS} (hp:PassesOwn (model X.prog X.w) X.A X.env X.xe) (hc:PT X c tc) (hb:PSs X body tb):PS X (.While c body [] pos) (Zus tc tb):=by
  intro pins s σ H D I h
  obtain ⟨W,⟨m0,w0⟩,turn⟩:=h
  refine wpAny_While (codeAny_whileLoop (fun n s'=>∃σ' H',Inv X pins σ' H' s'∧W n σ' H') ?_ m0 ⟨σ,H,I,w0⟩)
  rintro n s1 ⟨σ1,H1,I1,w1⟩
  refine wpAny_passesOwn hp (thn (hc pins s1 σ1 H1 _ I1 (turn n σ1 H1 w1)) fun b s2 ⟨H2,I2,q2⟩=>?_)
  cases b with
  | true=>
    obtain ⟨N,hN,q2⟩:=q2
    rw [if_pos rfl]
    refine wpAny_passesOwn hp (thn (hb pins s2 σ1 H2 _ I2 q2) fun f s3 q3=>?_)
    cases f with
    | next=>
      obtain ⟨σ3,H3,I3,n3⟩:=q3
      obtain ⟨m',hm,w3⟩:=hN σ3 H3 n3
      exact ⟨m',hm,σ3,H3,I3,w3⟩
    | cont=>
      obtain ⟨σ3,H3,I3,n3⟩:=q3
      obtain ⟨m',hm,w3⟩:=hN σ3 H3 n3
      exact ⟨m',hm,σ3,H3,I3,w3⟩
    | brk=>exact q3
    | ret v=>exact q3
  | false=>
    rw [if_neg Bool.false_ne_true]
    exact wpAny_execs_nil ⟨σ1,H2,I2,q2⟩
end
structure It where
  go:Nat→Hp→Prop
  yld:Nat→Hp→V→Hp→Prop
  stop:Nat→Hp→Prop
def ZiI (X:Cx) (pins:List (Addr×Obj)) (H:Hp) (b:Addr):Prop:=
  H b=none∧b≠X.env.locals∧b∉X.fs∧(b∈X.ex∨X.s₀.heap.objs.size≤b)∧(∀x c,X.env.cells.lookup x=some c→c≠b)∧∀p∈X.pn++pins,p.1≠b
theorem Inv.fpOk {X:Cx} {pins:List (Addr×Obj)} {σ:St} {H H':Hp} {s:Shared} {b:Addr} (I:Inv X pins σ H s) (hb:s.heap.objs.size≤b) (hn:H' b=none):ZiI X pins H' b:=by
  refine ⟨hn,Nat.ne_of_gt (Nat.lt_of_lt_of_le I.lt hb),I.nofs hb,.inr (Nat.le_trans I.sz hb),fun x c e z=>?_,fun p hp z=>?_⟩
  · obtain ⟨v,q⟩:=I.cell x c e
    exact absurd (Nat.lt_of_lt_of_le q.lt (by rw [z]; exact hb)) (Nat.lt_irrefl _)
  · exact absurd (Nat.lt_of_lt_of_le (Heap.lt_size (I.pin p hp).1) (by rw [z]; exact hb)) (Nat.lt_irrefl _)
structure ZoM (P:Program) (w:World) (K:PySem.W.Frag) (tg:Expr) (J:It) (fp:List Addr) (it:Addr) (tn:Nat→Heap→Prop):Prop where
  mem:it∈fp
  obj:∀i h,tn i h→∀b∈fp,∃o,h.get? b=some o∧∀v,o.data≠.cell v
  keep:∀i h h',tn i h→(∀b∈fp,∀o,h.get? b=some o→h'.get? b=some o)→tn i h'
  item:∀(X:Cx),X.prog=P→X.w=w→X.K=K→X.calm=true→∀(i:Nat) (pins:List (Addr×Obj)) (s:Shared) (σ:St) (H:Hp) (E:Value→Shared→Prop),Inv X pins σ H s→(∀b∈fp,ZiI X pins H b)→tn i s.heap→J.go i H→
    wpAny (model P w) X.A (pyNext (.ref it)) (fun r s1=>∃u,r=some u∧
      wpAny (model P w) X.A (letOwnedTupleGo tg (.ref it) u) (fun _ s2=>∃x H',Inv X pins σ H' s2∧RelV x u∧J.yld i H x H'∧tn (i+1) s2.heap∧∀b∈fp,H' b=none) E s1) E s
  done:∀(X:Cx),X.prog=P→X.w=w→X.K=K→X.calm=true→∀(i:Nat) (pins:List (Addr×Obj)) (s:Shared) (σ:St) (H:Hp) (E:Value→Shared→Prop),Inv X pins σ H s→(∀b∈fp,ZiI X pins H b)→tn i s.heap→J.stop i H→
    wpAny (model P w) X.A (pyNext (.ref it)) (fun r s1=>r=none∧Inv X pins σ H s1) E s
  self:∀(A:Around) (i:Nat) (s:Shared) (Q:Value→Shared→Prop) (E:Value→Shared→Prop),tn i s.heap→Q (.ref it) s→wpAny (model P w) A (pyIter (.ref it)) Q E s
abbrev TI:=St→Hp→(It→Hp→Prop)→Prop
def PIE (X:Cx) (pins:List (Addr×Obj)) (σ:St) (tg:Expr) (R:It→Hp→Prop) (itv:Value) (s2:Shared):Prop:=
  ∃(it:Addr) (fp:List Addr) (tn:Nat→Heap→Prop) (J:It) (H':Hp),itv=.ref it∧Inv X pins σ H' s2∧ZoM X.prog X.w X.K tg J fp it tn∧tn 0 s2.heap∧(∀b∈fp,ZiI X pins H' b)∧R J H'
def PI (X:Cx) (tg iter:Expr) (wi:TI):Prop:=
  ∀(pins:List (Addr×Obj)) (s:Shared) (σ:St) (H:Hp) (R:It→Hp→Prop),Inv X pins σ H s→wi σ H R→
    wpAny (model X.prog X.w) X.A (eval iter X.env) (fun v s1=>wpAny (model X.prog X.w) X.A (pyIter v) (PIE X pins σ tg R) X.xe s1) X.xe s
theorem Zrs {M:Model} {A:Around} {E:Value→Shared→Prop} {s:Shared} {tg:Expr} {it:Addr} {u:Value} {o:Obj} {n:String} {vs:Array Value} {Q:Unit→Shared→Prop} (ho:s.heap.get? it=some o) (hc:o.cls=.type n) (hd:o.data=.fields vs)
    (hn:["enumerate","zip","dict_itemiterator","dict_reverseitemiterator","odict_iterator","itertools.zip_longest","itertools.pairwise"].contains n=false) (hQ:Q () s):wpAny M A (letOwnedTupleGo tg (.ref it) u) Q E s:=by
  unfold letOwnedTupleGo
  cases tg<;>first
    | exact wpAny_pure hQ
    | (cases u<;>first
        | exact wpAny_pure hQ
        | (refine wpAny_bind (wpAny_load ho ?_)
           rw [hc,hd]
           show wpAny M A (if (["enumerate","zip","dict_itemiterator","dict_reverseitemiterator","odict_iterator","itertools.zip_longest","itertools.pairwise"].contains n && vs[0]? == some (rawInt _))=true then _ else _) Q E s
           rw [if_neg (by intro h; rw [hn,Bool.false_and] at h; cases h)]
           exact wpAny_pure hQ))
def Itl (K:PySem.W.Frag) (a:Addr):It:=
  ⟨fun i H=>∃xs x,SqL K H a xs∧xs[i]?=some x,fun i H x H'=>H'=H∧∀xs,SqL K H a xs→xs[i]?=some x,fun i H=>∃xs,SqL K H a xs∧xs.length≤i⟩
def Itt (K:PySem.W.Frag) (a:Addr):It:=
  ⟨fun i H=>∃xs x,SqT K H a xs∧xs[i]?=some x,fun i H x H'=>H'=H∧∀xs,SqT K H a xs→xs[i]?=some x,fun i H=>∃xs,SqT K H a xs∧xs.length≤i⟩
def Itr (lo:Int) (n:Nat):It:=⟨fun i _=>i<n,fun i H x H'=>H'=H∧x=.int (lo+i),fun i _=>n≤i⟩
theorem Zn4 {P:Program} {w:World} {K:PySem.W.Frag} {tg:Expr} (a it:Addr):ZoM P w K tg (Itl K a) [it] it (fun i h=>h.IsListIter it a i) where
  mem:=by simp
  obj:=fun i h st b hb=>by
    have e:b=it:=by simpa using hb
    subst e
    obtain ⟨o,e,c,d⟩:=st
    exact ⟨o,e,fun v z=>by rw [d] at z; cases z⟩
  keep:=fun i h h' st k=>st.at fun o e=>k it (by simp) o e
  item:=by
    intro X hP hw hK hc i pins s σ H E I hf st hg
    subst hP hw hK
    obtain ⟨xs,x,hq,hx⟩:=hg
    obtain ⟨its,rv,p,hz⟩:=I.list hq
    obtain ⟨u,hu,ru⟩:=rv.get hx
    obtain ⟨f0,f1,f2,f3,f4,f5⟩:=hf it (by simp)
    refine wpAny_pyNext_list_item st p.isList (x:=u) (by simpa using hu) fun h' st' sb=>?_
    have I1:Inv X pins σ H { s with heap:=h' }:=I.turned (t':=s.toks) (fun b o hb e=>(sb.2 b hb).trans e) f0 f1 f3 f4 f5
    obtain ⟨o,e,c,d⟩:=id st'
    exact ⟨u,rfl,Zrs (s:={ s with heap:=h' }) e c d (by decide) ⟨x,H,I1,ru,⟨rfl,fun ys hy=>by rw [I.list_inj hy hq]; exact hx⟩,st',fun b hb=>(hf b hb).1⟩⟩
  done:=by
    intro X hP hw hK hc i pins s σ H E I hf st hg
    subst hP hw hK
    obtain ⟨xs,hq,hx⟩:=hg
    obtain ⟨its,rv,p,hz⟩:=I.list hq
    obtain ⟨f0,f1,f2,f3,f4,f5⟩:=hf it (by simp)
    have hl:=rv.length
    exact wpAny_pyNext_list_end (I.ok.hd hc) st p.isList (by simp; omega) fun h' eb=>⟨rfl,I.turned (t':=s.toks) (fun b o hb e=>eb b o hb e) f0 f1 f3 f4 f5⟩
  self:=fun _ _ _ _ _ st h=>wpAny_pyIter_listiter st h
theorem Zmv {P:Program} {w:World} {K:PySem.W.Frag} {tg:Expr} (a it:Addr):ZoM P w K tg (Itt K a) [it] it (fun i h=>h.IsTupleIter it a i) where
  mem:=by simp
  obj:=fun i h st b hb=>by
    have e:b=it:=by simpa using hb
    subst e
    obtain ⟨o,e,c,d⟩:=st
    exact ⟨o,e,fun v z=>by rw [d] at z; cases z⟩
  keep:=fun i h h' st k=>st.at fun o e=>k it (by simp) o e
  item:=by
    intro X hP hw hK hc i pins s σ H E I hf st hg
    subst hP hw hK
    obtain ⟨xs,x,hq,hx⟩:=hg
    obtain ⟨its,rv,p,hz⟩:=I.tuple hq
    obtain ⟨u,hu,ru⟩:=rv.get hx
    obtain ⟨f0,f1,f2,f3,f4,f5⟩:=hf it (by simp)
    refine wpAny_pyNext_tuple_item st (show s.heap.IsTuple a its.toArray from p) (x:=u) (by simpa using hu) fun h' st' sb=>?_
    have I1:Inv X pins σ H { s with heap:=h' }:=I.turned (t':=s.toks) (fun b o hb e=>(sb.2 b hb).trans e) f0 f1 f3 f4 f5
    obtain ⟨o,e,c,d⟩:=id st'
    exact ⟨u,rfl,Zrs (s:={ s with heap:=h' }) e c d (by decide) ⟨x,H,I1,ru,⟨rfl,fun ys hy=>by rw [I.tuple_inj hy hq]; exact hx⟩,st',fun b hb=>(hf b hb).1⟩⟩
  done:=by
    intro X hP hw hK hc i pins s σ H E I hf st hg
    subst hP hw hK
    obtain ⟨xs,hq,hx⟩:=hg
    obtain ⟨its,rv,p,hz⟩:=I.tuple hq
    obtain ⟨f0,f1,f2,f3,f4,f5⟩:=hf it (by simp)
    have hl:=rv.length
    exact wpAny_pyNext_tuple_end (I.ok.hd hc) st (show s.heap.IsTuple a its.toArray from p) (by simp; omega) fun h' eb=>⟨rfl,I.turned (t':=s.toks) (fun b o hb e=>eb b o hb e) f0 f1 f3 f4 f5⟩
  self:=fun _ _ _ _ _ st h=>wpAny_pyIter_tupleiter st h
theorem Zmw {P:Program} {w:World} {K:PySem.W.Frag} {tg:Expr} (it:Addr) (lo:Int) (n:Nat):ZoM P w K tg (Itr lo n) [it] it (fun i h=>IsRangeIter h it (lo+(i:Nat)*1) ((n:Int)-(i:Nat)) 1) where
  mem:=by simp
  obj:=fun i h st b hb=>by
    have e:b=it:=by simpa using hb
    subst e
    exact ⟨_,st,fun v z=>by
      have z':Data.fields _=Data.cell v:=z
      cases z'⟩
  keep:=fun i h h' st k=>k it (by simp) _ st
  item:=by
    intro X hP hw hK hc i pins s σ H E I hf st hg
    subst hP hw hK
    obtain ⟨f0,f1,f2,f3,f4,f5⟩:=hf it (by simp)
    have W:=Walks.range (prog:=X.prog) (w:=X.w) (I.ok.hd hc) it lo 1 n
    refine W.item i s _ _ hg st fun v h' tk hv st' kk=>?_
    obtain ⟨t,rfl⟩:=hv
    have I1:Inv X pins σ H { s with heap:=h',toks:=tk }:=I.turned (fun b o hb e=>kk b o (by simpa using hb) e) f0 f1 f3 f4 f5
    refine ⟨_,rfl,Zrs (s:={ s with heap:=h',toks:=tk }) (n:="range_iterator") st' rfl rfl (by decide) ⟨.int (lo+i),H,I1,⟨t,?_⟩,⟨rfl,rfl⟩,st',fun b hb=>(hf b hb).1⟩⟩
    rw [Int.mul_one]
  done:=by
    intro X hP hw hK hc i pins s σ H E I hf st hg
    subst hP hw hK
    obtain ⟨f0,f1,f2,f3,f4,f5⟩:=hf it (by simp)
    exact wpAny_pyNext_range_end (I.ok.hd hc) st (by have:n≤i:=hg; omega) fun h' eb=>⟨rfl,I.turned (t':=s.toks) (fun b o hb e=>eb b o hb e) f0 f1 f3 f4 f5⟩
  self:=fun _ _ _ _ _ st h=>wpAny_pyIter_rangeiter st h
end L2
namespace L2
open PySem PySem.Spec PyProof.Rows
section
variable {X:Cx} {tg:Expr}
theorem Zqy {pins:List (Addr×Obj)} {σ:St} {H:Hp} {s:Shared} {R:It→Hp→Prop} {E:Value→Shared→Prop} {lo hi:Int} {t u v:Tok} {tk:Nat} (I:Inv X pins σ H s) (h1 : -(2 ^ 62)≤lo) (h2:lo<2 ^ 62) (h3 : -(2 ^ 62)≤hi) (h4:hi<2 ^ 62)
    (q:R (Itr lo (hi-lo).toNat) H):wpAny (model X.prog X.w) X.A (pyIter (.ref s.heap.objs.size)) (PIE X pins σ tg R) E { s with heap:=s.heap.push { cls:=.type "range",data:=.fields #[.int lo t,.int hi u,.int 1 v] },toks:=tk }:=by
  refine wpAny_pyIter_range (IsRange.new ..) (small_one h1 h2 h3 h4) ?_
  have I1:Inv X pins σ H { s with heap:=s.heap.push { cls:=.type "range",data:=.fields #[.int lo t,.int hi u,.int 1 v] },toks:=tk }:=I.kept fun b o e=>Heap.get?_push_of_some _ e
  refine ⟨(s.heap.push { cls:=.type "range",data:=.fields #[.int lo t,.int hi u,.int 1 v] }).objs.size,[(s.heap.push { cls:=.type "range",data:=.fields #[.int lo t,.int hi u,.int 1 v] }).objs.size],_,_,H,rfl,
    I1.kept (t':=tk) fun b o e=>Heap.get?_push_of_some _ e,Zmw _ lo (hi-lo).toNat,?_,fun b hb=>?_,q⟩
  · have e1:lo+((0:Nat):Int)*1=lo:=by simp
    have e2:(((hi-lo).toNat:Nat):Int)-((0:Nat):Int)=Builtin.Range.rangeSize lo hi 1:=by rw [rangeSize_one]; split<;>omega
    show IsRangeIter _ _ (lo+((0:Nat):Int)*1) ((((hi-lo).toNat:Nat):Int)-((0:Nat):Int)) 1
    rw [e1,e2]
    exact Heap.get?_push_size _ rfl
  · have e:b=(s.heap.push { cls:=.type "range",data:=.fields #[.int lo t,.int hi u,.int 1 v] }).objs.size:=by simpa using hb
    subst e
    exact I1.fpOk (Nat.le_refl _) (I1.hok.fresh (Nat.le_refl _))
def Zxa (ta:TA):TI:=fun σ H R=>ta σ H fun vs H1=>∃j:Int,vs=[.int j]∧-(2 ^ 62)≤j∧j<2 ^ 62∧R (Itr 0 j.toNat) H1
theorem Zoh {a:Expr} {ta:TA} {p pos:Pos} (hg:Gl X "range") (hm:X.mg "range"=none) (ha:PA X [a] ta) (hs:starEach [a] X.env=[(false,eval a X.env)]:=by rfl):PI X tg (.Call (.Name "range" p) [a] [] pos) (Zxa ta):=by
  intro pins s σ H R I h
  refine Call_ (Zh6 I hg hm boot_range (PyProof.Rows.callWith_type1 (thn (ha pos pins s σ H _ I h) fun us s1 ⟨vs,H1,I1,r1,q1⟩=>?_) hs rfl))
  obtain ⟨j,e,q1,q2,q⟩:=q1
  subst e
  cases r1 with
  | cons r rr=>
    cases rr
    obtain ⟨t,rfl⟩:=r
    exact call_range_1 (Zqy I1 (by omega) (by omega) q1 q2 (by simpa using q))
def ZAt (wi:TI) (g:TG) (tb:TS):TS:=fun D σ H=>wi σ H fun J H1=>∃W:Nat→Nat→St→Hp→Prop,(∃m,W 0 m σ H1)∧∀i m σ H,W i m σ H→
  (J.stop i H∧D.nx σ H)∨(J.go i H∧∃N:St→Hp→Prop,(∀σ' H',N σ' H'→∃m',m'<m∧W (i+1) m' σ' H')∧∀x H',J.yld i H x H'→g x σ H' fun σ2 H2=>tb { D with nx:=N,ct:=N,bk:=D.nx } σ2 H2)
def ZjD (fp:List Addr) (h:Heap):List (Addr×Obj):=fp.filterMap fun b=>(h.get? b).map fun o=>(b,o)
theorem Zed {fp:List Addr} {h:Heap} {b:Addr} {o:Obj} (hb:b∈fp) (e:h.get? b=some o):(b,o)∈ZjD fp h:=List.mem_filterMap.mpr ⟨b,hb,by rw [e]; rfl⟩
theorem Zol {fp:List Addr} {h:Heap} {p:Addr×Obj} (hp:p∈ZjD fp h):p.1∈fp∧h.get? p.1=some p.2:=by
  obtain ⟨b,hb,e⟩:=List.mem_filterMap.mp hp
  cases q:h.get? b with
  | none=>rw [q] at e; cases e
  | some o=>
    rw [q] at e
    have e':(b,o)=p:=Option.some.inj e
    subst e'
    exact ⟨hb,q⟩
theorem Inv.pinned {pins:List (Addr×Obj)} {σ:St} {H:Hp} {s:Shared} {fp:List Addr} (I:Inv X pins σ H s) (hf:∀b∈fp,ZiI X pins H b) (ho:∀b∈fp,∃o,s.heap.get? b=some o∧∀v,o.data≠.cell v):Inv X (pins++ZjD fp s.heap) σ H s:=
  I.pins_of fun p hp=>(List.mem_append.mp hp).elim (fun z=>I.pin p (List.mem_append_right _ z)) fun z=>by
    obtain ⟨hb,e⟩:=Zol z
    obtain ⟨f0,f1,f2,_⟩:=hf p.1 hb
    obtain ⟨o,e',d⟩:=ho p.1 hb
    rw [e] at e'; cases e'
    exact ⟨e,f0,f1,f2,d⟩
theorem Inv.unpinned {pins pl:List (Addr×Obj)} {σ:St} {H:Hp} {s:Shared} (I:Inv X (pins++pl) σ H s):Inv X pins σ H s:=I.pins_of fun p hp=>I.pin p (List.mem_append_right _ (List.mem_append_left _ hp))
theorem ZqG {iter:Expr} {body:List Stmt} {wi:TI} {g:TG} {tb:TS} {pos:Pos} (hp:PassesOwn (model X.prog X.w) X.A X.env X.xe) (hc:X.calm=true) (hi:PI X tg iter wi) (hg:PG X tg g) (hb:PSs X body tb)
    (hs:∀x,foldedSetIterable iter X.env x=pure x:=by intro _; rfl):PS X (.For tg iter body [] pos) (ZAt wi g tb):=by
  intro pins s σ H D I h
  refine wpAny_For (thn (hi pins s σ H _ I h) fun v s1 h1=>thn h1 fun itv s2 h2=>?_) hs
  obtain ⟨it,fp,tn,J,H2,e,I2,T,st2,f2,W,⟨m0,w0⟩,turn⟩:=h2
  subst e
  have stat:∀{H':Hp},(∀b∈fp,H' b=none)→∀b∈fp,ZiI X pins H' b:=fun hn b hb=>⟨hn b hb,(f2 b hb).2⟩
  refine codeAny_forLoop_any (fun n s'=>∃i σ' H',Inv X pins σ' H' s'∧tn i s'.heap∧(∀b∈fp,H' b=none)∧W i n σ' H') ?_ m0 ⟨0,σ,H2,I2,st2,fun b hb=>(f2 b hb).1,w0⟩
  rintro n s3 ⟨i,σ3,H3,I3,st3,fr3,w3⟩
  rcases turn i n σ3 H3 w3 with ⟨stop,qn⟩ | ⟨go,N,hN,step⟩
  · refine wpAny_passesOwn hp (thn (T.done X rfl rfl rfl hc i pins s3 σ3 H3 X.xe I3 (stat fr3) st3 stop) fun r s4 ⟨hr,I4⟩=>?_)
    subst hr
    exact wpAny_execs_nil ⟨σ3,H3,I4,qn⟩
  · refine wpAny_passesOwn hp (thn (T.item X rfl rfl rfl hc i pins s3 σ3 H3 X.xe I3 (stat fr3) st3 go) fun r s4 ⟨u,hr,h4⟩=>?_)
    subst hr
    refine wpAny_passesOwn hp (thn h4 fun _ s5 ⟨x,H5,I5,r5,y5,st5,fr5⟩=>?_)
    have I5':=I5.pinned (stat fr5) (T.obj _ _ st5)
    refine wpAny_passesOwn hp (thn (hg _ s5 σ3 H5 x u _ I5' r5 (step x H5 y5)) fun _ s6 ⟨σ6,H6,I6,q6⟩=>?_)
    refine wpAny_passesOwn hp (thn (hb _ s6 σ6 H6 _ I6 q6) fun f s7 q7=>?_)
    have again:∀{σ7:St} {H7:Hp},Inv X (pins++ZjD fp s5.heap) σ7 H7 s7→N σ7 H7→∃m,m<n∧∃i σ' H',Inv X pins σ' H' s7∧tn i s7.heap∧(∀b∈fp,H' b=none)∧W i m σ' H':=fun {σ7 H7} I7 n7=>by
      obtain ⟨m',hm,w7⟩:=hN σ7 H7 n7
      refine ⟨m',hm,i+1,σ7,H7,I7.unpinned,T.keep _ _ _ st5 fun b hb o e=>(I7.pin (b,o) (List.mem_append_right _ (List.mem_append_right _ (Zed hb e)))).1,fun b hb=>?_,w7⟩
      obtain ⟨o,e,d⟩:=T.obj _ _ st5 b hb
      exact (I7.pin (b,o) (List.mem_append_right _ (List.mem_append_right _ (Zed hb e)))).2.1
    cases f with
    | next=>obtain ⟨σ7,H7,I7,n7⟩:=q7; exact again I7 n7
    | cont=>obtain ⟨σ7,H7,I7,n7⟩:=q7; exact again I7 n7
    | brk=>obtain ⟨σ7,H7,I7,q7⟩:=q7; exact ⟨σ7,H7,I7.unpinned,q7⟩
    | ret v=>obtain ⟨x7,σ7,H7,I7,r7,q7⟩:=q7; exact ⟨x7,σ7,H7,I7.unpinned,r7,q7⟩
end
end L2
namespace L2
open PySem PySem.Spec PyProof.Rows
abbrev R2:=V→V→Hp→VK→Prop
def OpR (X:Cx) (f:Value→Value→Sem Value) (r:R2):Prop:=
  ∀(pins:List (Addr×Obj)) (s:Shared) (σ:St) (H:Hp) (x y:V) (v u:Value) (Q:VK),Inv X pins σ H s→RelV x v→RelV y u→r x y H Q→
    wpAny (model X.prog X.w) X.A (f v u) (EP X pins σ Q) X.xe s
def CallR (X:Cx) (f:Value) (r:List V→Hp→VK→Prop):Prop:=
  ∀(pins:List (Addr×Obj)) (s:Shared) (σ:St) (H:Hp) (xs:List V) (us:List Value) (Q:VK),Inv X pins σ H s→Vals xs us→r xs H Q→
    wpAny (model X.prog X.w) X.A (call f us) (EP X pins σ Q) X.xe s
def ZBd (X:Cx) (r:V→Hp→(Bool→Hp→Prop)→Prop):Prop:=
  ∀(pins:List (Addr×Obj)) (s:Shared) (σ:St) (H:Hp) (x:V) (v:Value) (Q:Bool→Hp→Prop),Inv X pins σ H s→RelV x v→r x H Q→
    wpAny (model X.prog X.w) X.A (truthy v) (TP X pins σ Q) X.xe s
def tOp (r:R2) (ta tb:TE):TE:=fun σ H Q=>ta σ H fun x H1=>tb σ H1 fun y H2=>r x y H2 Q
def rI (C:Int→Int→Prop) (g:Int→Int→V):R2:=fun x y H Q=>∃i j,x=.int i∧y=.int j∧C i j∧Q (g i j) H
def rI0 (g:Int→Int→V):R2:=fun x y H Q=>∃i j,x=.int i∧y=.int j∧Q (g i j) H
section
variable {X:Cx} {a b c:Expr} {ta tb tc:TE} {pos:Pos}
theorem Zvp (ha:PE X a ta) (hb:PE X b tb) {pins:List (Addr×Obj)} {s:Shared} {σ:St} {H:Hp} {R:V→V→Hp→Prop} (I:Inv X pins σ H s)
    (h:ta σ H fun x H1=>tb σ H1 fun y H2=>R x y H2) {Q:Value→Shared→Prop} {f:Value→Value→Sem Value}
    (hf:∀v u s2 x y H2,Inv X pins σ H2 s2→RelV x v→RelV y u→R x y H2→wpAny (model X.prog X.w) X.A (f v u) Q X.xe s2) :
    wpAny (model X.prog X.w) X.A (eval a X.env) (fun v s₁=>wpAny (model X.prog X.w) X.A (eval b X.env) (fun u s₂=>wpAny (model X.prog X.w) X.A (f v u) Q X.xe s₂) X.xe s₁) X.xe s:=by
  refine thn (ha pins s σ H _ I h) fun v s1 ⟨x,H1,I1,r1,q1⟩=>?_
  refine thn (hb pins s1 σ H1 _ I1 q1) fun u s2 ⟨y,H2,I2,r2,q2⟩=>?_
  exact hf v u s2 x y H2 I2 r1 r2 q2
theorem ZwJ {op:Operator} {r:R2} (ho:OpR X (binaryOp op) r) (ha:PE X a ta) (hb:PE X b tb):PE X (.BinOp a op b pos) (tOp r ta tb):=by
  intro pins s σ H Q I h
  exact wpAny_BinOp (Zvp ha hb I h fun v u s2 x y H2 I2 rx ry q=>ho pins s2 σ H2 x y v u Q I2 rx ry q)
theorem opI {f:Value→Value→Sem Value} {C:Int→Int→Prop} {g:Int→Int→Int}
    (rule:∀(i j:Int) (t u:Tok) (s:Shared) (Q:Value→Shared→Prop) (E:Value→Shared→Prop),C i j→Q (.int (g i j) s.toks) { s with toks:=s.toks+1 }→wpAny (model X.prog X.w) X.A (f (.int i t) (.int j u)) Q E s) :
    OpR X f (rI C fun i j=>.int (g i j)):=by
  intro pins s σ H x y v u Q I rx ry h
  obtain ⟨i,j,rfl,rfl,hc,q⟩:=h
  obtain ⟨t,rfl⟩:=rx
  obtain ⟨t',rfl⟩:=ry
  exact rule i j t t' s _ _ hc ⟨.int (g i j),H,I.tok _,⟨_,rfl⟩,q⟩
theorem Zu5 {f:Value→Value→Sem Value} {g:Int→Int→Int}
    (rule:∀(i j:Int) (t u:Tok) (s:Shared) (Q:Value→Shared→Prop) (E:Value→Shared→Prop),Q (.int (g i j) s.toks) { s with toks:=s.toks+1 }→wpAny (model X.prog X.w) X.A (f (.int i t) (.int j u)) Q E s) :
    OpR X f (rI0 fun i j=>.int (g i j)):=by
  intro pins s σ H x y v u Q I rx ry h
  obtain ⟨i,j,rfl,rfl,q⟩:=h
  obtain ⟨t,rfl⟩:=rx
  obtain ⟨t',rfl⟩:=ry
  exact rule i j t t' s _ _ ⟨.int (g i j),H,I.tok _,⟨_,rfl⟩,q⟩
theorem ZsQ {f:Value→Value→Sem Value} {g:Int→Int→Bool}
    (rule:∀(i j:Int) (t u:Tok) (s:Shared) (Q:Value→Shared→Prop) (E:Value→Shared→Prop),Q (.bool (g i j)) s→wpAny (model X.prog X.w) X.A (f (.int i t) (.int j u)) Q E s) :
    OpR X f (rI0 fun i j=>.bl (g i j)):=by
  intro pins s σ H x y v u Q I rx ry h
  obtain ⟨i,j,rfl,rfl,q⟩:=h
  obtain ⟨t,rfl⟩:=rx
  obtain ⟨t',rfl⟩:=ry
  exact rule i j t t' s _ _ ⟨.bl (g i j),H,I,rfl,q⟩
def CMul (i j:Int):Prop:=(-(2 ^ 64)<i∧i<2 ^ 64)∨(-(2 ^ 64)<j∧j<2 ^ 64)
theorem CMul.ok {i j:Int} (h:CMul i j):IntMulOk i j:=by
  rcases h with ⟨h1,h2⟩ | ⟨h1,h2⟩
  · exact .of_left (intBits_le_64 h1 h2)
  · exact .of_right (intBits_le_64 h1 h2)
theorem op_add:OpR X (binaryOp .Add) (rI0 fun i j=>.int (i+j)):=Zu5 fun _ _ _ _ _ _ _ q=>add_int q
theorem ZuX:OpR X (binaryOp .Sub) (rI0 fun i j=>.int (i-j)):=Zu5 fun _ _ _ _ _ _ _ q=>sub_int q
theorem op_mul:OpR X (binaryOp .Mult) (rI CMul fun i j=>.int (i*j)):=opI fun _ _ _ _ _ _ _ hc q=>mul_int q hc.ok
theorem Zu0:OpR X (binaryOp .Mod) (rI (fun _ j=>0<j) fun i j=>.int (i % j)):=opI fun i j _ _ _ _ _ hc q=>by
  have h1:(0:Int)<j:=hc
  exact mod_int' (by omega) (by rw [Int.fmod_eq_emod_of_nonneg i (by omega)]; exact q)
theorem Zu4:OpR X (binaryOp .BitAnd) (rI0 fun i j=>.int (Builtin.bitAnd i j)):=Zu5 fun _ _ _ _ _ _ _ q=>and_int q
end
section
variable {X:Cx} {a b c:Expr} {ta tb tc:TE} {pos:Pos}
theorem Zrw {pins:List (Addr×Obj)} {σ:St} {H:Hp} {s:Shared} {Q:VK} {k k':Bool} (I:Inv X pins σ H s) (q:Q (.bl k) H) (e:k=k'):EP X pins σ Q (.bool k') s:=by
  subst e
  exact ⟨.bl k,H,I,rfl,q⟩
theorem ZwR:OpR X (compareOp .Lt) (rI0 fun i j=>.bl (decide (i<j))):=ZsQ fun _ _ _ _ _ _ _ q=>lt_int q
theorem ZwS:OpR X (compareOp .LtE) (rI0 fun i j=>.bl (decide (i≤j))):=ZsQ fun _ _ _ _ _ _ _ q=>le_int q
theorem ZwT:OpR X (compareOp .Gt) (rI0 fun i j=>.bl (decide (j<i))):=ZsQ fun _ _ _ _ _ _ _ q=>gt_int q
theorem ZwU:OpR X (compareOp .GtE) (rI0 fun i j=>.bl (decide (j≤i))):=ZsQ fun _ _ _ _ _ _ _ q=>ge_int q
theorem op_isN:OpR X (compareOp .Is) (fun x y H Q=>y=.non∧Q (.bl (decide (x=.non))) H):=by
  intro pins s σ H x y v u Q I rx ry h
  obtain ⟨rfl,q⟩:=h
  cases ry
  refine is_none_gen (Zrw I q ?_)
  cases x<;>first
    | (cases rx; rfl)
    | (obtain ⟨t,rfl⟩:=rx; rfl)
theorem op_notN:OpR X (compareOp .IsNot) (fun x y H Q=>y=.non∧Q (.bl (!decide (x=.non))) H):=by
  intro pins s σ H x y v u Q I rx ry h
  obtain ⟨rfl,q⟩:=h
  cases ry
  refine isnot_none_gen (Zrw I q ?_)
  cases x<;>first
    | (cases rx; rfl)
    | (obtain ⟨t,rfl⟩:=rx; rfl)
theorem OpR.or {f:Value→Value→Sem Value} {r r':R2} (h:OpR X f r) (h':OpR X f r'):OpR X f (fun x y H Q=>r x y H Q∨r' x y H Q):=by
  intro pins s σ H x y v u Q I rx ry q
  rcases q with q | q
  · exact h pins s σ H x y v u Q I rx ry q
  · exact h' pins s σ H x y v u Q I rx ry q
theorem Zq6 (b:Expr) {op:CmpOp} (h:op≠.In:=by decide) (h2:op≠.NotIn:=by decide):behindInMarks op b=false:=by
  have e1:(op == CmpOp.In)=false:=by cases op<;>first | rfl | exact absurd rfl h
  have e2:(op == CmpOp.NotIn)=false:=by cases op<;>first | rfl | exact absurd rfl h2
  cases b<;>simp [behindInMarks,e1,e2]
theorem ZsM {op:CmpOp} {r:R2} (ho:OpR X (compareOp op) r) (ha:PE X a ta) (hb:PE X b tb) (hm:behindInMarks op b=false):PE X (.Compare a [op] [b] pos) (tOp r ta tb):=by
  intro pins s σ H Q I h
  exact wpAny_Compare1 (Zvp ha hb I h fun v u s2 x y H2 I2 rx ry q=>ho pins s2 σ H2 x y v u Q I2 rx ry q) hm
def ZtF (t:TE):TT:=fun σ H Q=>t σ H fun x H'=>∃k,x=.bl k∧Q k H'
theorem Zsz {op:CmpOp} {r:R2} (ho:OpR X (compareOp op) r) (ha:PE X a ta) (hb:PE X b tb) (hm:behindInMarks op b=false):PT X (.Compare a [op] [b] pos) (ZtF (tOp r ta tb)):=by
  intro pins s σ H Q I h
  refine wpAny_isTrue_Compare1 (thn (ha pins s σ H _ I h) fun v s1 ⟨x,H1,I1,r1,q1⟩=>thn (hb pins s1 σ H1 _ I1 q1) fun u s2 ⟨y,H2,I2,r2,q2⟩=>
    thn (ho pins s2 σ H2 x y v u _ I2 r1 r2 q2) fun c s3 ⟨z,H3,I3,r3,k,e,q3⟩=>?_) hm
  subst e
  cases r3
  exact wpAny_truthy_bool ⟨H3,I3,q3⟩
def ZmA (r r':R2) (ta tb tc:TE):TE:=fun σ H Q=>ta σ H fun x H1=>tb σ H1 fun y H2=>r x y H2 fun z H3=>∃k,z=.bl k∧
  (if k=true then tc σ H3 fun w' H4=>r' y w' H4 Q else Q (.bl false) H3)
theorem ZqU {op op':CmpOp} {r r':R2} (ho:OpR X (compareOp op) r) (ho':OpR X (compareOp op') r') (ha:PE X a ta) (hb:PE X b tb) (hc:PE X c tc)
    (hm:lastMarks [op,op'] [b,c]=false:=by with_unfolding_all rfl):PE X (.Compare a [op,op'] [b,c] pos) (ZmA r r' ta tb tc):=by
  intro pins s σ H Q I h
  refine Compare_chain (thn (ha pins s σ H _ I h) fun v s1 ⟨x,H1,I1,r1,q1⟩=>chain_link (thn (hb pins s1 σ H1 _ I1 q1) fun u s2 ⟨y,H2,I2,r2,q2⟩=>
    thn (ho pins s2 σ H2 x y v u _ I2 r1 r2 q2) fun d s3 ⟨z,H3,I3,r3,k,e,q3⟩=>?_)) hm
  subst e
  cases r3
  refine wpAny_truthy_bool ?_
  cases k with
  | false=>exact ite_ff ⟨.bl false,H3,I3,rfl,q3⟩
  | true=>exact ite_tt (chain_last (thn (hc pins s3 σ H3 _ I3 q3) fun w' s4 ⟨z',H4,I4,r4,q4⟩=>ho' pins s4 σ H4 y z' u w' Q I4 r2 r4 q4))
theorem ZqC {op op':CmpOp} {r r':R2} (ho:OpR X (compareOp op) r) (ho':OpR X (compareOp op') r') (ha:PE X a ta) (hb:PE X b tb) (hc:PE X c tc)
    (hm:lastMarks [op,op'] [b,c]=false:=by with_unfolding_all rfl):PT X (.Compare a [op,op'] [b,c] pos) (ZtF (ZmA r r' ta tb tc)):=by
  intro pins s σ H Q I h
  refine isTrue_chain (thn (ha pins s σ H _ I h) fun v s1 ⟨x,H1,I1,r1,q1⟩=>test_link (thn (hb pins s1 σ H1 _ I1 q1) fun u s2 ⟨y,H2,I2,r2,q2⟩=>
    thn (ho pins s2 σ H2 x y v u _ I2 r1 r2 q2) fun d s3 ⟨z,H3,I3,r3,k,e,q3⟩=>?_)) hm
  subst e
  cases r3
  refine wpAny_truthy_bool ?_
  cases k with
  | false=>
    obtain ⟨k',e',q'⟩:=q3
    cases e'
    exact ite_ff ⟨H3,I3,q'⟩
  | true=>
    refine ite_tt (test_last (thn (hc pins s3 σ H3 _ I3 q3) fun w' s4 ⟨z',H4,I4,r4,q4⟩=>thn (ho' pins s4 σ H4 y z' u w' _ I4 r2 r4 q4) fun d' s5 ⟨z2,H5,I5,r5,k2,e2,q5⟩=>?_))
    subst e2
    cases r5
    exact wpAny_truthy_bool ⟨H5,I5,q5⟩
def TruV (K:PySem.W.Frag) (x:V) (H:Hp) (k:Bool):Prop:=
  match x with
  | .non=>k=false
  | .bl b=>k=b
  | .int i=>k=(i != 0)
  | .str y=>y.length≤sizeLine∧k=((y.length:Int) != 0)
  | .byt y=>y.size≤sizeLine∧k=((y.size:Int) != 0)
  | .ref p=>(∃xs,SqL K H p xs∧k=!xs.isEmpty)∨(∃xs,SqT K H p xs∧k=!xs.isEmpty)∨∃kvs,H p=some (.dK kvs)∧k=!kvs.isEmpty
  | _=>False
theorem ZmR {κ:Type} {kvs:List (κ×V)} {vs:List (κ×Value)} (r:KV kvs vs):(!vs.isEmpty)=!kvs.isEmpty:=by
  cases r<;>rfl
theorem Zh9 {xs:List V} {its:List Value} (r:Vals xs its):(!its.toArray.isEmpty)=!xs.isEmpty:=by
  cases r<;>simp
theorem ZgI:(sizeLine:Nat)<2 ^ 63:=by rw [sizeLine_eq]; decide
theorem Zql:ZBd X (fun x H Q=>∃k,TruV X.K x H k∧Q k H):=by
  intro pins s σ H x v Q I rx h
  obtain ⟨k,e,q⟩:=h
  have hl:=ZgI
  have hs:sizeLine=16777216:=sizeLine_eq
  cases x with
  | non=>
    cases rx
    have e':k=false:=e
    subst e'
    exact truthy_none ⟨H,I,q⟩
  | bl b=>
    cases rx
    have e':k=b:=e
    subst e'
    exact wpAny_truthy_bool ⟨H,I,q⟩
  | int i=>
    obtain ⟨t,rfl⟩:=rx
    have e':k=(i != 0):=e
    subst e'
    exact PySem.P.truthy_int ⟨H,I,q⟩
  | str y=>
    obtain ⟨t,rfl⟩:=rx
    obtain ⟨hy,e'⟩:y.length≤sizeLine∧k=((y.length:Int) != 0):=e
    subst e'
    exact PySem.P.truthy_str (by omega) ⟨H,I.tok _,q⟩
  | byt y=>
    obtain ⟨t,rfl⟩:=rx
    obtain ⟨hy,e'⟩:y.size≤sizeLine∧k=((y.size:Int) != 0):=e
    subst e'
    exact PySem.W.truthy_bytes (by omega) ⟨H,I.tok _,q⟩
  | ref p=>
    cases rx
    have e':(∃xs,SqL X.K H p xs∧k=!xs.isEmpty)∨(∃xs,SqT X.K H p xs∧k=!xs.isEmpty)∨∃kvs,H p=some (.dK kvs)∧k=!kvs.isEmpty:=e
    rcases e' with ⟨xs,hx,e'⟩ | ⟨xs,hx,e'⟩ | ⟨kvs,hx,e'⟩
    · subst e'
      obtain ⟨its,r,pl,hz⟩:=I.list hx
      have hlen:=r.length
      exact wpAny_truthy_list pl.isList (by simp only [List.size_toArray]; omega) ⟨H,I.tok _,by rw [Zh9 r]; exact q⟩
    · subst e'
      obtain ⟨its,r,pl,hz⟩:=I.tuple hx
      have hlen:=r.length
      exact truthy_tuple pl (by simp only [List.size_toArray]; omega) ⟨H,I.tok _,by rw [Zh9 r]; exact q⟩
    · subst e'
      obtain ⟨hz,hS,vs,r,m⟩:kvs.length≤sizeLine∧(p == sysModules)=false∧∃vs,KV kvs vs∧s.heap.DictOf (zZ X.prog X.w) p vs:=I.hok p _ hx
      have hlen:kvs.length=vs.length:=Paired.length r
      exact wpAny_truthy_dict hS m (by omega) ⟨H,I.tok _,by rw [ZmR r]; exact q⟩
  | _=>exact (show False from e).elim
theorem ZqB (ha:PE X a ta) (he:∀whole,isTrue a X.env whole=(do let v ←whole; standAt a.pos; holding [v] (truthy v))) :
    PT X a (fun σ H Q=>ta σ H fun x H'=>∃k,TruV X.K x H' k∧Q k H'):=by
  intro pins s σ H Q I h
  exact isTrue_plain (thn (ha pins s σ H _ I h) fun v s1 ⟨x,H1,I1,r1,q1⟩=>Zql pins s1 σ H1 x v Q I1 r1 q1) (he _)
theorem op_add_str:OpR X (binaryOp .Add) (fun x y H Q=>∃i j,x=.str i∧y=.str j∧i.length+j.length≤sizeLine∧Q (.str (i++j)) H):=by
  intro pins s σ H x y v u Q I rx ry h
  obtain ⟨i,j,rfl,rfl,hz,q⟩:=h
  obtain ⟨t,rfl⟩:=rx
  obtain ⟨t',rfl⟩:=ry
  exact add_str (fun t' tk=>⟨.str (i++j),H,I.tok _,⟨_,rfl⟩,q⟩) hz
theorem ZfO {x:V} {us:List Value} (r:Vals [x] us):∃u,us=[u]∧RelV x u:=by
  cases r with
  | cons r1 r2=>cases r2; exact ⟨_,rfl,r1⟩
theorem Zqj {x y:V} {us:List Value} (r:Vals [x,y] us):∃u w',us=[u,w']∧RelV x u∧RelV y w':=by
  cases r with
  | cons r1 r2=>
    cases r2 with
    | cons r3 r4=>cases r4; exact ⟨_,_,rfl,r1,r3⟩
theorem ZoI (hc:X.calm=true):CallR X (.builtin "max") (fun xs H Q=>∃i j,xs=[.int i,.int j]∧Q (.int (if j > i then j else i)) H):=by
  intro pins s σ H xs us Q I r h
  obtain ⟨i,j,rfl,q⟩:=h
  obtain ⟨u,w',rfl,⟨t,rfl⟩,⟨t',rfl⟩⟩:=Zqj r
  refine max_two_ints (I.ok.hd hc) fun h' tk k=>⟨_,H,I.kept k,?_,q⟩
  by_cases hj:j > i
  · rw [if_pos hj,if_pos hj]; exact ⟨_,rfl⟩
  · rw [if_neg hj,if_neg hj]; exact ⟨_,rfl⟩
theorem ZoH (hc:X.calm=true):CallR X (.builtin "min") (fun xs H Q=>∃i j,xs=[.int i,.int j]∧Q (.int (if j<i then j else i)) H):=by
  intro pins s σ H xs us Q I r h
  obtain ⟨i,j,rfl,q⟩:=h
  obtain ⟨u,w',rfl,⟨t,rfl⟩,⟨t',rfl⟩⟩:=Zqj r
  refine min_two_ints (I.ok.hd hc) fun h' tk k=>⟨_,H,I.kept k,?_,q⟩
  by_cases hj:j<i
  · rw [if_pos hj,if_pos hj]; exact ⟨_,rfl⟩
  · rw [if_neg hj,if_neg hj]; exact ⟨_,rfl⟩
theorem ZoJ:CallR X (.type "int") (fun xs H Q=>(∃i,xs=[.int i]∧Q (.int i) H)∨∃k,xs=[.bl k]∧Q (.int (if k then 1 else 0)) H):=by
  intro pins s σ H xs us Q I r h
  rcases h with ⟨i,rfl,q⟩ | ⟨k,rfl,q⟩
  · obtain ⟨u,rfl,t,rfl⟩:=ZfO r
    exact call_int_int ⟨.int i,H,I,⟨_,rfl⟩,q⟩
  · obtain ⟨u,rfl,r1⟩:=ZfO r
    cases r1
    exact call_int_bool ⟨.int (if k then 1 else 0),H,I.tok _,⟨_,rfl⟩,q⟩
end
end L2
namespace L2
open PySem PySem.Spec PyProof.Rows
structure ObjM (h:Heap) (x dx C:Addr) (mA:Str→Option Value):Prop where
  obj:h.get? x=some (PySem.W.instObj C dx)
  ns:h.Ns1 dx mA
  ne:dx≠x
theorem Zon {h:Heap} {dx:Addr} {mA:Str→Option Value} (n:h.Ns1 dx mA):∃od,h.get? dx=some od∧∀name,PySem.W.lookIn name od=some (mA name):=by
  obtain ⟨o,es,ep,ho,hd,hk,_,hm⟩:=n
  refine ⟨o,ho,fun name=>?_⟩
  have e:=hm name
  unfold nsFind findBy at e
  rw [←Array.find?_toList] at e
  unfold PySem.W.lookIn
  rw [hd]
  dsimp only
  split
  · rename_i y q
    rw [q] at e
    exact congrArg some e
  · rename_i q
    rw [q] at e
    have a:es.toList.any (·.refKey)=false:=by
      rw [List.any_eq_false]
      intro y hy
      obtain ⟨z,t,hkey⟩:=hk y (Array.mem_toList_iff.mp hy)
      simp [DictEntry.refKey,hkey]
    have a':¬es.toList.any (·.refKey)=true:=by rw [a]; exact Bool.false_ne_true
    rw [if_neg a']
    exact congrArg some e
theorem ObjM.look {h:Heap} {x dx C:Addr} {mA:Str→Option Value} (I:ObjM h x dx C mA):∃od,PySem.W.InstAt h x (PySem.W.instObj C dx) C (some od)∧∀name,PySem.W.lookIn name od=some (mA name):=
  let ⟨od,ho,hl⟩:=Zon I.ns
  ⟨od,⟨I.obj,rfl,rfl,ho⟩,hl⟩
section
variable {prog:Program} {w:World} {A:Around} {E:Value→Shared→Prop} {s:Shared} {K:PySem.W.Frag} {x dx C f:Addr} {mA:Str→Option Value} {name:Str} {v:Value}
theorem Zs8 {expr:Bool} {Q:Value→Shared→Prop} (X:K.In s.heap) (I:ObjM s.heap x dx C mA) (hg:PySem.W.plainGet K C name=true) (hh:PySem.W.hasDictIn K C=true)
    (ha:PySem.W.findIn K (.ref C) name=some none) (hv:mA name=some v) (hv':PySem.W.handedIn v=true) (h:Q v { s with toks:=s.toks+1 }) :
    wpAny (model prog w) A (getAttr (.ref x) name expr) Q E s:=by
  obtain ⟨od,J,hl⟩:=I.look
  exact PySem.W.get_value X J (PySem.W.plainGet_of hg).1 (PySem.W.findObj_own hh ha rfl (by rw [hl,hv])) hv' h
theorem Zsr {ns:List Str} {Q:Unit→Shared→Prop} (X:K.In s.heap) (I:ObjM s.heap x dx C mA)
    (hs:PySem.W.findIn K (.ref C) "__setattr__"=some (some (.builtin "object.__setattr__"))) (hp:PySem.W.plainOver K C=true) (ht:PySem.W.takerIn K C name=some none) (hh:PySem.W.hasDictIn K C=true)
    (hw:PySem.Within mA ns) (hsz:ns.length≤sizeLine)
    (h:∀h',ObjM h' x dx C (fun y=>if y=name then some v else mA y)→Heap.SameBut dx s.heap h'→Q () { s with heap:=h',toks:=s.toks+2 }) :
    wpAny (model prog w) A (setAttr (.ref x) name v) Q E s:=by
  obtain ⟨od,J,hl⟩:=I.look
  refine PySem.W.set_plain X J hs (PySem.W.osa_open (s:={ s with toks:=s.toks+1 }) (r:=none) X J hp ht fun b=>?_)
  obtain ⟨cd,hc,hd'⟩:=PySem.W.any_some hh
  have hx:s.heap.get? x=some ⟨.ref C,some dx,.plain,#[]⟩:=I.obj
  refine wpAny_bind (wpAny_pure (wpAny_bind (wpAny_bind (wpAny_loadPart hx (wpAny_bind (PySem.W.Looks.here (s:={ s with toks:=s.toks+1 }) (PySem.W.looks_clsIn X hc) ?_))))))
  rw [hd']
  refine wpAny_pure (a:=some dx) (wpAny_bind (wpAny_pure (wpAny_bind ?_)))
  refine wpAny_nsSet1 (s:={ s with toks:=s.toks+1 }) I.ns fun h' hn2 hs2=>?_
  obtain ⟨oD,esD,epD,hoD,hdD,hcD⟩:=hn2.count (PySem.Within.cons name v hw)
  refine wpAny_bind (wpAny_lookBehind hoD (by rw [hdD]; exact pastItsLine_dict (Nat.le_trans hcD (by rw [List.length_cons]; omega))) ?_)
  exact wpAny_pure (h _ ⟨(hs2.2 _ (Ne.symm I.ne)).trans I.obj,hn2,I.ne⟩ hs2)
theorem Zrh {R:Result→Shared→Prop} {vs:List Value} {kw:List (Str×Value)} (X:K.In s.heap) (hm:PySem.W.makesIn K C=true)
    (hi:PySem.W.findIn K (.ref C) "__init__"=some (some (.ref f))) (hf:PySem.W.typeIn K (.ref f)=some (.type "function"))
    (h:codeAny (model prog w) (A.under (.builtin "type.__call__" ⟨.ref C::vs,kw⟩)) (.call (.ref f) ⟨.ref (s.heap.objs.size+1)::vs,kw⟩) (PySem.W.InitBack (s.heap.objs.size+1) R)
      { s with heap:=(s.heap.push PySem.W.emptyDict).push (PySem.W.instObj C s.heap.objs.size) }) :
    codeAny (model prog w) A (.call (.ref C) ⟨vs,kw⟩) R s:=by
  obtain ⟨hh,g,d,t,os⟩:=s
  exact PySem.W.make_core (PySem.W.makes_of X hm) (PySem.W.looks_findIn X hi) (fun self=>PySem.W.bind_fn X self hf) (.inl rfl) h
end
def ZdR (f:Str) (v:V):List (Str×V)→List (Str×V)
  | []=>[(f,v)]
  | (g,x)::r=>if g=f then (g,v)::r else (g,x)::ZdR f v r
theorem Zg0 (f g:Str) (v:V):∀fs:List (Str×V),(ZdR f v fs).lookup g=if g=f then some v else fs.lookup g
  | []=>by
    show List.lookup g [(f,v)]=_
    by_cases h:g=f
    · have hb:(g == f)=true:=beq_iff_eq.mpr h
      simp only [List.lookup,hb,if_pos h]
    · have hb:(g == f)=false:=beq_eq_false_iff_ne.mpr h
      simp only [List.lookup,hb,if_neg h]
  | (k,x)::r=>by
    have ih:=Zg0 f g v r
    rw [show ZdR f v ((k,x)::r)=(if k=f then (k,v)::r else (k,x)::ZdR f v r) from rfl]
    by_cases hk:k=f
    · rw [if_pos hk]
      by_cases h:g=k
      · have hb:(g == k)=true:=beq_iff_eq.mpr h
        simp only [List.lookup,hb,if_pos (h.trans hk)]
      · have hb:(g == k)=false:=beq_eq_false_iff_ne.mpr h
        simp only [List.lookup,hb,if_neg (fun e:g=f=>h (e.trans hk.symm))]
    · rw [if_neg hk]
      by_cases h:g=k
      · have hb:(g == k)=true:=beq_iff_eq.mpr h
        simp only [List.lookup,hb,if_neg (fun e:g=f=>hk (h.symm.trans e))]
      · have hb:(g == k)=false:=beq_eq_false_iff_ne.mpr h
        simp only [List.lookup,hb]
        exact ih
theorem ZgM (f:Str) (v:V):∀fs:List (Str×V),f∈(ZdR f v fs).map (·.1)∧∀g,g∈fs.map (·.1)→g∈(ZdR f v fs).map (·.1)
  | []=>⟨by simp [ZdR],fun g h=>by simp at h⟩
  | (k,x)::r=>by
    obtain ⟨i1,i2⟩:=ZgM f v r
    rw [show ZdR f v ((k,x)::r)=(if k=f then (k,v)::r else (k,x)::ZdR f v r) from rfl]
    by_cases hk:k=f
    · rw [if_pos hk]
      subst hk
      exact ⟨by simp,fun g h=>by simpa using h⟩
    · rw [if_neg hk]
      refine ⟨?_,fun g h=>?_⟩
      · rw [List.map_cons]
        exact List.mem_cons_of_mem _ i1
      · rw [List.map_cons] at h ⊢
        rcases List.mem_cons.mp h with e | e
        · exact List.mem_cons.mpr (.inl e)
        · exact List.mem_cons_of_mem _ (i2 g e)
theorem Zg2 (f:Str) (v:V):∀fs:List (Str×V),(ZdR f v fs).length≤fs.length+1
  | []=>by simp [ZdR]
  | (k,x)::r=>by
    have ih:=Zg2 f v r
    rw [show ZdR f v ((k,x)::r)=(if k=f then (k,v)::r else (k,x)::ZdR f v r) from rfl]
    by_cases hk:k=f
    · rw [if_pos hk,List.length_cons,List.length_cons]; omega
    · rw [if_neg hk,List.length_cons,List.length_cons]; omega
theorem RelO.some_of {v:V} {o:Option Value} (r:RelO (some v) o):∃u,o=some u∧RelV v u:=by
  cases o with
  | none=>exact (show False from r).elim
  | some u=>exact ⟨u,rfl,r⟩
theorem RelO.none_of {o:Option Value} (r:RelO none o):o=none:=by
  cases o with
  | none=>rfl
  | some u=>exact (show False from r).elim
theorem Zov {v:V} {u:Value} (r:RelV v u):PySem.W.handedIn u=true:=by
  cases v with
  | non=>cases (show u=Value.none from r); rfl
  | bl b=>cases (show u=Value.bool b from r); rfl
  | int i=>obtain ⟨t,e⟩:=(show ∃t,u=Value.int i t from r); cases e; rfl
  | str x=>obtain ⟨t,e⟩:=(show ∃t,u=Value.str x t from r); cases e; rfl
  | byt b=>obtain ⟨t,e⟩:=(show ∃t,u=Value.bytes b t from r); cases e; rfl
  | flt b=>obtain ⟨t,e⟩:=(show ∃t,u=Value.float b t from r); cases e; rfl
  | ref a=>cases (show u=Value.ref a from r); rfl
  | ty n=>cases (show u=Value.type n from r); rfl
section
variable {P:Program} {w:World} {H H':Hp} {h h':Heap} {a C dx:Addr} {fs fs':List (Str×V)}
theorem ZjO (hok:HOk P w H h) (e:H a=some (.ins C dx fs)):∃mA,ObjM h a dx C mA∧(∀f,RelO (fs.lookup f) (mA f))∧PySem.Within mA (fs.map (·.1))∧fs.length≤1000∧H dx=some (.own a):=by
  obtain ⟨d,z,ne,ob,mA,n,r,q⟩:=(show ObjOk P w H h a (.ins C dx fs) from hok a _ e)
  exact ⟨mA,⟨ob,n,ne⟩,r,q,z,d⟩
end
structure Cls (K:PySem.W.Frag) (C:Addr):Prop where
  pg:PySem.W.plainGet K C Str.empty=true
  hd:PySem.W.hasDictIn K C=true
  po:PySem.W.plainOver K C=true
  sa:PySem.W.findIn K (.ref C) "__setattr__"=some (some (.builtin "object.__setattr__"))
theorem Cls.get {K:PySem.W.Frag} {C:Addr} (c:Cls K C) (f:Str):PySem.W.plainGet K C f=true:=c.pg
def NoAttr (K:PySem.W.Frag) (C:Addr) (f:Str):Prop:=PySem.W.findIn K (.ref C) f=some none
theorem NoAttr.taker {K:PySem.W.Frag} {C:Addr} {f:Str} (n:NoAttr K C f):PySem.W.takerIn K C f=some none:=by
  unfold PySem.W.takerIn
  rw [show PySem.W.findIn K (.ref C) f=some none from n]
  rfl
structure Con (K:PySem.W.Frag) (C:Addr) (f:Str) (v:V) (u:Value):Prop where
  at_:PySem.W.findIn K (.ref C) f=some (some u)
  rel:RelV v u
  get:PySem.W.specialIn K u "__get__"=some none
  cp:PySem.W.copiedNames.contains f=false
structure ZBe (K:PySem.W.Frag) (C:Addr) (m:Str) (f:Addr):Prop where
  at_:PySem.W.findIn K (.ref C) m=some (some (.ref f))
  fn:PySem.W.isFn K (.ref f)=true
  kp:PySem.W.keepIn K (.ref f)=true
section
variable {X:Cx} {pins:List (Addr×Obj)} {σ:St} {H:Hp} {s:Shared} {a C dx:Addr} {fs:List (Str×V)} {f:Str} {v:V} {A:Around} {E:Value→Shared→Prop}
theorem ZmT {b:Bool} {Q:Value→Shared→Prop} (I:Inv X pins σ H s) (e:H a=some (.ins C dx fs)) (c:Cls X.K C) (n:NoAttr X.K C f) (l:fs.lookup f=some v)
    (h:∀u s',Inv X pins σ H s'→RelV v u→Q u s'):wpAny (model X.prog X.w) A (getAttr (.ref a) f b) Q E s:=by
  obtain ⟨mA,O,r,_,_,_⟩:=ZjO I.hok e
  obtain ⟨u,hu,ru⟩:=RelO.some_of (v:=v) (o:=mA f) (by rw [←l]; exact r f)
  exact Zs8 I.kIn O (c.get f) c.hd n hu (Zov ru) (h u _ (I.tok _) ru)
theorem ZmB {y:V} {u:Value} {Q:Unit→Shared→Prop} (I:Inv X pins σ H s) (e:H a=some (.ins C dx fs)) (c:Cls X.K C) (n:NoAttr X.K C f) (hl:fs.length<1000) (ry:RelV y u)
    (h:∀s',Inv X pins σ (upd H a (.ins C dx (ZdR f y fs))) s'→Q () s'):wpAny (model X.prog X.w) A (setAttr (.ref a) f u) Q E s:=by
  obtain ⟨mA,O,r,wi,_,ho⟩:=ZjO I.hok e
  have hz:(fs.map (·.1)).length≤sizeLine:=by rw [List.length_map,sizeLine_eq]; omega
  refine Zsr I.kIn O c.sa c.po n.taker c.hd wi hz fun h' O' sb=>h _ ?_
  have hd:∃o,h'.get? dx=some o:=let ⟨o,_,_,e',_⟩:=O'.ns; ⟨o,e'⟩
  refine I.write (x:=a) (e:=dx) (by rw [e]; exact True.intro) (.inr ho) (fun b q hb z=>(sb.2 b hb).trans z) hd ?_
  refine ⟨by rw [ZS O.ne]; exact ho,?_,O.ne,O'.obj,_,O'.ns,fun g=>?_,fun g hg=>?_⟩
  · have:=Zg2 f y fs; omega
  · show RelO ((ZdR f y fs).lookup g) (if g=f then some u else mA g)
    rw [Zg0]
    by_cases q:g=f
    · rw [if_pos q,if_pos q]; exact ry
    · rw [if_neg q,if_neg q]; exact r g
  · by_cases q:g=f
    · rw [q]; exact (ZgM f y fs).1
    · refine (ZgM f y fs).2 g (wi g fun z=>hg ?_)
      show (if g=f then some u else mA g)=none
      rw [if_neg q]; exact z
theorem Inv.made (I:Inv X pins σ H s):Inv X pins σ (upd (upd H s.heap.objs.size (.own (s.heap.objs.size+1))) (s.heap.objs.size+1) (.ins C s.heap.objs.size []))
    { s with heap:=(s.heap.push PySem.W.emptyDict).push (PySem.W.instObj C s.heap.objs.size) }:=by
  have e1:(s.heap.push PySem.W.emptyDict).get? s.heap.objs.size=some PySem.W.emptyDict:=Heap.get?_push_size s.heap rfl
  have e2:((s.heap.push PySem.W.emptyDict).push (PySem.W.instObj C s.heap.objs.size)).get? (s.heap.objs.size+1)=some (PySem.W.instObj C s.heap.objs.size):=by
    have:=Heap.get?_push_size (s.heap.push PySem.W.emptyDict) (o:=PySem.W.instObj C s.heap.objs.size) rfl
    rwa [Heap.size_push] at this
  have e3:(s.heap.push PySem.W.emptyDict).Ns s.heap.objs.size (fun _=>none):=⟨PySem.W.emptyDict,#[],_,e1,rfl,(fun e he=>absurd he (by simp)),fun _=>rfl⟩
  have I1:=I.laid (a:=s.heap.objs.size) (o:=.own (s.heap.objs.size+1)) (h':=s.heap.push PySem.W.emptyDict) (t':=s.toks) (fun b u q=>Heap.get?_push_of_some _ q) (Nat.le_refl _) ⟨_,e1⟩
  refine I1.laid (a:=s.heap.objs.size+1) (o:=.ins C s.heap.objs.size []) (t':=s.toks) (fun b u q=>Heap.get?_push_of_some _ q) (Nat.le_of_eq (Heap.size_push _ _)) ?_
  have ne:s.heap.objs.size≠s.heap.objs.size+1:=Nat.ne_of_lt (Nat.lt_succ_self _)
  refine ⟨by rw [ZS ne,zi],Nat.zero_le _,ne,e2,fun _=>none,(Heap.Ns1.of_empty e3).at fun o q=>Heap.get?_push_of_some _ q,fun _=>True.intro,fun y hy=>absurd rfl hy⟩
theorem Ztn {prog:Program} {w:World} {env:Env} {e:Expr} {f:Str} {pos:Pos} {s:Shared} {Q:Value→Shared→Prop} (hb:attributeBase e f env (eval e env)=eval e env)
    (h:wpAny (model prog w) A (eval e env) (fun o s₁=>wpAny (model prog w) A (getAttr o f true) Q E s₁) E s):wpAny (model prog w) A (eval (.Attribute e f pos) env) Q E s:=
  Attribute_any_ h (by rw [arm_eval_Attribute,hb])
end
def ZAu (K:PySem.W.Frag) (ta:TE) (f:Str):TE:=fun σ H Q=>ta σ H fun x H1=>∃a C dx fs v,x=.ref a∧H1 a=some (.ins C dx fs)∧Cls K C∧NoAttr K C f∧fs.lookup f=some v∧Q v H1
def ZAB (K:PySem.W.Frag) (ta tv:TE) (f:Str):TS:=fun D σ H=>tv σ H fun y H1=>ta σ H1 fun x H2=>∃a C dx fs,x=.ref a∧H2 a=some (.ins C dx fs)∧Cls K C∧NoAttr K C f∧fs.length<1000∧
  D.nx σ (upd H2 a (.ins C dx (ZdR f y fs)))
section
variable {X:Cx} {o e value:Expr} {f:Str} {pos pos' tpos:Pos} {ta tv:TE}
theorem ZuU (he:PE X e ta) (hb:attributeBase e f X.env (eval e X.env)=eval e X.env):PE X (.Attribute e f pos) (ZAu X.K ta f):=by
  intro pins s σ H Q I h
  refine Ztn hb (thn (he pins s σ H _ I h) fun u s1 ⟨x,H1,I1,rx,a,C,dx,fs,v,ex,ea,c,n,l,q⟩=>?_)
  subst ex
  obtain rfl:u=Value.ref a:=rx
  exact ZmT I1 ea c n l fun u' s2 I2 ru=>⟨v,H1,I2,ru,q⟩
theorem ZuL (ha:PE X o ta) (hv:PE X value tv) (hs:swapsWith value (some (.Attribute o f pos')) pos.line X.env=pure false):PS X (.Assign [.Attribute o f pos'] value pos) (ZAB X.K ta tv f):=by
  intro pins s σ H D I h
  refine plainObj_wpAny_Assign_Attribute (thn (hv pins s σ H _ I h) fun u s1 ⟨y,H1,I1,ry,q⟩=>thn (ha pins s1 σ H1 _ I1 q) fun ov s2 ⟨x,H2,I2,rx,a,C,dx,fs,ex,ea,c,n,l,q2⟩=>?_) hs
  subst ex
  obtain rfl:ov=Value.ref a:=rx
  exact ZmB I2 ea c n l ry fun s3 I3=>⟨σ,_,I3,q2⟩
end
section
variable {X:Cx} {pins:List (Addr×Obj)} {σ:St} {H:Hp} {s:Shared} {A:Around} {E:Value→Shared→Prop} {Q:Value→Shared→Prop} {c:Value} {b:Bool}
inductive Zgu (K:PySem.W.Frag) (H:Hp):V→Value→Prop where
  | non:Zgu K H .non (.type "NoneType")
  | bl (x:Bool):Zgu K H (.bl x) (.type "bool")
  | int (i:Int):Zgu K H (.int i) (.type "int")
  | str (x:Str):Zgu K H (.str x) (.type "str")
  | flt (x:UInt64):Zgu K H (.flt x) (.type "float")
  | lst {a:Addr} {xs:List V} (e:H a=some (.lst xs)):Zgu K H (.ref a) (.type "list")
  | frz {a:Addr} {o:Obj} {xs:List V} (e:H a=some (.frz o (.lst xs))):Zgu K H (.ref a) (.type "list")
  | tup {a:Addr} {xs:List V} (e:H a=some (.tup xs)):Zgu K H (.ref a) (.type "tuple")
  | dK {a:Addr} {kvs:List (Key×V)} (e:H a=some (.dK kvs)):Zgu K H (.ref a) (.type "dict")
  | dT {a:Addr} {kvs:List (List Key×V)} (e:H a=some (.dT kvs)):Zgu K H (.ref a) (.type "dict")
  | ins {a C dx:Addr} {fs:List (Str×V)} (e:H a=some (.ins C dx fs)) (cl:Cls K C) (ha:PySem.W.findIn K (.ref C) "__class__"=some (some (.builtin "object.__class__")))
      (hn:PySem.W.specialIn K (.builtin "object.__class__") "__get__"=some (some (.builtin "getset_descriptor.__get__"))) (htk:PySem.W.takesIn K (.builtin "object.__class__")=some true)
      (hm:PySem.W.mroIn K C (.type "object")=some true):Zgu K H (.ref a) (.ref C)
theorem Zoq {x:V} {u t:Value} (I:Inv X pins σ H s) (rx:RelV x u) (ty:Zgu X.K H x t) (e:PySem.W.kitOne X.K t c=some b) (h:∀tk,Q (.bool b) { s with toks:=tk }) :
    wpAny (model X.prog X.w) A (call (.builtin "isinstance") [u,c]) Q E s:=by
  cases ty with
  | non=>cases (show u=Value.none from rx); exact PySem.W.kia_one PySem.W.kitx_none I.kIn True.intro e (fun z=>nomatch z) h
  | bl y=>cases (show u=Value.bool y from rx); exact PySem.W.kia_one PySem.W.kitx_bool I.kIn True.intro e (fun z=>nomatch z) h
  | int i=>obtain ⟨t,q⟩:=(show ∃t,u=Value.int i t from rx); cases q; exact PySem.W.kia_one PySem.W.kitx_int I.kIn True.intro e (fun z=>nomatch z) h
  | str y=>obtain ⟨t,q⟩:=(show ∃t,u=Value.str y t from rx); cases q; exact PySem.W.kia_one PySem.W.kitx_str I.kIn True.intro e (fun z=>nomatch z) h
  | flt y=>obtain ⟨t,q⟩:=(show ∃t,u=Value.float y t from rx); cases q; exact PySem.W.kia_one PySem.W.kitx_float I.kIn True.intro e (fun z=>nomatch z) h
  | @lst a xs ea=>
    cases (show u=Value.ref a from rx)
    obtain ⟨_,_,n,_,h1⟩:=(show ObjOk X.prog X.w H s.heap a (.lst xs) from I.hok a _ ea)
    exact PySem.W.kia_one PySem.W.kitx_list I.kIn ⟨_,h1,rfl⟩ e (fun z=>nomatch z) h
  | @frz a ob xs ea=>
    cases (show u=Value.ref a from rx)
    obtain ⟨_,_,_,n,_,h1⟩:=(show ObjOk X.prog X.w H s.heap a (.frz ob (.lst xs)) from I.hok a _ ea)
    exact PySem.W.kia_one PySem.W.kitx_list I.kIn ⟨_,h1,rfl⟩ e (fun z=>nomatch z) h
  | @tup a xs ea=>
    cases (show u=Value.ref a from rx)
    obtain ⟨_,_,_,p⟩:=(show ObjOk X.prog X.w H s.heap a (.tup xs) from I.hok a _ ea)
    obtain ⟨o,h1,h2,_⟩:=p
    exact PySem.W.kia_one PySem.W.kitx_tuple I.kIn ⟨o,h1,h2⟩ e (fun z=>nomatch z) h
  | @dK a kvs ea=>
    cases (show u=Value.ref a from rx)
    obtain ⟨_,_,vs,_,p⟩:=(show ObjOk X.prog X.w H s.heap a (.dK kvs) from I.hok a _ ea)
    obtain ⟨o,es,ep,h1,h2,_⟩:=p
    exact PySem.W.kia_one PySem.W.kitx_dict I.kIn ⟨o,h1,h2.1⟩ e (fun z=>nomatch z) h
  | @dT a kvs ea=>
    cases (show u=Value.ref a from rx)
    obtain ⟨_,_,xs,_,o,es,ep,h1,h2,_⟩:=(show ObjOk X.prog X.w H s.heap a (.dT kvs) from I.hok a _ ea)
    exact PySem.W.kia_one PySem.W.kitx_dict I.kIn ⟨o,h1,h2.1⟩ e (fun z=>nomatch z) h
  | @ins a C dx fs ea cl ha hn htk hm=>
    cases (show u=Value.ref a from rx)
    obtain ⟨mA,O,_⟩:=ZjO I.hok ea
    obtain ⟨od,J,_⟩:=O.look
    exact PySem.W.kia_one (PySem.W.kitx_own (cl.get _) cl.hd ha hn htk hm) I.kIn J e (fun z=>nomatch z) h
end
end L2
namespace L2
open PySem PySem.Spec PyProof.Rows
structure Room (k:Nat) (A:Around):Prop where
  hd:A.handled=none
  dp:A.depth+3*k+5<recursionLimit
  un:A.units+16*k+200<cLine
theorem Room.mono {j k:Nat} {A:Around} (r:Room k A) (h:j≤k):Room j A:=⟨r.hd,by have:=r.dp; omega,by have:=r.un; omega⟩
theorem Room.deeper {k:Nat} {A:Around} (r:Room (k+1) A) (env:Env):Room k (A.deeper env):=
  ⟨r.hd,by have:=r.dp; show A.depth+1+3*k+5<_; omega,by have:=r.un; show A.units+3+16*k+200<_; omega⟩
theorem ZmN {A:Around} {C:Addr} {us:List Value} {kw:List (Str×Value)}:(A.under (.builtin "type.__call__" ⟨.ref C::us,kw⟩)).depth=A.depth+1:=by
  first | rfl | simp [Around.under,Code.weight,Code.isCreation,Code.isGuard,Code.isCaller,Code.frames,Code.isFrame,guardIds]
theorem ZmM {A:Around} {C:Addr} {us:List Value} {kw:List (Str×Value)}:(A.under (.builtin "type.__call__" ⟨.ref C::us,kw⟩)).units=A.units+1:=by
  first | rfl | simp [Around.under,Code.cUnits,Code.frames,Code.isFrame]
theorem Room.make {k:Nat} {A:Around} (r:Room (k+1) A) (C:Addr) (us:List Value) (kw:List (Str×Value)):Room k (A.under (.builtin "type.__call__" ⟨.ref C::us,kw⟩)):=
  ⟨r.hd,by have:=r.dp; rw [ZmN]; omega,by have:=r.un; rw [ZmM]; omega⟩
theorem Room.depth {k:Nat} {A:Around} (r:Room k A):A.depth<recursionLimit:=by have:=r.dp; omega
theorem Room.units {k:Nat} {A:Around} (r:Room k A):A.units+64<cLine:=by have:=r.un; omega
def Zut:TA:=fun _ H Q=>Q [] H
def ZtI (ta:TE) (tr:TA):TA:=fun σ H Q=>ta σ H fun x H1=>tr σ H1 fun xs H2=>Q (x::xs) H2
section
variable {X:Cx} {e:Expr} {es:List Expr} {te:TE} {t:TA} {pos:Pos}
theorem ZmI:PA X [] Zut:=fun _ _ _ _ H Q I h=>Calls.spliced_nil ⟨[],H,I,.nil,h⟩
theorem ZjF (ha:PE X e te) (hr:PA X es t) (hs:starEach (e::es) X.env=(false,eval e X.env)::starEach es X.env:=by rfl):PA X (e::es) (ZtI te t):=by
  intro pos pins s σ H Q I h
  rw [hs]
  show wpAny _ _ (spliced ((false,eval e X.env)::backTo pos (starEach es X.env))) _ _ s
  refine Calls.spliced_cons (thn (ha pins s σ H _ I h) fun u s1 ⟨x,H1,I1,r1,q1⟩=>?_)
  exact thn (hr pos pins s1 σ H1 _ I1 q1) fun us s2 ⟨xs,H2,I2,r2,q2⟩=>⟨x::xs,H2,I2,.cons r1 r2,q2⟩
def ZAl (t:TA):TE:=fun σ H Q=>t σ H fun xs H1=>xs.length≤sizeLine∧∀p,H1 p=none→Q (.ref p) (upd H1 p (.tup xs))
def ZAr (t:TA):TE:=fun σ H Q=>t σ H fun xs H1=>xs.length≤sizeLine∧∀p,H1 p=none→Q (.ref p) (upd H1 p (.lst xs))
theorem ZuQ {x1} (h:PA X es t):PE X (.Tuple es x1 pos) (ZAl t):=by
  intro pins s σ H Q I hq
  refine wpAny_Tuple_spliced (thn (h pos pins s σ H _ I hq) fun us s1 ⟨xs,H1,I1,r,z,q⟩=>⟨by rw [←r.length]; exact z,?_⟩)
  have hf:H1 s1.heap.objs.size=none:=I1.hok.fresh (Nat.le_refl _)
  refine ⟨.ref s1.heap.objs.size,upd H1 s1.heap.objs.size (.tup xs),I1.laid (t':=s1.toks) (fun b u e=>Heap.get?_push_of_some _ e) (Nat.le_refl _) ?_,rfl,q _ hf⟩
  exact ⟨z,us,r,⟨_,Heap.get?_push_size _ rfl,rfl,_,rfl⟩⟩
theorem ZqO (h:PA X es t):PE X (.List es pos) (ZAr t):=by
  intro pins s σ H Q I hq
  refine wpAny_List_spliced (thn (h pos pins s σ H _ I hq) fun us s1 ⟨xs,H1,I1,r,z,q⟩=>⟨by rw [←r.length]; exact z,?_⟩)
  have hf:H1 s1.heap.objs.size=none:=I1.hok.fresh (Nat.le_refl _)
  refine ⟨.ref s1.heap.objs.size,upd H1 s1.heap.objs.size (.lst xs),I1.laid (t':=s1.toks) (fun b u e=>Heap.get?_push_of_some _ e) (Nat.le_refl _) ?_,rfl,q _ hf⟩
  exact ⟨z,us,0,r,Heap.get?_push_size _ rfl⟩
end
abbrev Sp:=List V→Hp→VK→XK→Prop
abbrev CXT:=List Env→Hp→Shared→XK→Value→Shared→Prop
structure Env0 (P:Program) (w:World) (K:PySem.W.Frag) (mg:Str→Option Value) (base:Heap) (A:Around) (outer:List Env) (s:Shared) (H:Hp):Prop where
  frames:A.frames=some outer
  mod:Mod K mg base
  bs:∀b o,base.get? b=some o→s.heap.get? b=some o∧H b=none
  bsz:base.objs.size≤s.heap.objs.size
  funs:s.heap.FunFrames base outer
  frf:∀b∈frs outer,H b=none
  hok:HOk P w H s.heap
  bare:AllBare s.gens
def CE (outer:List Env) (P:Program) (w:World) (H:Hp) (s:Shared) (Q:VK) (u:Value) (s':Shared):Prop:=
  ∃v H',s'.os=s.os∧AllBare s'.gens∧Un (frs outer) [] H H' s.heap s'.heap∧HOk P w H' s'.heap∧RelV v u∧Q v H'
def CR (CX:CXT) (outer:List Env) (P:Program) (w:World) (H:Hp) (s:Shared) (Q:VK) (E:XK) (r:Result) (s':Shared):Prop:=
  match r with
  | .ok (.ret u)=>CE outer P w H s Q u s'
  | .ok _=>False
  | .error e=>CX outer H s E e s'
structure FnOk (P:Program) (w:World) (K:PySem.W.Frag) (mg:Str→Option Value) (base:Heap) (CX:CXT) (k:Nat) (f:Addr) (fd:FuncData) (ps:List Str) (sp:Sp):Prop where
  len:∀vs H Q E,sp vs H Q E→vs.length=ps.length
  run:∀(A:Around) (outer:List Env) (s:Shared) (H:Hp) (args:Args) (us:List Value) (vs:List V) (Q:VK) (E:XK),Room k A→Env0 P w K mg base A outer s H→BindsTo s fd args (ps.zip us)→Vals vs us→sp vs H Q E→
    codeAny (model P w) A (.call (.ref f) args) (CR CX outer P w H s Q E) s
theorem FnOk.imp {P:Program} {w:World} {K:PySem.W.Frag} {mg:Str→Option Value} {base:Heap} {CX:CXT} {k:Nat} {f:Addr} {fd:FuncData} {ps:List Str} {sp sp':Sp} (F:FnOk P w K mg base CX k f fd ps sp)
    (h:∀vs H Q E,sp' vs H Q E→sp vs H Q E):FnOk P w K mg base CX k f fd ps sp':=
  ⟨fun vs H Q E q=>F.len vs H Q E (h _ _ _ _ q),fun A outer s H args us vs Q E hr he hb hv hs=>F.run A outer s H args us vs Q E hr he hb hv (h _ _ _ _ hs)⟩
theorem Env0.make {P:Program} {w:World} {K:PySem.W.Frag} {mg:Str→Option Value} {base:Heap} {A:Around} {outer:List Env} {s:Shared} {H:Hp} (e:Env0 P w K mg base A outer s H) (C:Addr) (us:List Value) (kw:List (Str×Value)) :
    Env0 P w K mg base (A.under (.builtin "type.__call__" ⟨.ref C::us,kw⟩)) outer s H:=⟨by first | exact e.frames | (simpa [Around.under,Code.envs,Code.isFrame,pushEnvs] using e.frames),e.mod,e.bs,e.bsz,e.funs,e.frf,e.hok,e.bare⟩
section
variable {X:Cx} {pins:List (Addr×Obj)} {σ:St} {H:Hp} {s s':Shared}
theorem Inv.env0 (I:Inv X pins σ H s):Env0 X.prog X.w X.K X.mg X.base X.A X.stack s H:=
  ⟨I.ok.frames,I.ok.mod,I.bs,Nat.le_trans I.ok.bsz I.sz,I.stack,I.stkFree,I.hok,I.bare⟩
theorem Inv.after {Q:VK} {u:Value} (I:Inv X pins σ H s) (h:CE X.stack X.prog X.w H s Q u s'):EP X pins σ Q u s':=by
  obtain ⟨v,H',os,bare,un,hok,r,q⟩:=h
  obtain ⟨hh,g,d,t,os'⟩:=s'
  obtain rfl:os'=s.os:=os
  exact ⟨v,H',I.call (h':=hh) (g':=g) (d':=d) (t':=t) (ch:=[]) un hok bare (fun b z=>absurd z (by simp)),r,q⟩
end
def ZtJ (sp:Sp) (dvs:List V) (E:XK) (t:TA):TE:=fun σ H Q=>t σ H fun vs H1=>sp (vs++dvs) H1 Q E
def ZtG (C:Addr) (sp:Sp) (dvs:List V) (E:XK) (t:TA):TE:=fun σ H Q=>t σ H fun vs H1=>∀x dx,H1 x=none→H1 dx=none→dx≠x→
  sp (.ref x::(vs++dvs)) (upd (upd H1 dx (.own x)) x (.ins C dx [])) (fun v H2=>v=.non∧Q (.ref x) H2) E
def Binds (K:PySem.W.Frag) (fd:FuncData) (ps:List Str) (ds:List Value):Prop:=
  ∀(s:Shared) (us:List Value),K.In s.heap→(us++ds).length=ps.length→BindsTo s fd ⟨us,[]⟩ (ps.zip (us++ds))
theorem Binds.all {K:PySem.W.Frag} {fd:FuncData} {ps:List Str} (h:∀us:List Value,us.length=ps.length→bindArgs fd ⟨us,[]⟩=pure (ps.zip us)):Binds K fd ps []:=fun s us _ hl=>by
  rw [List.append_nil] at hl ⊢
  exact .of_eq (h us hl)
def ZgV (CX:CXT) (X:Cx) (E:XK):Prop:=∀(pins:List (Addr×Obj)) (σ:St) (H:Hp) (s:Shared) (e:Value) (s':Shared),Inv X pins σ H s→CX X.stack H s E e s'→X.xe e s'
section
variable {X:Cx} {CX:CXT} {k:Nat} {f C:Addr} {fd:FuncData} {ps:List Str} {sp:Sp} {dvs:List V} {ds:List Value} {E:XK} {x m:Str} {p pos apos:Pos} {e o:Expr} {es:List Expr} {ta:TE} {t:TA}
theorem ZuC {pins:List (Addr×Obj)} {σ:St} {H:Hp} {s:Shared} {Q:VK} {us:List Value} {vs:List V} (F:FnOk X.prog X.w X.K X.mg X.base CX k f fd ps sp) (hr:Room k X.A) (hb:Binds X.K fd ps ds) (hd:Vals dvs ds) (hx:ZgV CX X E)
    (I:Inv X pins σ H s) (r:Vals vs us) (h:sp (vs++dvs) H Q E):wpAny (model X.prog X.w) X.A (call (.ref f) us) (EP X pins σ Q) X.xe s:=by
  have r2:Vals (vs++dvs) (us++ds):=r.append hd
  have hl:(us++ds).length=ps.length:=by rw [←r2.length]; exact F.len _ _ _ _ h
  refine wpAny_call (codeAny_mono (F.run X.A X.stack s H ⟨us,[]⟩ (us++ds) (vs++dvs) Q E hr I.env0 (hb s us I.kIn hl) r2 h) fun r s' hq=>?_)
  cases r with
  | error e=>exact hx pins σ H s e s' I hq
  | ok fl=>
    cases fl with
    | ret u=>exact I.after hq
    | next=>exact False.elim hq
    | brk=>exact False.elim hq
    | cont=>exact False.elim hq
theorem ZsN (F:FnOk X.prog X.w X.K X.mg X.base CX k f fd ps sp) (hr:Room k X.A) (hg:Gl X x) (hm:X.mg x=some (.ref f)) (hk:PySem.W.keepIn X.K (.ref f)=true) (hb:Binds X.K fd ps ds) (hd:Vals dvs ds) (hx:ZgV CX X E)
    (ha:PA X (e::es) t) (hdb:(x == ("__debug__":Str))=false:=by decide) (he:starEach (e::es) X.env=(false,eval e X.env)::starEach es X.env:=by rfl) (hpl:(backTo pos (starEach es X.env)).any (·.1)=false:=by rfl) :
    PE X (.Call (.Name x p) (e::es) [] pos) (ZtJ sp dvs E t):=by
  intro pins s σ H Q I h
  refine wpAny_Call_Name_kw (Zhz I hg hm ?_ hdb)
  refine PySem.W.callWith_K (h₀:=X.base) I.ok.mod.kin hk (thn (ha pos pins s σ H _ I h) fun us s1 ⟨vs,H1,I1,r,q⟩=>⟨I1.kIn,?_⟩) he hpl
  exact ZuC F hr hb hd hx I1 r q
structure Mk (K:PySem.W.Frag) (C f:Addr):Prop where
  makes:PySem.W.makesIn K C=true
  init:PySem.W.findIn K (.ref C) "__init__"=some (some (.ref f))
  fn:PySem.W.isFn K (.ref f)=true
  kp:PySem.W.keepIn K (.ref C)=true
theorem ZlG {pins:List (Addr×Obj)} {σ:St} {H:Hp} {s:Shared} {Q:VK} {us:List Value} {vs:List V} (M:Mk X.K C f) (F:FnOk X.prog X.w X.K X.mg X.base CX k f fd ps sp) (hr:Room (k+1) X.A) (hb:Binds X.K fd ps ds) (hd:Vals dvs ds)
    (hx:ZgV CX X E) (I:Inv X pins σ H s) (r:Vals vs us)
    (h:∀x dx,H x=none→H dx=none→dx≠x→sp (.ref x::(vs++dvs)) (upd (upd H dx (.own x)) x (.ins C dx [])) (fun v H2=>v=.non∧Q (.ref x) H2) E) :
    wpAny (model X.prog X.w) X.A (call (.ref C) us) (EP X pins σ Q) X.xe s:=by
  have hq:=h (s.heap.objs.size+1) s.heap.objs.size (I.hok.fresh (Nat.le_succ _)) (I.hok.fresh (Nat.le_refl _)) (Nat.ne_of_lt (Nat.lt_succ_self _))
  have I2:=Inv.made (C:=C) I
  have r2:Vals (V.ref (s.heap.objs.size+1)::(vs++dvs)) (Value.ref (s.heap.objs.size+1)::(us++ds)):=.cons rfl (r.append hd)
  have hl:(Value.ref (s.heap.objs.size+1)::us++ds).length=ps.length:=by
    have e:=r2.length
    rw [F.len _ _ _ _ hq] at e
    exact e.symm
  refine wpAny_call (Zrh (f:=f) I.kIn M.makes M.init (beq_iff_eq.mp M.fn) (codeAny_mono (F.run _ X.stack _ _ ⟨Value.ref (s.heap.objs.size+1)::us,[]⟩ (Value.ref (s.heap.objs.size+1)::(us++ds)) _ _ E (hr.make C us [])
    (I2.env0.make C us []) (hb _ (Value.ref (s.heap.objs.size+1)::us) I2.kIn hl) r2 hq) fun r s' hq'=>?_))
  cases r with
  | error e=>exact hx pins σ _ _ e s' I2 hq'
  | ok fl=>
    cases fl with
    | ret u=>
      obtain ⟨v,H',I3,rv,ev,q3⟩:=I2.after hq'
      subst ev
      exact ⟨rv,⟨V.ref (s.heap.objs.size+1),H',I3,rfl,q3⟩⟩
    | next=>exact False.elim hq'
    | brk=>exact False.elim hq'
    | cont=>exact False.elim hq'
theorem ZsJ (M:Mk X.K C f) (F:FnOk X.prog X.w X.K X.mg X.base CX k f fd ps sp) (hr:Room (k+1) X.A) (hg:Gl X x) (hm:X.mg x=some (.ref C)) (hb:Binds X.K fd ps ds) (hd:Vals dvs ds) (hx:ZgV CX X E)
    (ha:PA X (e::es) t) (hdb:(x == ("__debug__":Str))=false:=by decide) (he:starEach (e::es) X.env=(false,eval e X.env)::starEach es X.env:=by rfl) (hpl:(backTo pos (starEach es X.env)).any (·.1)=false:=by rfl) :
    PE X (.Call (.Name x p) (e::es) [] pos) (ZtG C sp dvs E t):=by
  intro pins s σ H Q I h
  refine wpAny_Call_Name_kw (Zhz I hg hm ?_ hdb)
  refine PySem.W.callWith_K (h₀:=X.base) I.ok.mod.kin M.kp (thn (ha pos pins s σ H _ I h) fun us s1 ⟨vs,H1,I1,r,q⟩=>⟨I1.kIn,?_⟩) he hpl
  exact ZlG M F hr hb hd hx I1 r q
theorem ZqN (M:Mk X.K C f) (F:FnOk X.prog X.w X.K X.mg X.base CX k f fd ps sp) (hr:Room (k+1) X.A) (hg:Gl X x) (hm:X.mg x=some (.ref C)) (hb:Binds X.K fd ps ds) (hd:Vals dvs ds) (hx:ZgV CX X E)
    (hdb:(x == ("__debug__":Str))=false:=by decide):PE X (.Call (.Name x p) [] [] pos) (ZtG C sp dvs E Zut):=by
  intro pins s σ H Q I h
  refine wpAny_Call_Name_kw (Zhz I hg hm ?_ hdb)
  exact PySem.W.callWith_K0 I.kIn M.kp (ZlG (us:=[]) M F hr hb hd hx I .nil h)
end
section
variable {X:Cx} {CX:CXT} {k:Nat} {f C:Addr} {fd:FuncData} {ps ks:List Str} {sp:Sp} {E:XK} {x m:Str} {p pos apos kpos:Pos} {e o:Expr} {es:List Expr} {kws:List Keyword} {te ta:TE} {t tk:TA} {nm:Option Str}
structure ZBg (K:PySem.W.Frag) (fd:FuncData) (ps ks:List Str) (g:List Value→List Value→List Value) (gV:List V→List V→List V):Prop where
  to:∀(s:Shared) (us ws:List Value),K.In s.heap→(g us ws).length=ps.length→BindsTo s fd ⟨us,ks.zip ws⟩ (ps.zip (g us ws))
  rel:∀{vs:List V} {us:List Value} {zs:List V} {ws:List Value},Vals vs us→Vals zs ws→Vals (gV vs zs) (g us ws)
variable {g:List Value→List Value→List Value} {gV:List V→List V→List V}
end
structure Zq (N P:List Str) (sc:Scope):Prop where
  kind:sc.kind=.function
  co:sc.isCoroutine=false
  gen:sc.isGenerator=false
  nd:N.Nodup
  pre:N.take P.length=P
  par:∀x∈P,sc.names.lookup x=some .local∨sc.names.lookup x=some .cell
  nofree:∀y∈sc.names,y.2≠.free
theorem Zjf {kindOf:Str→Option NameKind} {x:Str}:∀{binds:List (Str×Value)} {m:Str→Option Value},(∀v,(x,v)∉binds)→bindL kindOf binds m x=m x
  | [],_,_=>rfl
  | (n,v)::r,m,h=>by
    unfold bindL
    rw [Zjf fun w hw=>h w (List.mem_cons_of_mem _ hw)]
    split
    · have:x≠n:=by rintro rfl; exact h v List.mem_cons_self
      simp [this]
    · rfl
theorem Zjh {kindOf:Str→Option NameKind} {x:Str}:∀{binds:List (Str×Value)} {m:Str→Option Value},(∀v,(x,v)∉binds)→bindC kindOf binds m x=m x
  | [],_,_=>rfl
  | (n,v)::r,m,h=>by
    unfold bindC
    rw [Zjh fun w hw=>h w (List.mem_cons_of_mem _ hw)]
    split
    · rfl
    · have:x≠n:=by rintro rfl; exact h v List.mem_cons_self
      simp [this]
theorem Zjg {kindOf:Str→Option NameKind} {x:Str} {v:Value}:∀{P:List Str} {vs:List Value} {i:Nat} {m:Str→Option Value},P.Nodup→P[i]?=some x→vs[i]?=some v→kindOf x=some .local→
    bindL kindOf (P.zip vs) m x=some v
  | [],_,_,_,_,h,_,_=>by simp at h
  | _::_,[],_,_,_,_,h,_=>by simp at h
  | p::P,w::vs,0,m,nd,h1,h2,hk=>by
    simp at h1 h2; subst h1; subst h2
    show bindL kindOf ((p,w)::P.zip vs) m p=_
    unfold bindL
    rw [Zjf fun v hv=>(List.nodup_cons.mp nd).1 (List.of_mem_zip hv).1,if_pos hk]
    simp
  | p::P,w::vs,i+1,m,nd,h1,h2,hk=>by
    show bindL kindOf ((p,w)::P.zip vs) m x=_
    unfold bindL
    exact Zjg (i:=i) (List.nodup_cons.mp nd).2 (by simpa using h1) (by simpa using h2) hk
theorem Zji {kindOf:Str→Option NameKind} {x:Str} {v:Value}:∀{P:List Str} {vs:List Value} {i:Nat} {m:Str→Option Value},P.Nodup→P[i]?=some x→vs[i]?=some v→kindOf x≠some .local→
    bindC kindOf (P.zip vs) m x=some v
  | [],_,_,_,_,h,_,_=>by simp at h
  | _::_,[],_,_,_,_,h,_=>by simp at h
  | p::P,w::vs,0,m,nd,h1,h2,hk=>by
    simp at h1 h2; subst h1; subst h2
    show bindC kindOf ((p,w)::P.zip vs) m p=_
    unfold bindC
    rw [Zjh fun v hv=>(List.nodup_cons.mp nd).1 (List.of_mem_zip hv).1,if_neg hk]
    simp
  | p::P,w::vs,i+1,m,nd,h1,h2,hk=>by
    show bindC kindOf ((p,w)::P.zip vs) m x=_
    unfold bindC
    exact Zji (i:=i) (List.nodup_cons.mp nd).2 (by simpa using h1) (by simpa using h2) hk
def start (N:List Str) (vs:List V):St:=vs.map some++List.replicate (N.length-vs.length) none
def Zig (CX:CXT) (P:Program) (w:World) (K:PySem.W.Frag) (mg:Str→Option Value) (base:Heap) (N:List Str) (qual:Str) (scope:Scope) (f:Addr) (cd:Value) (A:Around) (outer:List Env) (s:Shared) (H:Hp) (E:XK):Cx where
  prog:=P
  w:=w
  K:=K
  mg:=mg
  base:=base
  A:=A.deeper (envOfC qual scope s.heap.objs.size f cd)
  N:=N
  s₀:=s
  H₀:=H
  env:=envOfC qual scope s.heap.objs.size f cd
  outer:=outer
  stack:=envOfC qual scope s.heap.objs.size f cd::outer
  ex:=[]
  calm:=true
  fn:=fun _=>true
  pn:=[]
  xe:=fun e s'=>wpAny (model P w) (A.deeper (envOfC qual scope s.heap.objs.size f cd)) (leaving (envOfC qual scope s.heap.objs.size f cd) e) (fun _ s''=>CX outer H s E e s'') (fun e' s''=>CX outer H s E e' s'') s'
theorem Zmi {sc:Scope} {n:Nat} {x:Str} (h:sc.names.lookup x=some .cell):∃c,(cellsFrom n sc.names []).lookup x=some c:=by
  have q:=PySem.W.cellsFrom_some sc.names n [] (.inl h)
  exact Option.isSome_iff_exists.mp q
theorem Zor {CX:CXT} {P:Program} {w:World} {K:PySem.W.Frag} {mg:Str→Option Value} {base:Heap} {N ps:List Str} {qual:Str} {scope:Scope} {f:Addr} {cd:Value} {A:Around} {outer:List Env} {s s1:Shared} {H:Hp} {E:XK} {us:List Value} {vs:List V}
    (S:Zq N ps scope) (hd:A.handled=none) (e0:Env0 P w K mg base A outer s H) (hl:vs.length=ps.length) (r:Vals vs us)
    (x:InCallC s s.heap.objs.size (bindL (envOfC qual scope s.heap.objs.size f cd).kindOf (ps.zip us) fun _=>none) (cellsFrom (s.heap.objs.size+1) scope.names []) (bindC (envOfC qual scope s.heap.objs.size f cd).kindOf (ps.zip us) fun _=>none) s1) :
    Inv (Zig CX P w K mg base N qual scope f cd A outer s H E) [] (start N vs) H s1:=by
  have hpl:ps.length≤N.length:=by have:=congrArg List.length S.pre; rw [List.length_take] at this; omega
  obtain ⟨h1,tk,rfl,hk⟩:=x.done
  have noA:∀b:Addr,b∉(Zig CX P w K mg base N qual scope f cd A outer s H E).ex:=fun b z=>absurd (show b∈([]:List Addr) from z) (by simp)
  refine ⟨⟨e0.mod,S.kind,rfl,rfl,Nat.le_refl _,fun y z c h1 h2=>?_,fun y hy=>?_,fun y c _ h=>?_,fun _=>hd,Around.frames_deeper e0.frames,.inr ⟨rfl,rfl⟩,fun b z=>absurd z (noA b),e0.bs,e0.bsz,fun b _ _=>noA b,fun b z=>absurd z (noA b),e0.funs,e0.frf⟩,
    rfl,e0.bare,Un.kept hk,⟨_,x.toInCall.ns,fun i y v h1 h2 h3=>?_⟩,fun y c h=>⟨_,x.cell y c h⟩,e0.hok.fresh (Nat.le_refl _),fun y c h=>?_,fun p hp=>absurd (show p∈([]:List (Addr×Obj)) from hp) (by simp),e0.hok.kept hk,?_⟩
  · exact name_of_addr x.apart (PySem.mem_of_lookup h1) (PySem.mem_of_lookup h2)
  · have hy:scope.names.lookup y=some .cell∨scope.names.lookup y=some .free:=hy
    rcases hy with hy | hy
    · exact Zmi hy
    · exact absurd rfl (S.nofree _ (PySem.mem_of_lookup hy))
  · exact Nat.le_of_lt (x.above y c (PySem.mem_of_lookup h))
  · have hi:i<vs.length:=by
      unfold start at h2
      by_cases hi:i<vs.length
      · exact hi
      · rw [List.getElem?_append_right (by simpa using hi)] at h2
        rw [List.getElem?_replicate] at h2
        split at h2<;>cases h2
    have ha:vs[i]?=some v:=by
      unfold start at h2
      rw [List.getElem?_append_left (by simpa using hi),List.getElem?_map] at h2
      cases e:vs[i]? with
      | none=>rw [e] at h2; cases h2
      | some a=>rw [e] at h2; cases h2; rfl
    obtain ⟨u,hu,rv⟩:=r.get ha
    have hp:ps[i]?=some y:=by
      rw [←S.pre,List.getElem?_take_of_lt (by omega)]; exact h1
    have ndP:ps.Nodup:=by rw [←S.pre]; exact S.nd.sublist (List.take_sublist _ _)
    refine ⟨u,rv,?_⟩
    rcases S.par y (List.mem_of_getElem? hp) with k | k
    · exact .inl ⟨k,Zjg ndP hp hu k⟩
    · obtain ⟨c,e⟩:=Zmi (n:=s.heap.objs.size+1) k
      refine .inr ⟨.inl k,c,e,?_⟩
      have q:=x.cell y c e
      rw [Zji ndP hp hu (by show scope.names.lookup y≠_; rw [k]; decide)] at q
      exact q
  · exact e0.hok.fresh (Nat.le_of_lt (x.above y c (PySem.mem_of_lookup h)))
  · unfold start
    show _=N.length
    rw [List.length_append,List.length_map,List.length_replicate]
    omega
theorem Zxg {CX:CXT} {P:Program} {w:World} {K:PySem.W.Frag} {mg:Str→Option Value} {base:Heap} {k:Nat} {f:Addr} {name qual:Str} {params:Arguments} {body:List Stmt} {scope:Scope} {dV kV doc pm cdv ct oc:Value} {an od:Option Addr}
    {osl:Array (Option Value)} {N ps:List Str} {sp:Sp} (lk:K.lookup f=some ⟨oc,od,.func (PySem.W.fnOf name qual params body scope dV kV doc pm an cdv ct),osl⟩) (hcd:PySem.W.codeIn K cdv qual=true) (S:Zq N ps scope)
    (len:∀vs H Q E,sp vs H Q E→vs.length=ps.length)
    (hbody:∀(A:Around) (outer:List Env) (s:Shared) (H:Hp) (vs:List V) (Q:VK) (E:XK),Room k (A.deeper (envOfC qual scope s.heap.objs.size f cdv))→sp vs H Q E→
      ∃t,PSs (Zig CX P w K mg base N qual scope f cdv A outer s H E) body t∧t { nx:=fun _ H'=>Q .non H',rt:=Q } (start N vs) H) :
    FnOk P w K mg base CX (k+1) f (PySem.W.fnOf name qual params body scope dV kV doc pm an cdv ct) ps sp:=by
  refine ⟨len,fun A outer s H args us vs Q E hr e0 hb r hsp=>?_⟩
  have hl:=len _ _ _ _ hsp
  have KX:K.In s.heap:=e0.mod.kin.keeps fun b o e=>(e0.bs b o e).1
  have lim:s.heap.NoLimit:=e0.mod.nolimit.keeps fun b o e=>(e0.bs b o e).1
  have hkind:∀y∈ps.zip us,scope.names.lookup y.1=some .local∨(scope.names.lookup y.1=some .cell∧((cellsFrom (s.heap.objs.size+1) scope.names []).lookup y.1).isSome=true):=fun ⟨n,v⟩ hy=>by
    rcases S.par n (List.of_mem_zip hy).1 with q | q
    · exact .inl q
    · exact .inr ⟨q,PySem.W.cellsFrom_some _ _ _ (.inl q)⟩
  refine codeAny_call_function hr.depth (KX _ _ lk) rfl S.co S.gen rfl (PySem.W.codeRec_of KX hcd) (hb _ _ _ _ ?_)
  refine wpAny_newFunctionEnv_cells S.kind hkind fun env he s1 x=>?_
  subst he
  refine ⟨lim.keeps x.toInCall.keep,codeAny_func ?_⟩
  obtain ⟨t,ht,hq⟩:=hbody A outer s H vs Q E (hr.deeper _) hsp
  have I:Inv (Zig CX P w K mg base N qual scope f cdv A outer s H E) [] (start N vs) H s1:=Zor S hr.hd e0 hl r x
  refine wpAny_mono (ht [] s1 (start N vs) H _ I hq) (fun fl s' hs=>?_) fun e s' hs=>hs
  have fin:∀{σ':St} {H':Hp} {v:V} {u:Value},Inv (Zig CX P w K mg base N qual scope f cdv A outer s H E) [] σ' H' s'→RelV v u→Q v H'→CE outer P w H s Q u s':=
    fun {σ' H' v u} J rv q=>⟨v,H',J.os,J.bare,J.base,J.hok,rv,q⟩
  cases fl with
  | ret u=>
    obtain ⟨v,σ',H',J,rv,q⟩:=hs
    exact fin J rv q
  | next=>
    obtain ⟨σ',H',J,q⟩:=hs
    exact fin (v:=V.non) (u:=Value.none) J rfl q
  | brk=>
    obtain ⟨_,_,_,q⟩:=hs
    exact False.elim q
  | cont=>
    obtain ⟨_,_,_,q⟩:=hs
    exact False.elim q
end L2
namespace L2
open PySem PySem.Spec PyProof.Rows
section
variable {X:Cx} {x:Str} {p pos:Pos} {e:Expr} {es:List Expr} {t:TA} {id T:String} {r:List V→Hp→VK→Prop}
def tCB (r:List V→Hp→VK→Prop) (t:TA):TE:=fun σ H Q=>t σ H fun vs H1=>r vs H1 Q
theorem ZqW (hc:CallR X (.builtin id) r) (hg:Gl X x) (hm:X.mg x=none) (hv:bootBuiltins x=some (.builtin id)) (ha:PA X (e::es) t) (hn:x≠"__name__":=by decide) (hdb:(x == ("__debug__":Str))=false:=by decide)
    (he:starEach (e::es) X.env=(false,eval e X.env)::starEach es X.env:=by rfl) (hpl:(backTo pos (starEach es X.env)).any (·.1)=false:=by rfl):PE X (.Call (.Name x p) (e::es) [] pos) (tCB r t):=by
  intro pins s σ H Q I h
  refine wpAny_Call_Name_kw (Zh6 I hg hm hv ?_ hn hdb)
  exact PyProof.Rows.callWith_builtin1 (thn (ha pos pins s σ H _ I h) fun us s1 ⟨vs,H1,I1,r1,q1⟩=>hc pins s1 σ H1 vs us Q I1 r1 q1) he hpl
theorem Zoj (hc:CallR X (.type T) r) (hg:Gl X x) (hm:X.mg x=none) (hv:bootBuiltins x=some (.type T)) (ha:PA X (e::es) t) (hn:x≠"__name__":=by decide) (hdb:(x == ("__debug__":Str))=false:=by decide)
    (he:starEach (e::es) X.env=(false,eval e X.env)::starEach es X.env:=by rfl) (hpl:(backTo pos (starEach es X.env)).any (·.1)=false:=by rfl):PE X (.Call (.Name x p) (e::es) [] pos) (tCB r t):=by
  intro pins s σ H Q I h
  refine wpAny_Call_Name_kw (Zh6 I hg hm hv ?_ hn hdb)
  exact PyProof.Rows.callWith_type1 (thn (ha pos pins s σ H _ I h) fun us s1 ⟨vs,H1,I1,r1,q1⟩=>hc pins s1 σ H1 vs us Q I1 r1 q1) he hpl
end
end L2
namespace HT
open PySem PyProof.Rows
section
open PySem.SeqAt
open PySem.AutoSeq1 (wpAny_loadPart')
open PySem.MeetsSeq PySem.MeetsSeq2 PySem.MeetsSeq3
end
section
variable {prog:Program} {w:World} {A:Around} {E:Value→Shared→Prop} {s:Shared}
theorem cat_tup {t b:Addr} {vs ws:List Value} {Q:Value→Shared→Prop} (ht:IsTup s.heap t vs.toArray) (hb:IsTup s.heap b ws.toArray) (hv:vs≠[])
    (h1:ws=[]→Q (.ref t) s) (h2:ws≠[]→Q (.ref s.heap.objs.size) { s with heap:=s.heap.push { cls:=.type "tuple",data:=.seq (vs++ws).toArray } })
    (hsz:vs.length+ws.length≤sizeLine):wpAny (model prog w) A (binaryOp .Add (.ref t) (.ref b)) Q E s:=by
  obtain ⟨⟨cls,dd,data,sl⟩,ho,hc,n,hd⟩:=id ht
  obtain ⟨⟨cls2,dd2,data2,sl2⟩,ho2,hc2,n2,hd2⟩:=id hb
  simp only at hc hd hc2 hd2
  subst hc hd hc2 hd2
  have e:vs.toArray++ws.toArray=(vs++ws).toArray:=by simp
  by_cases hw:ws=[]
  · exact concat_meets ⟨_,ho,rfl⟩ ⟨_,ho2,rfl⟩ noFill_tuple_add seq_tuple_add PySem.F.slot_tuple_add PySem.F.entry_tuple_add (PySem.F.args_tuple_add_2 _ _)
      (tuple_addW1 t b vs.toArray ws.toArray n n2 dd dd2 sl sl2 (by simpa using hv) (by simp [hw])) ⟨ho,ho2,h1 hw⟩
  · refine concat_meets ⟨_,ho,rfl⟩ ⟨_,ho2,rfl⟩ noFill_tuple_add seq_tuple_add PySem.F.slot_tuple_add PySem.F.entry_tuple_add (PySem.F.args_tuple_add_2 _ _)
      (tuple_addW2 t b vs.toArray ws.toArray n n2 dd dd2 sl sl2 (by simpa using hv) (by simpa using hw) (by rw [List.size_toArray,List.size_toArray]; exact hsz)) ⟨ho,ho2,?_⟩
    rw [e]
    exact h2 hw
def sIx (n d:Nat):Option Int→Nat
  | none=>d
  | some v=>if v<0 then (v+(n:Int)).toNat else min v.toNat n
theorem sIx_none (n d:Nat):sIx n d none=d:=rfl
theorem sIx_nat (n d k:Nat):sIx n d (some (k:Int))=min k n:=by
  show (if (k:Int)<0 then ((k:Int)+(n:Int)).toNat else min (k:Int).toNat n)=min k n
  rw [if_neg (by omega),Int.toNat_natCast]
theorem ZuB (n d:Nat) (hd:d≤n) (o:Option Int):sIx n d o≤n:=by
  cases o with
  | none=>exact hd
  | some v=>
    show (if v<0 then (v+(n:Int)).toNat else min v.toNat n)≤n
    by_cases hv:v<0
    · rw [if_pos hv]; omega
    · rw [if_neg hv]; exact Nat.min_le_right _ _
theorem ZnR (v:Int) (n d:Nat):(if v<0 then max (v+(n:Int)) 0 else min v (n:Int))=((sIx n d (some v):Nat):Int):=by
  show (if v<0 then max (v+(n:Int)) 0 else min v (n:Int))=(((if v<0 then (v+(n:Int)).toNat else min v.toNat n):Nat):Int)
  by_cases hv:v<0
  · simp only [if_pos hv]; omega
  · simp only [if_neg hv]; omega
theorem Zm1 (lo hi:Option Int) (n:Nat):Builtin.Slice.sliceAdjust lo hi 1 (n:Int)=(((sIx n 0 lo:Nat):Int),((sIx n n hi:Nat):Int)):=by
  have h1:¬((1:Int)<0):=by omega
  unfold Builtin.Slice.sliceAdjust
  simp only [h1,if_false]
  refine Prod.ext ?_ ?_
  · cases lo with
    | none=>rfl
    | some v=>exact ZnR v n 0
  · cases hi with
    | none=>rfl
    | some v=>exact ZnR v n n
theorem ZmF (i j:Nat):Builtin.Slice.slicePlaces (i:Int) (j:Int) 1=j-i:=by
  unfold Builtin.Slice.slicePlaces
  have h1:(1:Int) > 0:=by omega
  simp only [h1,if_true,Int.ediv_one]
  split<;>omega
theorem ZhP {v:Value} {o:Option Int} {Q:Option Int→Shared→Prop} (p:IsPart v o) (h:Q o s):wpAny (model prog w) A (Builtin.Slice.slicePartIndex v) Q E s:=by
  cases p with
  | none=>exact slicePart_none h
  | int i t=>exact slicePart_int h
theorem ZgA {sl:Addr} {vl vu:Value} {lo hi:Option Int} {n:Nat} {Q:Int×Int×Nat→Shared→Prop} (hs:s.heap.IsSliceOf sl vl vu .none) (pl:IsPart vl lo) (pu:IsPart vu hi)
    (h:Q (((sIx n 0 lo:Nat):Int),1,sIx n n hi-sIx n 0 lo) s):wpAny (model prog w) A (Builtin.Slice.sliceApplied (.ref sl) (pure (n:Int))) Q E s:=by
  obtain ⟨os,hos,hcs,hds⟩:=id hs
  unfold Builtin.Slice.sliceApplied Builtin.Slice.sliceFields
  refine wpAny_bind (wpAny_bind (wpAny_field hos hds (x:=vl) rfl (wpAny_bind (wpAny_field hos hds (x:=vu) rfl (wpAny_bind (wpAny_field hos hds (x:=.none) rfl (wpAny_pure ?_)))))))
  refine wpAny_bind (slicePart_none ?_)
  show wpAny _ _ (if ((1:Int) == 0)=true then _ else _) _ _ s
  rw [if_neg (by decide)]
  refine wpAny_bind (ZhP pl (wpAny_bind (ZhP pu (wpAny_bind (wpAny_pure ?_)))))
  show wpAny _ _ (match Builtin.Slice.sliceAdjust lo hi 1 (n:Int) with | (lo,hi)=>pure (lo,(1:Int),Builtin.Slice.slicePlaces lo hi 1)) _ _ s
  rw [Zm1 lo hi n]
  show wpAny _ _ (pure (((sIx n 0 lo:Nat):Int),(1:Int),Builtin.Slice.slicePlaces ((sIx n 0 lo:Nat):Int) ((sIx n n hi:Nat):Int) 1)) _ _ s
  rw [ZmF]
  exact wpAny_pure h
theorem ZqK (xs:Array Value) (i k:Nat):((List.range k).filterMap fun (m:Nat)=>xs[((i:Int)+(m:Int)*1).toNat]?).toArray=((xs.toList.drop i).take k).toArray:=by
  have e:(fun (m:Nat)=>xs[((i:Int)+(m:Int)*1).toNat]?)=fun m=>xs[i+m]?:=by
    funext m
    have:((i:Int)+(m:Int)*1).toNat=i+m:=by omega
    rw [this]
  rw [e]
  have:=pick_run xs i k
  rw [List.filterMap_map] at this
  have e2:((fun x=>xs[x]?)∘fun x=>i+x)=fun m=>xs[i+m]?:=rfl
  rw [e2] at this
  rw [this]
theorem getItem_tuple_cut {t sl:Addr} {items:Array Value} {vl vu:Value} {lo hi:Option Int} {Q:Value→Shared→Prop} (ht:IsTup s.heap t items) (hs:s.heap.IsSliceOf sl vl vu .none) (pl:IsPart vl lo) (pu:IsPart vu hi)
    (hw:¬(sIx items.size 0 lo=0∧sIx items.size items.size hi=items.size))
    (h:Q (.ref s.heap.objs.size) { s with heap:=s.heap.push { cls:=.type "tuple",data:=.seq ((items.toList.drop (sIx items.size 0 lo)).take (sIx items.size items.size hi-sIx items.size 0 lo)).toArray } })
    (hsz:items.size≤sizeLine):wpAny (model prog w) A (getItem (.ref t) (.ref sl)) Q E s:=by
  have htake:sizeOk (.seq ((items.toList.drop (sIx items.size 0 lo)).take (sIx items.size items.size hi-sIx items.size 0 lo)).toArray):=by
    show ((items.toList.drop (sIx items.size 0 lo)).take (sIx items.size items.size hi-sIx items.size 0 lo)).toArray.size≤sizeLine
    rw [List.size_toArray,List.length_take,List.length_drop,Array.length_toList]
    omega
  have hj:sIx items.size items.size hi≤items.size:=ZuB _ _ (Nat.le_refl _) hi
  obtain ⟨os,hos,hcs,hds⟩:=id hs
  have hTs:s.TypeIs (.ref sl) "slice":=⟨os,hos,hcs⟩
  unfold getItem
  try with_reducible refine wpAny_holding ?_
  first | refine wpAny_bind (wpAny_pure ?_) | skip
  refine wpAny_bind (wpAny_sequenceKey ht.typeIs (by decide) ?_)
  refine wpAny_bind (wpAny_callSpecial?_slot (name:=Str.ofString "__getitem__") ht.typeIs PyProof.Rows.slot_tuple_getitem
    (wpAny_call_entry PyProof.Rows.slot_tuple_getitem ht.typeIs entry_tuple_getitem ?_ (args_tuple_getitem _ _)))
  show wpAny _ _ (Builtin.Tuple.tupleItemsOf (.ref t) >>= _) _ _ s
  refine wpAny_bind (tupleItemsOf_ ht ?_)
  refine wpAny_bind (wpAny_typeOf hTs ?_)
  rw [if_pos (by decide)]
  refine wpAny_bind (ZgA hs pl pu ?_)
  have hno:¬((((sIx items.size 0 lo:Nat):Int) == 0 && (1:Int) == 1 && (sIx items.size items.size hi-sIx items.size 0 lo) == items.size)=true):=by
    intro q
    rw [Bool.and_eq_true,Bool.and_eq_true] at q
    have q1:((sIx items.size 0 lo:Nat):Int)=0:=eq_of_beq q.1.1
    have q2:sIx items.size items.size hi-sIx items.size 0 lo=items.size:=eq_of_beq q.2
    exact hw ⟨by omega,by omega⟩
  show wpAny _ _ (if (((sIx items.size 0 lo:Nat):Int) == 0 && (1:Int) == 1 && (sIx items.size items.size hi-sIx items.size 0 lo) == items.size)=true then _ else _) _ _ s
  rw [if_neg hno,ZqK]
  first
    | exact wpAny_bind (m:=Builtin.Tuple.tupleExact _) (wpAny_newObj_type (wpAny_pure ⟨_,rfl,wpAny_pure h⟩) htake)
    | exact wpAny_bind (m:=Builtin.Tuple.tupleExact _) (wpAny_newObj_type (wpAny_bind (wpAny_pure (wpAny_pure ⟨_,rfl,wpAny_pure h⟩))) htake)
    | exact wpAny_bind (wpAny_bind (m:=Builtin.Tuple.tupleExact _) (wpAny_newObj_type (wpAny_pure (wpAny_pure ⟨_,rfl,wpAny_pure h⟩)) htake))
    | exact wpAny_bind (wpAny_bind (m:=Builtin.Tuple.tupleExact _) (wpAny_newObj_type (wpAny_pure ⟨_,rfl,wpAny_pure h⟩) htake))
end
end HT
namespace L2
open PySem PySem.Spec PyProof.Rows
abbrev TO:=St→Hp→(Option Int→Hp→Prop)→Prop
def PO (X:Cx) (e:Option Expr) (t:TO):Prop:=
  ∀(pins:List (Addr×Obj)) (s:Shared) (σ:St) (H:Hp) (Q:Option Int→Hp→Prop),Inv X pins σ H s→t σ H Q→
    wpAny (model X.prog X.w) X.A (evalPart e X.env) (fun u s'=>∃o H',Inv X pins σ H' s'∧IsPart u o∧Q o H') X.xe s
def Zsn:TO:=fun _ H Q=>Q none H
def Zwj (t:TE):TO:=fun σ H Q=>t σ H fun x H1=>∃i,x=.int i∧Q (some i) H1
section
variable {X:Cx} {e:Expr} {te:TE} {lo hi:Option Expr} {tl th:TO} {pos p2:Pos}
theorem ZsG:PO X none Zsn:=by
  intro pins s σ H Q I h
  rw [evalPart_none]
  exact wpAny_pure ⟨none,H,I,.none,h⟩
theorem ZsF (h:PE X e te):PO X (some e) (Zwj te):=by
  intro pins s σ H Q I hw
  rw [evalPart_some]
  refine thn (h pins s σ H _ I hw) fun u s1 ⟨x,H1,I1,r1,q1⟩=>?_
  obtain ⟨i,rfl,q⟩:=q1
  obtain ⟨t,rfl⟩:=r1
  exact ⟨some i,H1,I1,.int i t,q⟩
def SlR (X:Cx) (r:V→Option Int→Option Int→Hp→VK→Prop):Prop:=
  ∀(pins:List (Addr×Obj)) (s:Shared) (σ:St) (H:Hp) (x:V) (v vl vu:Value) (lo hi:Option Int) (sl:Addr) (Q:VK),Inv X pins σ H s→RelV x v→s.heap.IsSliceOf sl vl vu .none→IsPart vl lo→IsPart vu hi→r x lo hi H Q→
    ∃T id,typeLookup (.type T) "__getitem__"=pure (some (.builtin id))∧s.TypeIs v T∧wpAny (model X.prog X.w) X.A (getItem v (.ref sl)) (EP X pins σ Q) X.xe s
theorem SlR.or {r r':V→Option Int→Option Int→Hp→VK→Prop} (h:SlR X r) (h':SlR X r'):SlR X (fun x lo hi H Q=>r x lo hi H Q∨r' x lo hi H Q):=by
  intro pins s σ H x v vl vu lo hi sl Q I rx hs pl pu q
  rcases q with q | q
  · exact h pins s σ H x v vl vu lo hi sl Q I rx hs pl pu q
  · exact h' pins s σ H x v vl vu lo hi sl Q I rx hs pl pu q
def tSl (r:V→Option Int→Option Int→Hp→VK→Prop) (te:TE) (tl th:TO):TE:=fun σ H Q=>te σ H fun x H1=>tl σ H1 fun l H2=>th σ H2 fun u H3=>r x l u H3 Q
theorem ZqM {r:V→Option Int→Option Int→Hp→VK→Prop} (hr:SlR X r) (he:PE X e te) (hl:PO X lo tl) (hu:PO X hi th):PE X (.Subscript e (.Slice lo hi none p2) pos) (tSl r te tl th):=by
  intro pins s σ H Q I h
  refine Subscript_ (thn (he pins s σ H _ I h) fun v s1 ⟨x,H1,I1,r1,q1⟩=>?_)
  refine wpAny_Slice (thn (hl pins s1 σ H1 _ I1 q1) fun vl s2 ⟨l,H2,I2,pl,q2⟩=>thn (hu pins s2 σ H2 _ I2 q2) fun vu s3 ⟨u,H3,I3,pu,q3⟩=>?_)
  rw [evalPart_none]
  refine wpAny_pure ?_
  have I4:Inv X pins σ H3 { s3 with heap:=s3.heap.push { cls:=.type "slice",data:=.fields #[vl,vu,.none] } }:=I3.kept (t':=s3.toks) fun b ob q=>Heap.get?_push_of_some _ q
  obtain ⟨T,id,hT,ht,hg⟩:=hr pins { s3 with heap:=s3.heap.push { cls:=.type "slice",data:=.fields #[vl,vu,.none] } } σ H3 x v vl vu l u s3.heap.objs.size Q I4 r1 (Heap.IsSliceOf.new ..) pl pu q3
  show wpAny (model X.prog X.w) X.A (subscriptTail e (.Slice lo hi none p2) v (.ref s3.heap.objs.size)) (EP X pins σ Q) X.xe { s3 with heap:=s3.heap.push { cls:=.type "slice",data:=.fields #[vl,vu,.none] } }
  exact tail_any (ops:=[.ref s3.heap.objs.size,v]) ht hT hg (by with_unfolding_all rfl)
def Zme (xs:List V) (lo hi:Option Int):List V:=(xs.drop (HT.sIx xs.length 0 lo)).take (HT.sIx xs.length xs.length hi-HT.sIx xs.length 0 lo)
theorem Zg7 (xs:List V) (lo hi:Option Int):(Zme xs lo hi).length≤xs.length:=by
  unfold Zme
  rw [List.length_take,List.length_drop]
  omega
def ZAC (K:PySem.W.Frag):V→Option Int→Option Int→Hp→VK→Prop:=fun x lo hi H Q=>∃a xs,x=.ref a∧SqT K H a xs∧
  ¬(HT.sIx xs.length 0 lo=0∧HT.sIx xs.length xs.length hi=xs.length)∧∀p,H p=none→Q (.ref p) (upd H p (.tup (Zme xs lo hi)))
theorem Zuy:SlR X (ZAC X.K):=by
  intro pins s σ H x v vl vu lo hi sl Q I rx hs pl pu h
  obtain ⟨a,xs,rfl,hx,hw,q⟩:=h
  cases rx
  obtain ⟨its,r,ht,hz⟩:=I.tuple hx
  have hlen:its.toArray.size=xs.length:=by rw [List.size_toArray]; exact r.length.symm
  refine ⟨"tuple",_,PyProof.Rows.slot_tuple_getitem.lookup,ht.typeIs,?_⟩
  refine HT.getItem_tuple_cut ht hs pl pu (by rw [hlen]; exact hw) ?_ (by rw [hlen]; exact hz)
  rw [hlen]
  refine ⟨.ref s.heap.objs.size,_,I.laid (t':=s.toks) (o:=.tup (Zme xs lo hi)) (fun b ob q=>Heap.get?_push_of_some _ q) (Nat.le_refl _) ?_,rfl,q _ (I.hok.fresh (Nat.le_refl _))⟩
  exact ⟨Nat.le_trans (Zg7 xs lo hi) hz,_,(r.drop (HT.sIx xs.length 0 lo)).take (HT.sIx xs.length xs.length hi-HT.sIx xs.length 0 lo),IsTup.new _ _⟩
def ZwB (K:PySem.W.Frag):R2:=fun x y H Q=>∃a b xs ys,x=.ref a∧y=.ref b∧SqT K H a xs∧SqT K H b ys∧xs≠[]∧xs.length+ys.length≤sizeLine∧
  (ys=[]→Q (.ref a) H)∧(ys≠[]→∀p,H p=none→Q (.ref p) (upd H p (.tup (xs++ys))))
theorem Vals.nil_iff {xs:List V} {us:List Value} (r:Vals xs us):us=[]↔xs=[]:=by
  cases r with
  | nil=>simp
  | cons _ _=>simp
theorem op_catT:OpR X (binaryOp .Add) (ZwB X.K):=by
  intro pins s σ H x y v u Q I rx ry h
  obtain ⟨a,b,xs,ys,rfl,rfl,ha,hb,hx,hz,q1,q2⟩:=h
  cases rx
  cases ry
  obtain ⟨its,r1,p1,_⟩:=I.tuple ha
  obtain ⟨its2,r2,p2,_⟩:=I.tuple hb
  refine HT.cat_tup p1 p2 (fun z=>hx (r1.nil_iff.mp z)) (fun z=>⟨.ref a,H,I,rfl,q1 (r2.nil_iff.mp z)⟩) (fun z=>?_) (by rw [←r1.length,←r2.length]; exact hz)
  refine ⟨.ref s.heap.objs.size,_,I.laid (t':=s.toks) (o:=.tup (xs++ys)) (fun b ob q=>Heap.get?_push_of_some _ q) (Nat.le_refl _) ?_,rfl,q2 (fun w=>z (r2.nil_iff.mpr w)) _ (I.hok.fresh (Nat.le_refl _))⟩
  exact ⟨by rw [List.length_append]; exact hz,_,r1.append r2,IsTup.new _ _⟩
end
end L2
namespace L2
open PySem PySem.Spec PyProof.Rows
def ixN (n:Nat) (i:Int):Option Nat:=if 0≤i then (if i<n then some i.toNat else none) else if -(n:Int)≤i then some (i+n).toNat else none
def atI {α:Type} (xs:List α) (i:Int):Option α:=(ixN xs.length i).bind fun j=>xs[j]?
theorem Zs4 {n:Nat} {i:Int} {j:Nat} (h:ixN n i=some j):seqIndex? i n=some j∧j<n∧-(n:Int)≤i∧i<n:=by
  unfold ixN at h
  by_cases h0:0≤i
  · rw [if_pos h0] at h
    by_cases h1:i<n
    · rw [if_pos h1] at h
      have e:i.toNat=j:=Option.some.inj h
      exact ⟨by rw [seqIndex_of h0 h1,e],by omega,by omega,h1⟩
    · rw [if_neg h1] at h; cases h
  · rw [if_neg h0] at h
    by_cases h1 : -(n:Int)≤i
    · rw [if_pos h1] at h
      have e:(i+n).toNat=j:=Option.some.inj h
      exact ⟨by rw [seqIndex_neg (by omega) h1,e],by omega,h1,by omega⟩
    · rw [if_neg h1] at h; cases h
theorem Zj2 {α:Type} {xs:List α} {i:Int} {v:α} (h:atI xs i=some v):∃j,seqIndex? i xs.length=some j∧xs[j]?=some v∧j<xs.length∧-(xs.length:Int)≤i∧i<xs.length:=by
  unfold atI at h
  cases e:ixN xs.length i with
  | none=>rw [e] at h; cases h
  | some j=>
    rw [e] at h
    obtain ⟨h1,h2,h3,h4⟩:=Zs4 e
    exact ⟨j,h1,h,h2,h3,h4⟩
theorem Zgs {α:Type} {xs:List α} {j:Nat} {v:α} (h:xs[j]?=some v):atI xs (j:Int)=some v:=by
  have hj:j<xs.length:=(List.getElem?_eq_some_iff.mp h).1
  have e:ixN xs.length (j:Int)=some j:=by
    unfold ixN
    rw [if_pos (by omega),if_pos (by omega)]; simp
  unfold atI; rw [e]; exact h
def Zn2 (b:Expr):Prop:=∀o i,subscripted b false o i=operate [o,i] (getItem o i)
def IxR (X:Cx) (r:R2):Prop:=
  ∀(value slice:Expr) (pins:List (Addr×Obj)) (s:Shared) (σ:St) (H:Hp) (x y:V) (v u:Value) (Q:VK),Inv X pins σ H s→RelV x v→RelV y u→r x y H Q→
    subscripted slice false v u=operate [v,u] (getItem v u)→wpAny (model X.prog X.w) X.A (subscriptTail value slice v u) (EP X pins σ Q) X.xe s
def MtR (X:Cx) (id:String) (r:V→List V→Hp→VK→Prop):Prop:=
  ∀(pins:List (Addr×Obj)) (s:Shared) (σ:St) (H:Hp) (x:V) (xs:List V) (v:Value) (us:List Value) (Q:VK),Inv X pins σ H s→RelV x v→Vals xs us→r x xs H Q→
    wpAny (model X.prog X.w) X.A (call (.builtin id) (v::us)) (EP X pins σ Q) X.xe s
section
variable {X:Cx} {a b:Expr} {ta tb:TE} {pos:Pos}
theorem IxR.or {r r':R2} (h:IxR X r) (h':IxR X r'):IxR X (fun x y H Q=>r x y H Q∨r' x y H Q):=by
  intro value slice pins s σ H x y v u Q I rx ry q hs
  rcases q with q | q
  · exact h value slice pins s σ H x y v u Q I rx ry q hs
  · exact h' value slice pins s σ H x y v u Q I rx ry q hs
theorem ZwL {r:R2} (hr:IxR X r) (ha:PE X a ta) (hb:PE X b tb) (hs:Zn2 b):PE X (.Subscript a b pos) (tOp r ta tb):=by
  intro pins s σ H Q I h
  exact Subscript_ (Zvp ha hb I h fun v u s2 x y H2 I2 rx ry q=>hr a b pins s2 σ H2 x y v u Q I2 rx ry q (hs _ _))
def ZwA (K:PySem.W.Frag):R2:=fun x y H Q=>∃p xs i v,x=.ref p∧y=.int i∧SqL K H p xs∧atI xs i=some v∧Q v H
def Zwy (K:PySem.W.Frag):R2:=fun x y H Q=>∃p xs i v,x=.ref p∧y=.int i∧SqT K H p xs∧atI xs i=some v∧Q v H
def Zwz:R2:=fun x y H Q=>∃z i c,x=.str z∧y=.int i∧z.length≤sizeLine∧atI z.cps.toList i=some c∧Q (.str ⟨#[c]⟩) H
theorem ix_list:IxR X (ZwA X.K):=by
  intro value slice pins s σ H x y v u Q I rx ry h hs
  obtain ⟨p,xs,i,z,rfl,rfl,hq,he,q⟩:=h
  cases rx
  obtain ⟨t,rfl⟩:=ry
  obtain ⟨its,r,pl,hz⟩:=I.list hq
  obtain ⟨j,h1,h2,h3,h4,h5⟩:=Zj2 he
  obtain ⟨w,ew,rw'⟩:=r.get h2
  have hl:=r.length
  have hn:=ZgI
  have fin:EP X pins σ Q w s:=⟨z,H,I,rw',q⟩
  by_cases h0:0≤i
  · have hj:i.toNat=j:=by
      rw [seqIndex_of h0 h5] at h1
      exact Option.some.inj h1
    exact item_listR pl.isList h0 (by omega) (by rw [hj]; simpa using ew) fin hs
  · have hj:(i+(its.toArray.size:Int)).toNat=j:=by
      rw [seqIndex_neg (by omega) h4] at h1
      rw [List.size_toArray,←hl]
      exact Option.some.inj h1
    exact subscriptTail_builtinR (x:=w) pl.isList.typeIs slot_list_getitem.lookup
      (wpAny_getItem_list_neg (Q:=fun r s'=>r=w∧EP X pins σ Q r s') pl.isList (by omega) (by rw [List.size_toArray]<;>omega) (by omega) (by rw [hj]; simpa using ew) ⟨rfl,fin⟩) hs
theorem ix_tup:IxR X (Zwy X.K):=by
  intro value slice pins s σ H x y v u Q I rx ry h hs
  obtain ⟨p,xs,i,z,rfl,rfl,hq,he,q⟩:=h
  cases rx
  obtain ⟨t,rfl⟩:=ry
  obtain ⟨its,r,pl,hz⟩:=I.tuple hq
  obtain ⟨j,h1,h2,h3,h4,h5⟩:=Zj2 he
  obtain ⟨w,ew,rw'⟩:=r.get h2
  have hl:=r.length
  have hn:=ZgI
  have fin:EP X pins σ Q w s:=⟨z,H,I,rw',q⟩
  exact subscriptTail_builtinR (x:=w) pl.typeIs slot_tuple_getitem.lookup
    (getItem_tuple (j:=j) (Q:=fun r s'=>r=w∧EP X pins σ Q r s') pl (by omega) (by omega) (by rw [List.size_toArray,←hl]; exact h1) (by simpa using ew) ⟨rfl,fin⟩) hs
theorem Zvd:IxR X Zwz:=by
  intro value slice pins s σ H x y v u Q I rx ry h hs
  obtain ⟨z,i,c,rfl,rfl,hz,he,q⟩:=h
  obtain ⟨t,rfl⟩:=rx
  obtain ⟨t',rfl⟩:=ry
  obtain ⟨j,h1,h2,h3,h4,h5⟩:=Zj2 he
  have hl:z.cps.toList.length=z.length:=by simp [Str.length]
  rw [hl] at h1 h4 h5
  have hn:=ZgI
  exact tail_any (typeIs_str s z t) slot_str_getitem.lookup (getItem_str (c:=c) (by
    have e1:decide (i < -(2 ^ 63:Int))=false:=decide_eq_false (by omega)
    have e2:decide (i≥2 ^ 63)=false:=decide_eq_false (by omega)
    rw [e1,e2,Bool.or_false]) (by rw [h1]; simpa using h2) ⟨.str ⟨#[c]⟩,H,I.tok _,⟨_,rfl⟩,q⟩) hs
def rIx (K:PySem.W.Frag):R2:=fun x y H Q=>ZwA K x y H Q∨Zwy K x y H Q∨Zwz x y H Q
theorem Zve:IxR X (rIx X.K):=ix_list.or (ix_tup.or Zvd)
theorem Zjy (lo hi:Option Int) (n:Nat):(sliceBounds lo hi none n).1=((HT.sIx n 0 lo:Nat):Int)∧(sliceBounds lo hi none n).2.1=((HT.sIx n n hi:Nat):Int)∧(sliceBounds lo hi none n).2.2=1:=by
  refine ⟨?_,?_,rfl⟩
  · cases lo with
    | none=>simp [sliceBounds,HT.sIx]
    | some i=>
      simp only [sliceBounds,HT.sIx,Option.getD_none,show (1:Int) > 0 by decide,if_true]
      by_cases h:i<0
      · simp only [h,if_true]<;>omega
      · simp only [h,if_false]<;>omega
  · cases hi with
    | none=>simp [sliceBounds,HT.sIx]
    | some i=>
      simp only [sliceBounds,HT.sIx,Option.getD_none,show (1:Int) > 0 by decide,if_true]
      by_cases h:i<0
      · simp only [h,if_true]<;>omega
      · simp only [h,if_false]<;>omega
theorem ZiE (its:List Value) (lo hi:Option Int):slicePick its.toArray lo hi none=((its.drop (HT.sIx its.length 0 lo)).take (HT.sIx its.length its.length hi-HT.sIx its.length 0 lo)).toArray:=by
  obtain ⟨h1,h2,h3⟩:=Zjy lo hi its.toArray.size
  unfold slicePick
  rw [h1,h2,h3]
  simp only [sliceRange_one,pick_run,List.size_toArray]<;>rfl
def Zww (K:PySem.W.Frag):V→Option Int→Option Int→Hp→VK→Prop:=fun x lo hi H Q=>∃a xs,x=.ref a∧SqL K H a xs∧∀p,H p=none→Q (.ref p) (upd H p (.lst (Zme xs lo hi)))
theorem sl_list:SlR X (Zww X.K):=by
  intro pins s σ H x v vl vu lo hi sl Q I rx hs pl pu h
  obtain ⟨a,xs,rfl,hx,q⟩:=h
  cases rx
  obtain ⟨its,r,ht,hz⟩:=I.list hx
  have hlen:=r.length
  refine ⟨"list",_,slot_list_getitem.lookup,ht.isList.typeIs,?_⟩
  refine wpAny_getItem_list_slice ht.isList hs pl pu .none (by simp) ?_ (by rw [List.size_toArray]<;>omega)
  rw [ZiE,←hlen]
  refine ⟨.ref s.heap.objs.size,_,I.laid (t':=s.toks) (o:=.lst (Zme xs lo hi)) (fun b ob q=>Heap.get?_push_of_some _ q) (Nat.le_refl _) ?_,rfl,q _ (I.hok.fresh (Nat.le_refl _))⟩
  exact ⟨Nat.le_trans (Zg7 xs lo hi) hz,_,0,(r.drop (HT.sIx xs.length 0 lo)).take (HT.sIx xs.length xs.length hi-HT.sIx xs.length 0 lo),Heap.get?_push_size _ rfl⟩
def Zdx:V→Bool
  | .non=>true
  | .bl _=>true
  | .int _=>true
  | .str _=>true
  | _=>false
def eqV:V→V→Bool
  | .non,.non=>true
  | .bl a,.bl b=>a == b
  | .bl a,.int b=>(if a then 1 else 0) == b
  | .int a,.bl b=>a == (if b then 1 else 0)
  | .int a,.int b=>a == b
  | .str a,.str b=>a == b
  | _,_=>false
theorem Zvl {A:Around} {s:Shared} {y x:V} {u v:Value} (ry:RelV y u) (rx:RelV x v) (fy:Zdx y=true) (fx:Zdx x=true):SeqAt.EqAt A s u v (eqV y x):=by
  cases y with
  | non=>
    cases ry
    cases x with
    | non=>cases rx; exact SeqAt.EqAt.same _
    | bl b=>cases rx; exact SeqAt.EqAt.none_bool b
    | int b=>obtain ⟨t,rfl⟩:=rx; exact SeqAt.EqAt.none_int b t
    | str b=>obtain ⟨t,rfl⟩:=rx; exact SeqAt.EqAt.none_str b t
    | _=>exact absurd (show false=true from fx) Bool.false_ne_true
  | bl a=>
    cases ry
    cases x with
    | non=>cases rx; exact SeqAt.EqAt.bool_none a
    | bl b=>cases rx; exact SeqAt.EqAt.bool_bool a b
    | int b=>obtain ⟨t,rfl⟩:=rx; exact SeqAt.EqAt.bool_int a b t
    | str b=>obtain ⟨t,rfl⟩:=rx; exact SeqAt.EqAt.bool_str a b t
    | _=>exact absurd (show false=true from fx) Bool.false_ne_true
  | int a=>
    obtain ⟨t',rfl⟩:=ry
    cases x with
    | non=>cases rx; exact SeqAt.EqAt.int_none a t'
    | bl b=>cases rx; exact SeqAt.EqAt.int_bool a t' b
    | int b=>obtain ⟨t,rfl⟩:=rx; exact SeqAt.EqAt.int_int a t' b t
    | str b=>obtain ⟨t,rfl⟩:=rx; exact SeqAt.EqAt.int_str a t' b t
    | _=>exact absurd (show false=true from fx) Bool.false_ne_true
  | str a=>
    obtain ⟨t',rfl⟩:=ry
    cases x with
    | non=>cases rx; exact SeqAt.EqAt.str_none a t'
    | bl b=>cases rx; exact SeqAt.EqAt.str_bool a t' b
    | int b=>obtain ⟨t,rfl⟩:=rx; exact SeqAt.EqAt.str_int a t' b t
    | str b=>obtain ⟨t,rfl⟩:=rx; exact SeqAt.EqAt.str_str a t' b t
    | _=>exact absurd (show false=true from fx) Bool.false_ne_true
  | _=>exact absurd (show false=true from fy) Bool.false_ne_true
def eqU (x:V) (u:Value):Bool:=match u with
  | .none=>eqV .non x
  | .bool b=>eqV (.bl b) x
  | .int i _=>eqV (.int i) x
  | .str z _=>eqV (.str z) x
  | _=>false
theorem Zrx {x y:V} {u:Value} (r:RelV y u) (f:Zdx y=true):eqU x u=eqV y x:=by
  cases y with
  | non=>cases r; rfl
  | bl b=>cases r; rfl
  | int i=>obtain ⟨t,rfl⟩:=r; rfl
  | str z=>obtain ⟨t,rfl⟩:=r; rfl
  | _=>exact absurd (show false=true from f) Bool.false_ne_true
theorem Zgt {x:V}:∀{xs:List V} {us:List Value},Vals xs us→xs.all Zdx=true→us.any (eqU x)=xs.any fun y=>eqV y x
  | _,_,.nil,_=>rfl
  | y::xs,u::us,.cons r t,f=>by
    rw [List.all_cons,Bool.and_eq_true] at f
    rw [List.any_cons,List.any_cons,Zrx r f.1,Zgt t f.2]
theorem ZeM {A:Around} {s:Shared} {x:V} {v:Value} (rx:RelV x v) (fx:Zdx x=true):∀{xs:List V} {us:List Value},Vals xs us→xs.all Zdx=true→∀u∈us,SeqAt.EqAt A s u v (eqU x u)
  | _,_,.nil,_=>fun u hu=>by cases hu
  | y::xs,u::us,.cons r t,f=>fun u' hu=>by
    rw [List.all_cons,Bool.and_eq_true] at f
    rcases List.mem_cons.mp hu with rfl | hu
    · rw [Zrx r f.1]; exact Zvl r rx f.1 fx
    · exact ZeM rx fx t f.2 u' hu
def inV (x:V) (xs:List V):Bool:=xs.any fun y=>eqV y x
def rIn (K:PySem.W.Frag) (neg:Bool):R2:=fun x y H Q=>∃p xs,y=.ref p∧(SqL K H p xs∨SqT K H p xs)∧Zdx x=true∧xs.all Zdx=true∧Q (.bl (if neg then !inV x xs else inV x xs)) H
theorem Zok:OpR X (compareOp .In) (rIn X.K false):=by
  intro pins s σ H x y v u Q I rx ry h
  obtain ⟨p,xs,rfl,hq,fx,fs,q⟩:=h
  cases ry
  rcases hq with hq | hq
  · obtain ⟨its,r,pl,hz⟩:=I.list hq
    refine SeqAt.in_listAt (eqU x) pl.isList (fun w hw=>ZeM rx fx r fs w (by simpa using hw)) ⟨.bl _,H,I,rfl,?_⟩
    rw [show its.toArray.any (eqU x)=its.any (eqU x) by simp,Zgt r fs]
    exact q
  · obtain ⟨its,r,pl,hz⟩:=I.tuple hq
    refine SeqAt.in_tupleAt (eqU x) pl (fun w hw=>ZeM rx fx r fs w (by simpa using hw)) ⟨.bl _,H,I,rfl,?_⟩
    rw [show its.toArray.any (eqU x)=its.any (eqU x) by simp,Zgt r fs]
    exact q
theorem ZjG:OpR X (compareOp .NotIn) (rIn X.K true):=by
  intro pins s σ H x y v u Q I rx ry h
  obtain ⟨p,xs,rfl,hq,fx,fs,q⟩:=h
  cases ry
  rcases hq with hq | hq
  · obtain ⟨its,r,pl,hz⟩:=I.list hq
    refine SeqAt.notIn_listAt (eqU x) pl.isList (fun w hw=>ZeM rx fx r fs w (by simpa using hw)) ⟨.bl _,H,I,rfl,?_⟩
    rw [show its.toArray.any (eqU x)=its.any (eqU x) by simp,Zgt r fs]
    exact q
  · obtain ⟨its,r,pl,hz⟩:=I.tuple hq
    refine SeqAt.notIn_tupleAt (eqU x) pl (fun w hw=>ZeM rx fx r fs w (by simpa using hw)) ⟨.bl _,H,I,rfl,?_⟩
    rw [show its.toArray.any (eqU x)=its.any (eqU x) by simp,Zgt r fs]
    exact q
theorem ZjW:CallR X (.builtin "len") (fun xs H Q=>∃p ys,xs=[.ref p]∧(SqL X.K H p ys∨SqT X.K H p ys)∧Q (.int ys.length) H):=by
  intro pins s σ H xs us Q I r h
  obtain ⟨p,ys,rfl,hq,q⟩:=h
  obtain ⟨u,rfl,rx⟩:=ZfO r
  cases rx
  have hn:=ZgI
  rcases hq with hq | hq
  · obtain ⟨its,r',pl,hz⟩:=I.list hq
    have hlen:=r'.length
    exact Calls.call_len_list pl.isList (by simp only [List.size_toArray]<;>omega) ⟨.int ys.length,H,I.tok _,⟨s.toks+1,by rw [List.size_toArray,hlen]⟩,q⟩
  · obtain ⟨its,r',pl,hz⟩:=I.tuple hq
    have hlen:=r'.length
    exact len_tuple pl (by simp only [List.size_toArray]<;>omega) ⟨.int ys.length,H,I.tok _,⟨s.toks+1,by rw [List.size_toArray,hlen]⟩,q⟩
theorem call_len_str:CallR X (.builtin "len") (fun xs H Q=>∃z,xs=[.str z]∧z.length≤sizeLine∧Q (.int z.length) H):=by
  intro pins s σ H xs us Q I r h
  obtain ⟨z,rfl,hz,q⟩:=h
  obtain ⟨u,rfl,t,rfl⟩:=ZfO r
  have hn:=ZgI
  exact len_str (by omega) ⟨.int z.length,H,I.tok _,⟨_,rfl⟩,q⟩
theorem CallR.or {f:Value} {r r':List V→Hp→VK→Prop} (h:CallR X f r) (h':CallR X f r'):CallR X f (fun xs H Q=>r xs H Q∨r' xs H Q):=by
  intro pins s σ H xs us Q I rs q
  rcases q with q | q
  · exact h pins s σ H xs us Q I rs q
  · exact h' pins s σ H xs us Q I rs q
theorem ZjV:CallR X (.type "list") (fun xs H Q=>∃p ys,xs=[.ref p]∧(SqL X.K H p ys∨SqT X.K H p ys)∧∀l,H l=none→Q (.ref l) (upd H l (.lst ys))):=by
  intro pins s σ H xs us Q I r h
  obtain ⟨p,ys,rfl,hq,q⟩:=h
  obtain ⟨u,rfl,rx⟩:=ZfO r
  cases rx
  have fin:∀(its:List Value),Vals ys its→ys.length≤sizeLine→∀(h':Heap) (c':Nat),(∀b o',s.heap.get? b=some o'→h'.get? b=some o')→
      h'.get? s.heap.objs.size=some { cls:=.type "list",dict:=none,data:=.seq its.toArray c',slots:=#[] }→EP X pins σ Q (.ref s.heap.objs.size) { s with heap:=h' }:=fun its r' hz h' c' kp e=>
    ⟨.ref s.heap.objs.size,_,I.laid (t':=s.toks) kp (Nat.le_refl _) (show ObjOk X.prog X.w _ h' _ (.lst ys) from ⟨hz,its,c',r',e⟩),rfl,q _ (I.hok.fresh (Nat.le_refl _))⟩
  rcases hq with hq | hq
  · obtain ⟨its,r',pl,hz⟩:=I.list hq
    have hlen:=r'.length
    obtain ⟨o,ho,hc,n,hd⟩:=pl.isList
    exact call_list_seq p (.inl rfl) ho hc hd (fun h' c' kp e=>fin its r' hz h' c' kp e) (by simp only [List.size_toArray]<;>omega)
  · obtain ⟨its,r',pl,hz⟩:=I.tuple hq
    have hlen:=r'.length
    obtain ⟨o,ho,hc,n,hd⟩:=pl
    exact call_list_seq p (.inr rfl) ho hc hd (fun h' c' kp e=>fin its r' hz h' c' kp e) (by simp only [List.size_toArray]<;>omega)
theorem ZiH:CallR X (.type "tuple") (fun xs H Q=>∃p ys,xs=[.ref p]∧((SqL X.K H p ys∧∀l,H l=none→Q (.ref l) (upd H l (.tup ys)))∨(SqT X.K H p ys∧Q (.ref p) H))):=by
  intro pins s σ H xs us Q I r h
  obtain ⟨p,ys,rfl,h⟩:=h
  obtain ⟨u,rfl,rx⟩:=ZfO r
  cases rx
  rcases h with ⟨hq,q⟩ | ⟨hq,q⟩
  · obtain ⟨its,r',pl,hz⟩:=I.list hq
    have hlen:=r'.length
    refine call_tuple_list pl.isList (fun h' kp=>?_) (by simp only [List.size_toArray]<;>omega)
    have I1:Inv X pins σ H { s with heap:=h' }:=I.kept (t':=s.toks) kp
    have I2:Inv X pins σ (upd H h'.objs.size (.tup ys)) { s with heap:=h'.push { cls:=.type "tuple",data:=.seq its.toArray } }:=
      I1.laid (t':=s.toks) (fun b o e=>Heap.get?_push_of_some _ e) (Nat.le_refl _) (show ObjOk X.prog X.w _ _ _ (.tup ys) from ⟨hz,its,r',IsTup.new _ _⟩)
    exact ⟨.ref h'.objs.size,_,I2,rfl,q _ (I1.hok.fresh (Nat.le_refl _))⟩
  · obtain ⟨its,r',pl,hz⟩:=I.tuple hq
    exact call_tuple_same pl ⟨.ref p,H,I,rfl,q⟩
def tyV (K:PySem.W.Frag) (T:String) (x:V) (H:Hp):Prop:=match x with
  | .str _=>T = "str"
  | .int _=>T = "int"
  | .ref p=>(T = "list"∧∃xs,SqL K H p xs)∨(T = "tuple"∧∃o,K.lookup p=some o∧o.cls=.type "tuple"∧o.dict=none)∨
      (T = "dict"∧((∃kvs,H p=some (.dK kvs))∨∃kvs,H p=some (.dT kvs)))∨(T = "set"∧∃S n,H p=some (.set S n))
  | _=>False
theorem Zt9 {pins:List (Addr×Obj)} {σ:St} {H:Hp} {s:Shared} {T:String} {x:V} {v:Value} (I:Inv X pins σ H s) (r:RelV x v) (ty:tyV X.K T x H) :
    s.TypeIs v T∧∀a,v=.ref a→∃ob,s.heap.get? a=some ob∧ob.dict=none:=by
  cases x with
  | str z=>
    obtain ⟨t,rfl⟩:=r
    cases (show T = "str" from ty)
    exact ⟨typeIs_str s z t,fun _ e=>nomatch e⟩
  | int i=>
    obtain ⟨t,rfl⟩:=r
    cases (show T = "int" from ty)
    exact ⟨typeIs_int s i t,fun _ e=>nomatch e⟩
  | ref p=>
    cases r
    rcases ty with ⟨rfl,xs,hq⟩ | ⟨rfl,o,hk,hc,hd⟩ | ⟨rfl,hk⟩ | ⟨rfl,S,n,hk⟩
    · obtain ⟨its,_,pl,_⟩:=I.list hq
      refine ⟨pl.isList.typeIs,fun a e=>?_⟩
      cases e
      obtain ⟨o,n,e,c,hd,_⟩:=pl
      exact ⟨o,e,hd⟩
    · refine ⟨⟨o,I.kIn p o hk,hc⟩,fun a e=>?_⟩
      cases e
      exact ⟨o,I.kIn _ o hk,hd⟩
    · have z:∃o,s.heap.get? p=some o∧o.ExactDict:=by
        rcases hk with ⟨kvs,hk⟩ | ⟨kvs,hk⟩
        · obtain ⟨_,_,_,_,o,_,_,e,ex,_⟩:=I.hok p _ hk
          exact ⟨o,e,ex⟩
        · obtain ⟨_,_,_,_,o,_,_,e,ex,_⟩:=I.hok p _ hk
          exact ⟨o,e,ex⟩
      obtain ⟨o,e,ex⟩:=z
      refine ⟨⟨o,e,ex.1⟩,fun a e2=>?_⟩
      cases e2
      exact ⟨o,e,ex.2.1⟩
    · obtain ⟨o,_,_,_,e,ex,_⟩:=I.hok p _ hk
      refine ⟨⟨o,e,ex.1⟩,fun a e2=>?_⟩
      cases e2
      exact ⟨o,e,ex.2.1⟩
  | _=>exact False.elim ty
def tBM (K:PySem.W.Frag) (T:String) (r:V→List V→Hp→VK→Prop) (to:TE) (t:TA):TE:=fun σ H Q=>to σ H fun x H1=>tyV K T x H1∧t σ H1 fun xs H2=>r x xs H2 Q
variable {o e:Expr} {es:List Expr} {to:TE} {t:TA} {name:Str} {apos cpos:Pos} {T id:String} {r:V→List V→Hp→VK→Prop}
theorem ZtQ (pa:PlainAttrs T) (slot:Slot T name id) (hty:typeOf (.builtin id)=pure (.type "method_descriptor")) (hm:MtR X id r) (ho:PE X o to) (ha:PA X (e::es) t)
    (hbase:attributeBase o name X.env (eval o X.env)=eval o X.env:=by rfl)
    (hfew:((backTo cpos (starEach (e::es) X.env)).all (fun x=>!x.1) && (backToKw cpos (keywordEach [] X.env)).all (fun x=>x.1.isSome)
      && decide ((e::es).length+([]:List Keyword).length+(if ([]:List Keyword).isEmpty then 0 else 1)<30))=true:=by rfl)
    (hline:(apos.endLine == cpos.line)=true:=by rfl) (hs:starEach (e::es) X.env=(false,eval e X.env)::starEach es X.env:=by rfl) (hplain:(backTo cpos (starEach es X.env)).any (·.1)=false:=by rfl) :
    PE X (.Call (.Attribute o name apos) (e::es) [] cpos) (tBM X.K T r to t):=by
  intro pins s σ H Q I h
  refine wpAny_Call_method_late hbase hfew hline rfl (thn (ho pins s σ H _ I h) fun v s1 ⟨x,H1,I1,r1,ty,q1⟩=>?_)
  obtain ⟨h1,h2⟩:=Zt9 I1 r1 ty
  refine ⟨T,id,pa,slot,hty,h1,h2,?_⟩
  have hA:=ha cpos pins s1 σ H1 _ I1 q1
  rw [hs] at hA ⊢
  refine Calls.callWith_builtin (by show (false || (backTo cpos (starEach es X.env)).any (·.1))=false; rw [hplain]<;>rfl) (Calls.evalArgs_plain ?_)
  exact thn hA fun us s2 ⟨vs,H2,I2,r2,q2⟩=>hm pins s2 σ H2 x vs v us Q I2 r1 r2 q2
end
end L2
namespace L2
open PySem PySem.Spec PyProof.Rows
def MtM (X:Cx) (id:String) (r:V→List V→Hp→VK→Prop):Prop:=
  ∀(pins:List (Addr×Obj)) (s:Shared) (σ:St) (H:Hp) (x:V) (xs:List V) (v:Value) (us:List Value) (Q:VK),Inv X pins σ H s→RelV x v→Vals xs us→r x xs H Q→
    wpAny (model X.prog X.w) X.A (call (.builtin id) (v::us)) (EP X pins σ Q) X.xe s
theorem Vals.one:∀{x:V} {us:List Value},Vals [x] us→∃u,us=[u]∧RelV x u
  | _,_,.cons r .nil=>⟨_,rfl,r⟩
theorem Vals.rep {xs:List V} {us:List Value} (h:Vals xs us):∀k:Nat,Vals (List.replicate k xs).flatten (List.replicate k us).flatten
  | 0=>.nil
  | k+1=>by
    rw [List.replicate_succ,List.replicate_succ,List.flatten_cons,List.flatten_cons]
    exact Vals.append h (Vals.rep h k)
theorem Zfl (its:List Value):∀(k:Nat) (acc:List Value),
    List.foldl (fun x1 x2=>x1++x2) acc.toArray (List.replicate k its.toArray)=(acc++(List.replicate k its).flatten).toArray
  | 0,acc=>by simp
  | k+1,acc=>by
    have e:acc.toArray++its.toArray=(acc++its).toArray:=by simp
    have e2:(acc++its)++(List.replicate k its).flatten=acc++(List.replicate (k+1) its).flatten:=by
      rw [List.replicate_succ,List.flatten_cons,List.append_assoc]
    rw [←e2,←Zfl its k (acc++its),←e,List.replicate_succ,List.foldl_cons]
section
variable {X:Cx} {pins:List (Addr×Obj)} {σ:St} {H:Hp} {s:Shared} {l b:Addr} {xs ys zs:List V}
theorem Inv.lset {its its':List Value} {n:Nat} {f:Array Value→Array Value} {t':Nat} (I:Inv X pins σ H s) (hH:H l=some (.lst xs))
    (e:s.heap.get? l=some { cls:=.type "list",data:=.seq its.toArray n }) (hf:f its.toArray=its'.toArray) (hv:Vals ys its') (hz:ys.length≤sizeLine) :
    Inv X pins σ (upd H l (.lst ys)) { s with heap:=s.heap.update l (Obj.mapSeq f),toks:=t' }:=by
  have q:=PySem.IsL.update e f
  rw [hf] at q
  refine I.write (x:=l) (e:=l) (by rw [hH]; exact trivial) (.inl rfl) (fun b' u hb hu=>(Heap.get?_update_other s.heap (Obj.mapSeq f) (Ne.symm hb)).trans hu) ⟨_,q⟩ ?_
  exact ⟨hz,its',_,hv,q⟩
theorem Inv.lnew {its:List Value} {t':Nat} (I:Inv X pins σ H s) (hv:Vals ys its) (hz:ys.length≤sizeLine) :
    Inv X pins σ (upd H s.heap.objs.size (.lst ys)) { s with heap:=s.heap.push { cls:=.type "list",data:=.seq its.toArray },toks:=t' }:=
  I.laid (fun _ _ q=>Heap.get?_push_of_some _ q) (Nat.le_refl _) ⟨hz,its,0,hv,Heap.get?_push_size _ rfl⟩
theorem Inv.fresh (I:Inv X pins σ H s):H s.heap.objs.size=none:=I.hok.fresh (Nat.le_refl _)
theorem Inv.lstM (I:Inv X pins σ H s) (hH:H l=some (.lst xs)):xs.length≤sizeLine∧∃(its:List Value) (n:Nat),Vals xs its∧xs.length=its.length∧s.heap.get? l=some { cls:=.type "list",data:=.seq its.toArray n }:=by
  obtain ⟨z,its,n,r,e⟩:=I.hok l _ hH
  exact ⟨z,its,n,r,r.length,e⟩
theorem Zf4 {n:Nat} (h:n≤sizeLine):Builtin.List.listTooLong n=false:=by
  unfold Builtin.List.listTooLong
  exact decide_eq_false (by omega)
end
section
variable {X:Cx}
def Znj:V→List V→Hp→VK→Prop:=fun x vs H Q=>∃l xs y,x=.ref l∧vs=[y]∧H l=some (.lst xs)∧xs.length<sizeLine∧Q .non (upd H l (.lst (xs++[y])))
theorem ZiZ:MtM X "list.append" Znj:=by
  intro pins s σ H x vs v us Q I rx rv h
  obtain ⟨l,xs,y,rfl,rfl,hH,hz,q⟩:=h
  cases rx
  obtain ⟨u,rfl,ru⟩:=rv.one
  obtain ⟨z,its,n,r,hl,e⟩:=I.lstM hH
  refine call_meets F.slot_list_append ⟨_,e,rfl⟩ F.entry_list_append (F.args_list_append_2 _ _) (PySem.list_append l its.toArray n u (by rw [List.size_toArray]; omega)) ⟨e,?_⟩
  refine ⟨.non,_,I.lset (its':=its++[u]) hH e (by simp) (r.append (.cons ru .nil)) ?_,rfl,q⟩
  rw [List.length_append,List.length_singleton]
  omega
def Zsw:V→List V→Hp→VK→Prop:=fun x vs H Q=>∃l b xs zs,x=.ref l∧vs=[.ref b]∧H l=some (.lst xs)∧H b=some (.lst zs)∧xs.length+zs.length≤sizeLine∧Q .non (upd H l (.lst (xs++zs)))
theorem ZvR:MtM X "list.extend" Zsw:=by
  intro pins s σ H x vs v us Q I rx rv h
  obtain ⟨l,b,xs,zs,rfl,rfl,hH,hB,hz,q⟩:=h
  cases rx
  obtain ⟨u,rfl,ru⟩:=rv.one
  cases ru
  obtain ⟨z,its,n,r,hl,e⟩:=I.lstM hH
  obtain ⟨z2,its2,n2,r2,hl2,e2⟩:=I.lstM hB
  have hsz:its.toArray.size+its2.toArray.size≤sizeLine:=by rw [List.size_toArray,List.size_toArray]; omega
  have hlong:¬(!its.toArray.isEmpty && Builtin.List.listTooLong (its.toArray.size+its2.toArray.size))=true:=by
    rw [Zf4 hsz,Bool.and_false]
    exact Bool.false_ne_true
  refine call_meets F.slot_list_extend ⟨_,e,rfl⟩ F.entry_list_extend (F.args_list_extend_2 _ _)
    (AutoSeq1.list_extend_list_list_0 l its.toArray n b its2.toArray n2 hlong (by rw [List.size_toArray]; omega) (by omega)) ⟨e,e2,?_⟩
  refine ⟨.non,_,I.lset (its':=its++its2) hH e (by simp) (r.append r2) ?_,rfl,q⟩
  rw [List.length_append]
  omega
def ZAE:R2:=fun x y H Q=>∃l b xs zs,x=.ref l∧y=.ref b∧H l=some (.lst xs)∧H b=some (.lst zs)∧xs.length+zs.length≤sizeLine∧∀p,H p=none→Q (.ref p) (upd H p (.lst (xs++zs)))
theorem Zu3:OpR X (binaryOp .Add) ZAE:=by
  intro pins s σ H x y v u Q I rx ry h
  obtain ⟨l,b,xs,zs,rfl,rfl,hH,hB,hz,q⟩:=h
  cases rx
  cases ry
  obtain ⟨z,its,n,r,hl,e⟩:=I.lstM hH
  obtain ⟨z2,its2,n2,r2,hl2,e2⟩:=I.lstM hB
  refine PySem.P.add_list e e2 ?_ (by rw [List.size_toArray,List.size_toArray]; omega)
  have ea:its.toArray++its2.toArray=(its++its2).toArray:=by simp
  rw [ea]
  exact ⟨.ref _,_,I.lnew (t':=s.toks) (r.append r2) (by rw [List.length_append]; omega),rfl,q _ I.fresh⟩
def ZAD:R2:=fun x y H Q=>∃l k xs,x=.ref l∧y=.int k∧H l=some (.lst xs)∧-(2 ^ 63)≤k∧k<2 ^ 63∧xs.length*k.toNat≤sizeLine∧
  ∀p,H p=none→Q (.ref p) (upd H p (.lst (List.replicate k.toNat xs).flatten))
theorem ZjJ {α:Type} (xs:List α) (k:Nat):(List.replicate k xs).flatten.length=k*xs.length:=by
  induction k with
  | zero=>simp
  | succ k ih=>rw [List.replicate_succ,List.flatten_cons,List.length_append,ih,Nat.succ_mul,Nat.add_comm]
theorem ZuY:OpR X (binaryOp .Mult) ZAD:=by
  intro pins s σ H x y v u Q I rx ry h
  obtain ⟨l,k,xs,rfl,rfl,hH,h1,h2,hz,q⟩:=h
  cases rx
  obtain ⟨t,rfl⟩:=ry
  obtain ⟨z,its,n,r,hl,e⟩:=I.lstM hH
  have hlen:its.toArray.size*k.toNat≤sizeLine:=by rw [List.size_toArray,←hl]; exact hz
  have hcap:¬its.toArray.size*k.toNat > (2 ^ 63-1)/8:=by
    have:(sizeLine:Nat)≤(2 ^ 63-1)/8:=by decide
    omega
  have hfit:¬(!Builtin.List.listFitsIndex k)=true:=by
    rw [fitsIndex_both h1 h2]
    exact Bool.false_ne_true
  have hlong:¬Builtin.List.listTooLong (its.toArray.size*k.toNat)=true:=by
    rw [Zf4 hlen]
    exact Bool.false_ne_true
  have hnew:List.foldl (fun x1 x2=>x1++x2) #[] (List.replicate (if its.toArray.isEmpty=true then 0 else k.toNat) its.toArray)=(List.replicate k.toNat its).flatten.toArray:=by
    have f0:∀m:Nat,List.foldl (fun x1 x2=>x1++x2) #[] (List.replicate m its.toArray)=(List.replicate m its).flatten.toArray:=fun m=>by
      have:=Zfl its m []
      rw [List.nil_append] at this
      exact this
    rw [f0]
    cases its with
    | nil=>simp
    | cons a r'=>rw [if_neg (by simp)]
  refine wpAny_binaryOp_repeat_ref (T:="list") (U:="int") (by decide) ⟨_,e,rfl⟩ (fun s'=>typeIs_int s' k t) noFill_list_mul F.fills_int_mul F.slot_int_rmul repeat_list F.slot_int_index.lookup
    (call_meets F.slot_int_rmul (typeIs_int s k t) F.entry_int_rmul (F.args_int_rmul_2 _ _) (int___rmul___int_list k t l its.toArray n)
      ⟨e,rfl,⟨_,e,rfl⟩,call_meets F.slot_list_mul ⟨_,e,rfl⟩ F.entry_list_mul (F.args_list_mul_2 _ _) (AutoListH.list___mul___list_int_3 l its.toArray n k t hfit hcap hlong) ⟨e,?_⟩⟩)
  rw [hnew]
  exact ⟨.ref _,_,I.lnew (t':=s.toks) (r.rep k.toNat) (by rw [ZjJ,Nat.mul_comm]; exact hz),rfl,q _ I.fresh⟩
end
section
variable {prog:Program} {w:World} {A:Around} {E:Value→Shared→Prop} {s:Shared}
theorem Zm0 {a c n:Nat} (hac:a≤c) (hc:c≤n):sliceBounds (some (a:Int)) (some (c:Int)) none n=((a:Int),(c:Int),1):=by
  simp only [sliceBounds,Option.getD_none]
  have h1:¬((a:Int)<0):=by omega
  have h2:¬((c:Int)<0):=by omega
  simp only [h1,h2,if_false,show (1:Int) > 0 by decide,if_true]
  congr 1
  · omega
  · congr 1; omega
set_option maxRecDepth 100000 in
theorem Zr4 {l b sl:Addr} {items new:Array Value} {n n2:Nat} {vl vu:Value} {a c:Nat} {Q:Unit→Shared→Prop}
    (e:s.heap.get? l=some { cls:=.type "list",data:=.seq items n }) (e2:s.heap.get? b=some { cls:=.type "list",data:=.seq new n2 }) (hne:l≠b)
    (hs:s.heap.IsSliceOf sl vl vu .none) (pl:IsPart vl (some (a:Int))) (pu:IsPart vu (some (c:Int))) (hac:a≤c) (hc:c≤items.size)
    (hsz:items.size+new.size≤sizeLine) (h:Q () { s with heap:=s.heap.update l (Obj.mapSeq fun xs=>xs.extract 0 a++new++xs.extract c xs.size) }) :
    wpAny (model prog w) A (setItem (.ref l) (.ref sl) (.ref b)) Q E s:=by
  have hl:s.heap.IsList l items:=PySem.IsL.isList e
  have hb:s.heap.IsList b new:=PySem.IsL.isList e2
  obtain ⟨os,hos,hcs,hds⟩:=id hs
  have hTs:s.TypeIs (.ref sl) "slice":=⟨os,hos,hcs⟩
  have hstep:¬((rawPart none == rawInt 0)=true):=Bool.false_ne_true
  have hsame:Builtin.List.listSameRef (.ref l) (.ref b)=false:=by
    unfold Builtin.List.listSameRef
    exact beq_eq_false_iff_ne.mpr hne
  have hmax:(max (a:Int) (c:Int)).toNat=c:=by omega
  have hz':((fun xs:Array Value=>xs.extract 0 a++new++xs.extract c xs.size) items).size≤sizeLine+1:=by
    simp only [Array.size_append,Array.size_extract]
    omega
  unfold setItem
  try with_reducible refine wpAny_holding ?_
  first | refine wpAny_bind (wpAny_pure ?_) | skip
  refine wpAny_bind (wpAny_sequenceKey hl.typeIs (by decide) ?_)
  refine wpAny_bind (wpAny_callSpecial?_slot (name:=Str.ofString "__setitem__") hl.typeIs slot_list_setitem
    (wpAny_call_entry slot_list_setitem hl.typeIs entry_list_setitem ?_ (args_list_setitem _ _ _)))
  show wpAny _ _ (Builtin.List.listSubscript? (.ref sl) >>= _) _ _ s
  refine wpAny_bind ?_
  unfold Builtin.List.listSubscript?
  refine wpAny_bind (wpAny_specialOf hTs slice_no_index ?_)
  simp only [Option.isNone_none,if_true]
  refine wpAny_pure ?_
  show wpAny _ _ (typeOf (.ref sl) >>= _) _ _ s
  refine wpAny_bind (wpAny_typeOf hTs ?_)
  first
    | rw [if_neg (by decide)]
    | refine PySem.W.KFB.if_not (by decide) ?_
  rw [listSliceParts_eq]
  refine wpAny_bind (wpAny_bind (wpAny_field hos hds (x:=.none) rfl (wpAny_bind (wpAny_listPart .none ?_))))
  rw [if_neg hstep]
  refine wpAny_bind (wpAny_field hos hds (x:=vl) rfl (wpAny_bind (wpAny_listPart pl ?_)))
  refine wpAny_bind (wpAny_field hos hds (x:=vu) rfl (wpAny_bind (wpAny_listPart pu (wpAny_pure ?_))))
  first
    | simp only [hsame,Bool.false_eq_true,if_false]
    | refine PySem.W.KFB.if_not hsame ?_
    | (dsimp only
       rw [if_neg (by rw [hsame]; exact Bool.false_ne_true)])
  refine wpAny_bind (m:=Builtin.List.listAllItems (.ref b) "must assign iterable to extended slice") ?_
  unfold Builtin.List.listAllItems
  refine wpAny_bind (wpAny_typeOf hb.typeIs ?_)
  first
    | refine PySem.W.KFB.if_so (by decide) ?_
    | rw [if_pos (by decide)]
    | simp only [beq_self_eq_true,Bool.true_or,if_true]
  unfold Builtin.List.listItems
  refine wpAny_bind (wpAny_seqItems e2 rfl (wpAny_pure ?_))
  refine wpAny_bind (wpAny_bind (wpAny_seqItems e rfl (wpAny_pure ?_)))
  refine wpAny_bind (wpAny_of_eq ((sliceIndices_raw (some (a:Int)) (some (c:Int)) none items.size (by simp)).trans (congrArg (pure:Int×Int×Int→Sem (Int×Int×Int)) (Zm0 hac hc))) ?_)
  show wpAny _ _ (if ((1:Int) == 1)=true then _ else _) _ _ s
  rw [if_pos (by decide)]
  refine wpAny_bind (wpAny_rule ?_)
  first
    | simp only [Zf4 hsz,Bool.false_eq_true,if_false]
    | refine PySem.W.KFB.if_not (Zf4 hsz) ?_
  first | refine wpAny_bind (wpAny_pure ?_) | skip
  show wpAny _ _ (updateSeq l (fun xs=>xs.extract 0 ((a:Int)).toNat++new++xs.extract (max (a:Int) (c:Int)).toNat xs.size) >>= _) _ _ s
  rw [hmax,Int.toNat_natCast]
  refine wpAny_bind (wpAny_updateSeq (hz:=Nat.le_trans (Nat.le_add_right _ _) hsz) (_hz':=hz') e rfl ?_)
  refine wpAny_bind (wpAny_letGo ?_)
  first
    | exact wpAny_bind (wpAny_pure (wpAny_pure ⟨.none,rfl,wpAny_pure h⟩))
    | exact wpAny_pure ⟨.none,rfl,wpAny_pure h⟩
end
section
variable {X:Cx}
end
end L2
namespace Att
open PySem PySem.W PySem.Calls PyProof.Rows
theorem Zhu {P:Params} {h:Heap}:∀(ns:List Int) (vs:List Value),WellAll P h vs (ns.map WData.int)→IntsAre vs ns:=by
  intro ns
  induction ns with
  | nil=>
    intro vs w
    rw [List.map_nil] at w
    cases w
    exact .nil
  | cons n ns ih=>
    intro vs w
    rw [List.map_cons] at w
    cases w with
    | cons a b=>
      cases a
      exact .cons _ _ (ih _ b)
theorem Zod {l:OpenLaw} {n:Nat} (hn:l.most=some n) {P:Params} {h:Heap} {args:List WData} {vals:List Value}
    (hpre:l.row.toRowW.claim.pre args=true) (hwl:WellAll P h vals args) :
    ∃a vs ns,vals=[Value.ref a]∧args=[WData.list (ns.map WData.int)]∧h.get? a=some { cls:=.type "list",data:=.seq vs.toArray }∧IntsAre vs ns∧ns.length≤n:=by
  have hsh:WShape.hasAll [] args [.list .int]=true:=(pre_splitW hpre).1
  have hc:l.pre.holds [] { args:=args }=true:=(pre_splitW hpre).2
  obtain ⟨d,r,rfl,h1,h2⟩:=hasAllW_cons hsh
  obtain rfl:=hasAllW_nil h2
  obtain ⟨xs,rfl,h3⟩:=hasW_list h1
  obtain ⟨ns,rfl⟩:=items_int h3
  have hlen:ns.length≤n:=by
    unfold OpenLaw.pre at hc
    have h4:(WTm.not (.lt (.lit (.int (n:Int))) (.len (.arg 0)))).holds [] { args:=[.list (ns.map .int)] }=true:=by
      have h4:=(holds_andW hc).1
      rw [hn] at h4
      exact h4
    have h5:=condW_of h4 (w_not (w_lt w_lit (w_len_list (w_arg rfl))))
    rw [List.length_map] at h5
    refine Nat.le_of_not_lt fun q=>?_
    have q':(n:Int)<((ns.length:Nat):Int):=by omega
    first
      | (rw [decide_eq_true q'] at h5; exact absurd h5 (by decide))
      | (simp at h5; omega)
  cases hwl with
  | cons w1 w2=>
    cases w2
    cases w1 with
    | list ho hall=>exact ⟨_,_,ns,rfl,rfl,ho,Zhu ns _ hall,hlen⟩
theorem Zoe (l:OpenLaw) (args:List WData):l.row.toRowW.claim.post args (.bool true) args=true:=
  postW_of (r:=l.row.toRowW) (X:=(true == true))
    (show WShape.has [] (.bool true) .bool=true by first | rfl | decide | simp [WShape.has,WShape.arms,WShape.armsAll])
    (show (WTm.eq .res (.lit (.bool true))).value [] { args:=args,res:=some (.bool true),after:=args }=some (.bool (true == true)) from w_eq_bool (w_res rfl) w_lit) rfl
theorem attach_call {l:OpenLaw} {n:Nat} {q:Program} {loose:List Str} {XP:(Str→Option Value)→Heap→Prop} {YP:World→Heap→Prop} {d:DefRec}
    (hn:l.most=some n) (hdf:d.params.defaults=[])
    (call:∀(w:World) (s₀ s₁:Shared) (mg mb:Str→Option Value) (fa:Addr) (o:Obj) (pm cd doc:Value) (a:Addr) (vs:List Value) (ns:List Int),
      Ground q loose [] XP w s₀ mg mb s₁.heap→YP w s₁.heap→
      s₁.heap.get? fa=some o→o.data=.func (docDef d.name d.params d.body d.scope pm cd doc)→s₁.heap.CodeRec cd d.name→mg d.name=some (.ref fa)→
      s₁.heap.get? a=some { cls:=.type "list",data:=.seq vs.toArray }→IntsAre vs ns→ns.length≤n→s₁.gens=#[]→
      codeAny (model l.prog w) callerA (.call (.ref fa) ⟨[.ref a],[]⟩) (fun r s'=>r=.ok (.ret (.bool true))∧OldK s₁.heap s'.heap∧s'.os=s₁.os∧AllBare s'.gens) s₁) :
    WalkO q loose XP YP l.row.toRowW d [] (fun f vs=>PySem.call f vs):=by
  intro w s₀ s₁ mg mb G Y fa o pm cd doc dV kV ho hd hcd hD hmg hg args vals as hpre hlay hrd hwl hlo
  obtain rfl:dV=.none:=Dflts.none hD hdf
  obtain rfl:kV=.none:=Dflts.noKw hD
  obtain ⟨a,vs,ns,rfl,rfl,hobj,hints,hlen⟩:=Zod hn hpre hwl
  refine enter_call (codeAny_mono (call w s₀ s₁ mg mb fa o pm cd doc a vs ns G Y ho (fd_plain hd) hcd hmg hobj hints hlen hg) fun r s' hq=>?_)
  obtain ⟨rfl,h2,h3,h4⟩:=hq
  exact ⟨.inl ⟨.bool true,.bool true,[],rfl,fun _=>rfl,.bool true,Zoe l _,fun _=>⟨List.Pairwise.nil,fun _ hm=>(nomatch hm)⟩⟩,h2,h3,h4⟩
section
variable {prog:Program} {w:World} {A:Around} {E:Value→Shared→Prop} {s:Shared} {K:Frag}
end
end Att
namespace L2
open PySem PySem.Spec PyProof.Rows
theorem ZiK:∀{vs:List Value} {ns:List Int},IntsAre vs ns→Vals (ns.map V.int) vs
  | _,_,.nil=>.nil
  | _,_,.cons n t h=>.cons ⟨t,rfl⟩ (ZiK h)
def Ztt (H:Hp):Prop:=∀b,H b=none∨∃o xs,H b=some (.frz o (.lst xs))
theorem Zrl {P:Program} {w:World} {K:PySem.W.Frag} {mg mb:Str→Option Value} {CX:CXT} {k:Nat} {fa a:Addr} {fd:FuncData} {x:Str} {sp:Sp} {s₁:Shared} {vs:List Value} {ns:List Int}
    (KX:K.In s₁.heap) (hns:s₁.heap.Ns mainGlobals mg) (hb:s₁.heap.Ns builtinsNs mb) (hbb:∀x:Str,x≠"__name__"→mb x=bootBuiltins x) (hlim:s₁.heap.NoLimit) (hg:s₁.gens=#[])
    (ha:s₁.heap.get? a=some { cls:=.type "list",data:=.seq vs.toArray }) (hi:IntsAre vs ns) (hl:ns.length≤sizeLine) (hr:Room k callerA)
    (F:∀base:Heap,K.In base→base.Ns mainGlobals mg→FnOk P w K mg base CX k fa fd [x] sp) (hbind:∀(s:Shared) (u:Value),BindsTo s fd ⟨[u],[]⟩ [(x,u)])
    (hsp:∀H:Hp,Ztt H→SqL K H a (ns.map V.int)→sp [.ref a] H (fun v _=>v=.bl true) fun _ _ _=>False)
    (hCX:∀H e s',CX [] H s₁ (fun _ _ _=>False) e s'→False) :
    codeAny (model P w) callerA (.call (.ref fa) ⟨[.ref a],[]⟩) (fun r s'=>r=.ok (.ret (.bool true))∧OldK s₁.heap s'.heap∧s'.os=s₁.os∧AllBare s'.gens) s₁:=by
  have rv:=ZiK hi
  have lenV:=hi.length
  have core:∀H:Hp,Ztt H→SqL K H a (ns.map V.int)→HOk P w H s₁.heap→(∀b,H b≠none→b=a)→(H a≠none→K.lookup a=none)→
      codeAny (model P w) callerA (.call (.ref fa) ⟨[.ref a],[]⟩) (fun r s'=>r=.ok (.ret (.bool true))∧OldK s₁.heap s'.heap∧s'.os=s₁.os∧AllBare s'.gens) s₁:=by
    intro H hO hS hok hA hK
    have base_of:∀{b:Addr} {o:Obj},s₁.heap.get? b=some o→H b=none→(ZjQ s₁.heap H).get? b=some o:=fun e n=>Zrp e n
    have noA:∀{b:Addr} {o:Obj} {es:Array DictEntry} {ep:Nat},s₁.heap.get? b=some o→o.data=.dict es ep→H b=none:=fun {b o es ep} e d=>by
      cases q:H b with
      | none=>rfl
      | some u=>
        have e':b=a:=hA b (by rw [q]; simp)
        subst e'
        rw [ha] at e; cases e
        have d':Data.seq vs.toArray _=Data.dict es ep:=d
        cases d'
    have nsK:∀{b:Addr} {m:Str→Option Value},s₁.heap.Ns b m→(ZjQ s₁.heap H).Ns b m:=fun {b m} ⟨o,es,ep,e,d,r⟩=>⟨o,es,ep,base_of e (noA e d),d,r⟩
    have hKb:K.In (ZjQ s₁.heap H):=fun b o e=>base_of (KX b o e) (by
      cases q:H b with
      | none=>rfl
      | some u=>
        have e':b=a:=hA b (by rw [q]; simp)
        subst e'
        rw [hK (by rw [q]; simp)] at e; cases e)
    have hM:Mod K mg (ZjQ s₁.heap H):=⟨hKb,nsK hns,⟨mb,nsK hb,hbb⟩,let ⟨mc,h1,h2⟩:=hlim; ⟨mc,nsK h1,h2⟩⟩
    have e0:Env0 P w K mg (ZjQ s₁.heap H) callerA [] s₁ H:=⟨rfl,hM,fun b o e=>ZsR e,Nat.le_of_eq (Zot _ _),trivial,fun b hb=>absurd (show b∈([]:List Addr) from hb) (by simp),hok,.of_eq hg⟩
    refine codeAny_mono ((F _ hKb (nsK hns)).run callerA [] s₁ H ⟨[.ref a],[]⟩ [.ref a] [.ref a] _ _ hr e0 (hbind s₁ (.ref a)) (.cons rfl .nil) (hsp H hO hS)) fun r s' h=>?_
    cases r with
    | error e=>exact (hCX H e s' h).elim
    | ok fl=>
      cases fl with
      | next=>exact False.elim h
      | brk=>exact False.elim h
      | cont=>exact False.elim h
      | ret u=>
        obtain ⟨v,H',os,bare,un,hok',r',q⟩:=h
        have q':v=.bl true:=q
        subst q'
        obtain rfl:u=Value.bool true:=r'
        refine ⟨rfl,OldK.of_keep fun b o e=>?_,os,bare⟩
        cases q:H b with
        | none=>exact un.keep b o e q (by intro z; exact absurd (show b∈([]:List Addr) from z) (by simp)) (by simp)
        | some u=>
          rcases hO b with z | ⟨ob,xs,z⟩
          · rw [q] at z; cases z
          · have z2:=un.frzs b ob _ z
            obtain ⟨e1,_⟩:=hok b _ z
            obtain ⟨e2,_⟩:=hok' b _ z2
            rw [e] at e1; cases e1
            exact e2
  cases hk:K.lookup a with
  | some o=>
    have e:=KX a o hk
    rw [ha] at e
    cases e
    refine core (fun _=>none) (fun _=>.inl rfl) (.inr ⟨_,vs.toArray,_,hk,rfl,rfl,rfl,by rw [List.size_toArray,lenV]; exact hl,by simpa using rv⟩) (fun b u z=>by have z':(none:Option HO)=some u:=z; cases z') (fun b z=>absurd rfl z) fun z=>absurd rfl z
  | none=>
    refine core (fun b=>if b=a then some (.frz { cls:=.type "list",data:=.seq vs.toArray } (.lst (ns.map V.int))) else none) (fun b=>?_) (.inl (.inr ⟨{ cls:=.type "list",data:=.seq vs.toArray },if_pos rfl⟩)) (fun b u z=>?_) (fun b z=>?_) fun _=>hk
    · by_cases hb:b=a
      · exact .inr ⟨_,_,if_pos hb⟩
      · exact .inl (if_neg hb)
    · by_cases hb:b=a
      · have z':=(if_pos hb).symm.trans z
        cases z'
        subst hb
        exact ⟨ha,by rw [List.length_map]; exact hl,vs,_,rv,ha⟩
      · have z':=(if_neg hb).symm.trans z
        cases z'
    · by_cases hb:b=a
      · exact hb
      · exact absurd (if_neg hb) z
end L2
namespace L2
open PySem PySem.Spec PyProof.Rows
theorem Zr7 {l:PySem.W.OpenLaw} {n k:Nat} {q:Program} {loose:List Str} {XP:(Str→Option Value)→Heap→Prop} {YP:World→Heap→Prop} {d:DefRec} {K:Params→PySem.W.Frag} {CX:World→CXT} {sp:World→Sp} {x:Str}
    (hn:l.most=some n) (hn2:n≤sizeLine) (hdf:d.params.defaults=[]) (hr:Room k callerA)
    (hY:∀(w:World) (h:Heap),YP w h→(K w.params).In h)
    (F:∀(w:World) (mg:Str→Option Value) (fa:Addr) (h:Heap),(K w.params).In h→h.Ns mainGlobals mg→mg d.name=some (.ref fa)→
      ∃fd:FuncData,(∀(s:Shared) (u:Value),BindsTo s fd ⟨[u],[]⟩ [(x,u)])∧
        ∀base:Heap,(K w.params).In base→base.Ns mainGlobals mg→FnOk l.prog w (K w.params) mg base (CX w) k fa fd [x] (sp w))
    (hsp:∀(w:World) (H:Hp) (a:Addr) (ns:List Int),ns.length≤n→Ztt H→SqL (K w.params) H a (ns.map V.int)→sp w [.ref a] H (fun v _=>v=.bl true) fun _ _ _=>False)
    (hCX:∀(w:World) (H:Hp) (s:Shared) (e:Value) (s':Shared),CX w [] H s (fun _ _ _=>False) e s'→False) :
    PySem.W.WalkO q loose XP YP l.row.toRowW d [] (fun f vs=>PySem.call f vs):=by
  refine Att.attach_call hn hdf fun w s₀ s₁ mg mb fa o pm cd doc a vs ns G Y ho hd hcd hmg hobj hints hlen hg=>?_
  have KX:=hY w _ Y
  obtain ⟨fd,hb,hF⟩:=F w mg fa _ KX G.T.g hmg
  exact Zrl KX G.T.g G.T.b G.T.builtins G.T.nolimit hg hobj hints (Nat.le_trans hlen hn2) hr hF hb (fun H hO hS=>hsp w H a ns hlen hO hS) fun H e s'=>hCX w H s₁ e s'
end L2
namespace L2
open PySem PySem.Spec PyProof.Rows
def ZnI (s:Stmt) (j:Nat):Stmt:=match s with
  | .ClassDef _ _ _ body _ _ _ _ _ _ _=>body.getD j (.Pass ⟨0,0,0,0⟩)
  | _=>.Pass ⟨0,0,0,0⟩
def Zr (s:Stmt):Arguments:=match s with
  | .FunctionDef _ a _ _ _ _ _ _ _ _=>a
  | _=>{ posonlyargs:=[],args:=[],vararg:=none,kwonlyargs:=[],kw_defaults:=[],kwarg:=none,defaults:=[] }
def Zn (s:Stmt):List Stmt:=match s with
  | .FunctionDef _ _ b _ _ _ _ _ _ _=>b
  | _=>[]
def Zg (s:Stmt):Scope:=match s with
  | .FunctionDef _ _ _ _ _ _ sc _ _ _=>sc
  | _=>{ kind:=.function,names:=[],isGenerator:=false,isCoroutine:=false }
abbrev CX0:CXT:=fun _ _ _ _ _ _=>False
abbrev E0:XK:=fun _ _ _=>False
theorem ZqY {X:Cx}:ZgV CX0 X E0:=fun _ _ _ _ _ _ _ h=>h.elim
structure Fun (K:PySem.W.Frag) (x qual:Str) (st:Stmt) (f:Addr) (fd:FuncData):Prop where
  ex:∃(oc:Value) (od:Option Addr) (kV doc pm:Value) (an:Option Addr) (cdv ct:Value) (osl:Array (Option Value)),
    fd=PySem.W.fnOf x qual (Zr st) (Zn st) (Zg st) .none kV doc pm an cdv ct∧K.lookup f=some ⟨oc,od,.func fd,osl⟩∧PySem.W.codeIn K cdv qual=true
  kp:PySem.W.keepIn K (.ref f)=true
section
variable {P:Program} {w:World} {K:PySem.W.Frag} {mg:Str→Option Value} {base:Heap}
theorem Fun.ok {x qual:Str} {st:Stmt} {f:Addr} {fd:FuncData} {N ps:List Str} {k:Nat} {sp:Sp} (F:Fun K x qual st f fd) (S:Zq N ps (Zg st)) (len:∀vs H Q E,sp vs H Q E→vs.length=ps.length)
    (hbody:∀(cdv:Value) (A:Around) (outer:List Env) (s:Shared) (H:Hp) (vs:List V) (Q:VK) (E:XK),Room k (A.deeper (envOfC qual (Zg st) s.heap.objs.size f cdv))→sp vs H Q E→
      ∃t,PSs (Zig CX0 P w K mg base N qual (Zg st) f cdv A outer s H E).nox (Zn st) t∧t { nx:=fun _ H'=>Q .non H',rt:=Q } (start N vs) H):FnOk P w K mg base CX0 (k+1) f fd ps sp:=by
  obtain ⟨oc,od,kV,doc,pm,an,cdv,ct,osl,rfl,lk,hcd⟩:=F.ex
  refine Zxg lk hcd S len fun A outer s H vs Q E hr hsp=>?_
  obtain ⟨t,h,q⟩:=hbody cdv A outer s H vs Q E hr hsp
  exact ⟨t,h.nox,q⟩
theorem Fun.binds {x qual:Str} {st:Stmt} {f:Addr} {fd:FuncData} {ps:List Str} (F:Fun K x qual st f fd)
    (h:∀(kV doc pm:Value) (an:Option Addr) (cdv ct:Value) (us:List Value),us.length=ps.length→bindArgs (PySem.W.fnOf x qual (Zr st) (Zn st) (Zg st) .none kV doc pm an cdv ct) ⟨us,[]⟩=pure (ps.zip us)):Binds K fd ps []:=by
  obtain ⟨oc,od,kV,doc,pm,an,cdv,ct,osl,rfl,lk,hcd⟩:=F.ex
  exact .all (h kV doc pm an cdv ct)
theorem Zy {x qual:Str} {st:Stmt} {f:Addr} {oc:Value} {od an:Option Addr} {osl:Array (Option Value)} {kV doc pm cdv ct:Value} (l:K.lookup f=some ⟨oc,od,.func (PySem.W.fnOf x qual (Zr st) (Zn st) (Zg st) .none kV doc pm an cdv ct),osl⟩)
    (c:PySem.W.codeIn K cdv qual=true) (k:PySem.W.keepIn K (.ref f)=true):Fun K x qual st f (PySem.W.fnOf x qual (Zr st) (Zn st) (Zg st) .none kV doc pm an cdv ct):=⟨⟨oc,od,kV,doc,pm,an,cdv,ct,osl,rfl,l,c⟩,k⟩
end
section
variable {X:Cx}
end
end L2
namespace L2
open PySem PySem.Spec PyProof.Rows
section
variable {P:Program} {w:World} {K:PySem.W.Frag} {mg:Str→Option Value} {base:Heap}
def Zl (K:PySem.W.Frag) (mg:Str→Option Value) (x:Str) (st:Stmt) (ps:List Str):Prop:=
  ∃(f:Addr) (fd:FuncData),Fun K x x st f fd∧Binds K fd ps []∧mg x=some (.ref f)
def Def (P:Program) (w:World) (K:PySem.W.Frag) (mg:Str→Option Value) (base:Heap) (k:Nat) (x:Str) (ps:List Str) (sp:Sp):Prop:=
  ∃(f:Addr) (fd:FuncData),FnOk P w K mg base CX0 k f fd ps sp∧Binds K fd ps []∧PySem.W.keepIn K (.ref f)=true∧mg x=some (.ref f)
end
section
variable {X:Cx} {k:Nat} {x:Str} {ps:List Str} {sp:Sp} {p pos:Pos} {e:Expr} {es:List Expr} {t:TA}
theorem ZqV {j:Nat} (D:Def X.prog X.w X.K X.mg X.base k x ps sp) (hr:Room j X.A) (hj:k≤j) (ha:PA X (e::es) t) (hg:Gl X x:=by rfl) (hdb:(x == ("__debug__":Str))=false:=by decide)
    (he:starEach (e::es) X.env=(false,eval e X.env)::starEach es X.env:=by rfl) (hpl:(backTo pos (starEach es X.env)).any (·.1)=false:=by rfl):PE X (.Call (.Name x p) (e::es) [] pos) (ZtJ sp [] E0 t):=by
  obtain ⟨f,fd,F,b,kp,m⟩:=D
  exact ZsN F (hr.mono hj) hg m kp b .nil ZqY ha hdb he hpl
theorem ZsK {i:Int} (h:∃t,X.mg x=some (.int i t)) (hg:Gl X x:=by rfl) (hd:(x == ("__debug__":Str))=false:=by decide):PE X (.Name x pos) (tC (.int i)):=by
  obtain ⟨t,h⟩:=h
  exact Zno hg h ⟨t,rfl⟩ hd
def Zxu (_ j:Int):Prop:=0<j∧j.natAbs.log2<9000
theorem ZqZ:OpR X (binaryOp .FloorDiv) (rI Zxu fun i j=>.int (i/j)):=opI fun i j _ _ _ _ _ hc q=>by
  have h1:(0:Int)<j:=hc.1
  exact floordiv_int (by omega) (by rw [Int.fdiv_eq_ediv_of_nonneg i (by omega)]; exact q) (.inl (PyProof.noPylong_of_log2 hc.2))
theorem Zmj:CallR X (.builtin "isinstance") (fun xs H Q=>∃(x:V) (n:String) (t:Value) (b:Bool),xs=[x,.ty n]∧Zgu X.K H x t∧PySem.W.kitOne X.K t (.type n)=some b∧Q (.bl b) H):=by
  intro pins s σ H xs us Q I r h
  obtain ⟨x,n,t,b,rfl,ty,e,q⟩:=h
  cases r with
  | cons rx rr=>
    cases rr with
    | cons ry rr=>
      cases rr
      cases ry
      exact Zoq I rx ty e fun tk=>⟨.bl b,H,I.tok tk,rfl,q⟩
theorem ZwH {x:Str} {n:String} {pos:Pos} (hm:X.mg x=none) (hv:bootBuiltins x=some (.type n)) (hg:Gl X x:=by rfl) (hn:x≠"__name__":=by decide) (hd:(x == ("__debug__":Str))=false:=by decide):PE X (.Name x pos) (tC (.ty n)):=
  ZsO hg hm hv rfl hn hd
end
end L2
set_option maxHeartbeats 4000000
namespace L2
open PySem PySem.Spec PyProof.Rows
theorem Zgk {scope:Scope} {env:Env} (h:∀x∈scope.names,x.2=.free→∃c,env.cells.lookup x.1=some c) :
    ∃cl:List (Str×Addr),closureFor scope env=pure cl∧(∀n c,(n,c)∈cl→env.cells.lookup n=some c)∧∀x∈scope.names,x.2=.free→∃c,(x.1,c)∈cl:=by
  have key:∀(names:List (Str×NameKind)) (acc:List (Str×Addr)),(∀x∈names,x.2=.free→∃c,env.cells.lookup x.1=some c)→(∀n c,(n,c)∈acc→env.cells.lookup n=some c)→
      ∃cl:List (Str×Addr),(forIn names acc fun (x:Str×NameKind) (cs:List (Str×Addr))=>if (x.2 == NameKind.free)=true then (do let c ←cellOf env x.1; pure (ForInStep.yield ((x.1,c)::cs)):Sem _) else pure (ForInStep.yield cs))=(pure cl:Sem _)∧
        (∀n c,(n,c)∈cl→env.cells.lookup n=some c)∧(∀p∈acc,p∈cl)∧∀x∈names,x.2=.free→∃c,(x.1,c)∈cl:=by
    intro names
    induction names with
    | nil=>intro acc _ ha; exact ⟨acc,rfl,ha,fun _ p=>p,fun x hx=>nomatch hx⟩
    | cons y r ih=>
      intro acc hx ha
      obtain ⟨n,k⟩:=y
      by_cases hk:k=.free
      · subst hk
        obtain ⟨c,hc⟩:=hx (n,.free) List.mem_cons_self rfl
        obtain ⟨cl,e,h1,h2,h3⟩:=ih ((n,c)::acc) (fun x z=>hx x (List.mem_cons_of_mem _ z)) (fun m d z=>by
          rcases List.mem_cons.mp z with z | z
          · cases z; exact hc
          · exact ha m d z)
        refine ⟨cl,?_,h1,fun p z=>h2 p (List.mem_cons_of_mem _ z),fun x z zf=>?_⟩
        · have ec:cellOf env n=pure c:=by unfold cellOf; rw [hc]
          rw [List.forIn_cons]
          simp only [beq_self_eq_true,if_true,ec,pure_bind]
          exact e
        · rcases List.mem_cons.mp z with z | z
          · cases z; exact ⟨c,h2 _ List.mem_cons_self⟩
          · exact h3 x z zf
      · obtain ⟨cl,e,h1,h2,h3⟩:=ih acc (fun x z=>hx x (List.mem_cons_of_mem _ z)) ha
        refine ⟨cl,?_,h1,h2,fun x z zf=>?_⟩
        · have hb:(k == NameKind.free)=false:=by simpa using hk
          rw [List.forIn_cons]
          simp only [hb,Bool.false_eq_true,if_false,pure_bind]
          exact e
        · rcases List.mem_cons.mp z with z | z
          · cases z; exact absurd zf hk
          · exact h3 x z zf
  obtain ⟨cl,e,h1,_,h3⟩:=key scope.names [] h (fun n c z=>nomatch z)
  refine ⟨cl,?_,h1,h3⟩
  simp only [closureFor]
  rw [e]
  rfl
def Cx.comp (X:Cx) (scope:Scope) (N':List Str) (cl:List (Str×Addr)) (C:Addr) (s₀:Shared) (H₀:Hp) (fp:List Addr):Cx where
  prog:=X.prog
  w:=X.w
  K:=X.K
  mg:=X.mg
  base:=X.base
  A:=X.A
  N:=N'
  s₀:=s₀
  H₀:=H₀
  env:=compEnvC scope cl C X.env
  outer:=X.stack
  stack:=X.stack
  ex:=fp
  fn:=fun _=>false
  calm:=X.calm
  pn:=[]
  xe:=fun _ _=>False
def inner (src:List Nat) (σ:St) (x:Option V):St:=x::src.map fun j=>(σ[j]?).join
theorem Zh5 {α:Type} {l:List (Str×α)} {n:Str} {c:α} (h:(n,c)∈l):∃d,l.lookup n=some d:=by
  induction l with
  | nil=>cases h
  | cons y r ih=>
    obtain ⟨m,d⟩:=y
    by_cases e:n == m
    · exact ⟨d,by rw [List.lookup_cons,e]⟩
    · rcases List.mem_cons.mp h with z | z
      · cases z; exact absurd (beq_self_eq_true n) e
      · obtain ⟨d',q⟩:=ih z
        exact ⟨d',by rw [List.lookup_cons,Bool.eq_false_iff.mpr e]; exact q⟩
theorem Zd6 {env:Env} {n:Str}:∀{names:List (Str×NameKind)} {k:NameKind},(∀y∈names,y.2≠.cell)→
    (names.map fun (n,k)=>if (k == NameKind.free && env.scope.kind == .function && env.kindOf n == some .cell) then (n,NameKind.cell) else (n,k)).lookup n=some k→(k=.cell∨k=.free)→(n,NameKind.free)∈names
  | [],_,_,h,_=>by simp at h
  | (m,j)::r,k,hc,h,hk=>by
    have nc:j≠.cell:=hc (m,j) List.mem_cons_self
    rw [List.map_cons] at h
    by_cases e:n == m
    · have en:n=m:=by simpa using e
      subst en
      by_cases cnd:(j == NameKind.free && env.scope.kind == .function && env.kindOf n == some .cell)=true
      · have:j=.free:=by
          simp only [Bool.and_eq_true,beq_iff_eq] at cnd
          exact cnd.1.1
        rw [this]
        exact List.mem_cons_self
      · simp only [cnd] at h
        rw [if_neg (by simp),List.lookup_cons,beq_self_eq_true] at h
        cases h
        rcases hk with rfl | rfl
        · exact absurd rfl nc
        · exact List.mem_cons_self
    · refine List.mem_cons_of_mem _ (Zd6 (env:=env) (k:=k) (fun y hy=>hc y (List.mem_cons_of_mem _ hy)) ?_ hk)
      rw [List.lookup_cons] at h
      have e2:(n == (if (j == NameKind.free && env.scope.kind == .function && env.kindOf m == some .cell)=true then (m,NameKind.cell) else (m,j)).1)=false:=by
        split<;>exact Bool.eq_false_iff.mpr e
      rw [e2] at h
      exact h
theorem ZfV {env:Env}:∀{names:List (Str×NameKind)} {x:Str},names.lookup x=some .free→
    (names.map fun (n,k)=>if (k == NameKind.free && env.scope.kind == .function && env.kindOf n == some .cell) then (n,NameKind.cell) else (n,k)).lookup x=some .cell∨
    (names.map fun (n,k)=>if (k == NameKind.free && env.scope.kind == .function && env.kindOf n == some .cell) then (n,NameKind.cell) else (n,k)).lookup x=some .free
  | [],_,h=>by simp at h
  | (n,k)::r,x,h=>by
    have ih:=@ZfV env r x
    rw [List.map_cons]
    cases hx:x == n with
    | true=>
      simp only [List.lookup_cons,hx] at h
      cases h
      by_cases hc:(NameKind.free == NameKind.free && env.scope.kind == .function && env.kindOf n == some .cell)=true
      · left
        show List.lookup x ((if (NameKind.free == NameKind.free && env.scope.kind == .function && env.kindOf n == some .cell)=true then (n,NameKind.cell) else (n,NameKind.free))::_)=_
        rw [if_pos hc,List.lookup_cons,hx]
      · right
        show List.lookup x ((if (NameKind.free == NameKind.free && env.scope.kind == .function && env.kindOf n == some .cell)=true then (n,NameKind.cell) else (n,NameKind.free))::_)=_
        rw [if_neg hc,List.lookup_cons,hx]
    | false=>
      simp only [List.lookup_cons,hx] at h
      have e:∀t,List.lookup x ((if (k == NameKind.free && env.scope.kind == .function && env.kindOf n == some .cell)=true then (n,NameKind.cell) else (n,k))::t)=List.lookup x t:=fun t=>by
        split<;>rw [List.lookup_cons,hx]
      rcases ih h with q | q
      · exact .inl ((e _).trans q)
      · exact .inr ((e _).trans q)
section
variable {X:Cx} {x:Str} {px:Pos} {iter elt:Expr} {scope:Scope} {pos:Pos} {N':List Str} {src:List Nat} {wi:TI} {te:TE}
structure ZaW (scope sc:Scope) (x:Str) (N N':List Str) (src:List Nat):Prop where
  kind:scope.kind=.function
  cell:∀y∈scope.names,y.2≠.cell
  loc:∀y∈scope.names,y.2=.local→scope.names.lookup y.1=some .local
  own:scope.names.lookup x=some .local
  free:∀y∈scope.names,y.2=.free→sc.names.lookup y.1=some .cell
  nd:N'.Nodup
  names:N'=x::src.map fun j=>N.getD j x
  all:∀j∈src,j<N.length
  fr:∀j∈src,sc.names.lookup (N.getD j x)=some .cell∧scope.names.lookup (N.getD j x)=some .free
theorem ZmX {pins:List (Addr×Obj)} {σ:St} {H:Hp} {s s':Shared} {C:Addr} {cl:List (Str×Addr)} {fp:List Addr} (I:Inv X pins σ H s) (S:ZaW scope X.env.scope x X.N N' src)
    (hcl:∀n c,(n,c)∈cl→X.env.cells.lookup n=some c) (hcl2:∀y∈scope.names,y.2=.free→∃c,(y.1,c)∈cl) (hC:s.heap.objs.size≤C) (hfp:∀b∈fp,ZiI X pins H b) (hfl:∀b∈fp,b<s.heap.objs.size)
    (hn:∃m,s'.heap.Ns C m) (hk:∀b o,s.heap.get? b=some o→s'.heap.get? b=some o) (ho:s'.os=s.os) (hg:s'.gens=s.gens) :
    Inv (X.comp scope N' cl C s H fp) [] (inner src σ none) H s':=by
  have cll:∀n c,cl.lookup n=some c→X.env.cells.lookup n=some c:=fun n c e=>hcl n c (PySem.mem_of_lookup e)
  refine ⟨⟨I.ok.mod,S.kind,I.ok.glob,I.ok.blt,hC,fun y z c h1 h2=>I.ok.inj y z c (cll _ _ h1) (cll _ _ h2),fun y hy=>?_,fun y c h=>absurd (show false=true from h) (by decide),I.ok.hd,I.ok.frames,.inl rfl,fun b hb=>⟨Nat.ne_of_lt (Nat.lt_of_lt_of_le (hfl b hb) hC),fun y c e=>(hfp b hb).2.2.2.2.1 y c (cll y c e)⟩,
    I.bs,Nat.le_trans I.ok.bsz I.sz,fun b o e hb=>?_,fun b hb=>?_,I.stack,I.stkFree⟩,ho,?_,Un.kept hk,?_,fun y c e=>?_,I.hok.fresh hC,fun y c e=>I.freeC y c (cll y c e),fun p hp=>absurd (show p∈([]:List (Addr×Obj)) from hp) (by simp),I.hok.kept hk,?_⟩
  · have hy':(relabel scope X.env).names.lookup y=some .cell∨(relabel scope X.env).names.lookup y=some .free:=hy
    have:(y,NameKind.free)∈scope.names:=by
      rcases hy' with h | h
      · exact Zd6 S.cell h (.inl rfl)
      · exact Zd6 S.cell h (.inr rfl)
    obtain ⟨c,hc⟩:=hcl2 _ this rfl
    exact Zh5 hc
  · rcases (hfp b hb).2.2.2.1 with z | z
    · exact I.ok.noex b o e z
    · exact absurd (Nat.lt_of_lt_of_le (Heap.lt_size e) (Nat.le_trans I.ok.bsz z)) (Nat.lt_irrefl _)
  · intro hs
    rcases List.mem_cons.mp (I.stkSub b hs) with z | z
    · exact (hfp b hb).2.1 z
    · exact (hfp b hb).2.2.1 z
  · rw [hg]; exact I.bare
  · obtain ⟨m,hm⟩:=hn
    refine ⟨m,hm,fun i y v h1 h2 h3=>?_⟩
    have h1':N'[i]?=some y:=h1
    rw [S.names] at h1'
    cases i with
    | zero=>cases (show (some none:Option (Option V))=some (some v) from h2)
    | succ k=>
      rw [List.getElem?_cons_succ,List.getElem?_map] at h1'
      have h2':(src.map fun j=>(σ[j]?).join)[k]?=some (some v):=h2
      rw [List.getElem?_map] at h2'
      cases e:src[k]? with
      | none=>rw [e] at h1'; cases h1'
      | some j=>
        rw [e] at h1' h2'
        have hj:=List.mem_of_getElem? e
        have ey:X.N.getD j x=y:=Option.some.inj h1'
        have ev:(σ[j]?).join=some v:=Option.some.inj h2'
        have eN:X.N[j]?=some y:=by
          have:=S.all j hj
          rw [List.getElem?_eq_getElem this]
          rw [List.getD_eq_getElem?_getD,List.getElem?_eq_getElem this] at ey
          exact congrArg some ey
        have eσ:σ[j]?=some (some v):=by
          cases q:σ[j]? with
          | none=>rw [q] at ev; cases ev
          | some z=>rw [q] at ev; exact congrArg some ev
        obtain ⟨k1,k2⟩:=S.fr j hj
        rw [ey] at k1 k2
        obtain ⟨mo,hmo,hl⟩:=I.loc
        obtain ⟨u,r,l⟩:=hl j y v eN eσ (.inr (.inl k1))
        refine ⟨u,r,?_⟩
        rcases l with ⟨z,_⟩ | ⟨_,c,hc,hcell⟩
        · have z':X.env.scope.names.lookup y=some .local:=z
          rw [k1] at z'; cases z'
        · obtain ⟨c',hc'⟩:=hcl2 _ (PySem.mem_of_lookup k2) rfl
          obtain ⟨d,hd⟩:=Zh5 hc'
          have ed:d=c:=by
            have:=cll _ _ hd
            rw [hc] at this
            exact (Option.some.inj this).symm
          subst ed
          obtain ⟨o,e1,e2⟩:=hcell
          refine .inr ⟨?_,d,hd,o,hk _ _ e1,e2⟩
          rcases h3 with z | z | z
          · have z':(relabel scope X.env).names.lookup y=some .local:=z
            rcases ZfV (env:=X.env) k2 with w | w
            · have w':(relabel scope X.env).names.lookup y=some .cell:=w
              rw [w'] at z'; cases z'
            · have w':(relabel scope X.env).names.lookup y=some .free:=w
              rw [w'] at z'; cases z'
          · exact .inl z
          · exact .inr z
  · obtain ⟨v,o,e1,e2⟩:=I.cell y c (cll y c e)
    exact ⟨v,o,hk _ _ e1,e2⟩
  · show (inner src σ none).length=N'.length
    rw [S.names]
    unfold inner
    rw [List.length_cons,List.length_cons,List.length_map,List.length_map]
theorem Zmg {prog:Program} {w:World} {A:Around} {R:Result→Shared→Prop} {s:Shared} {elt target iter:Expr} {scope:Scope} {pos:Pos} {it acc:Value} {env:Env} (I:Nat→Shared→Prop)
    (turn:∀n s,I n s→wpAny (model prog w) A (pyNext it) (fun r s₁=>match r with
      | none=>R (.ok .next) s₁
      | some v=>wpAny (model prog w) A (letOwnedTupleGo target it v) (fun _ s₂=>wpAny (model prog w) A (assign target env v) (fun _ s₃=>wpAny (model prog w) A (eval elt env) (fun x s₄=>
          wpAny (model prog w) A (call (.builtin "list.append") [acc,x]) (fun _ s₅=>∃m,m<n∧I m s₅) (notedBy (model prog w) A env fun e s'=>R (.error e) s') s₄) (notedBy (model prog w) A env fun e s'=>R (.error e) s') s₃)
          (notedBy (model prog w) A env fun e s'=>R (.error e) s') s₂) (notedBy (model prog w) A env fun e s'=>R (.error e) s') s₁) (notedBy (model prog w) A env fun e s'=>R (.error e) s') s)
    (n:Nat) (h:I n s):codeAny (model prog w) A (.compLoop (.ListComp elt [⟨target,iter,[],0⟩] scope pos) 0 it acc env) R s:=by
  refine codeAny_loop rfl I (fun n s hI=>?_) n h
  show wpAny _ A ((compTurn (.ListComp elt [⟨target,iter,[],0⟩] scope pos) 0 it acc env).onRaise (fun x=>do noteFrame x env; theTreesLotGoes x)) _ _ s
  refine wpAny_noted ?_
  rw [compTurn_list1]
  refine wpAny_bind (wpAny_standAt (wpAny_bind (thn (turn n s hI) fun r s₁ h₁=>?_)))
  cases r with
  | none=>exact wpAny_pure h₁
  | some v=>
    refine wpAny_bind (thn h₁ fun _ s₂ h₂=>wpAny_bind (thn h₂ fun _ s₃ h₃=>?_))
    exact wpAny_bind (wpAny_bind (thn h₃ fun x s₄ h₄=>wpAny_bind (thn h₄ fun _ s₅ h₅=>wpAny_pure (wpAny_pure ⟨rfl,h₅⟩))))
def lcR (J:It) (src:List Nat) (σ:St) (te:TE) (H1:Hp) (Q:VK):Prop:=∃(n:Nat) (Pv:Nat→List V→Hp→Prop),n≤sizeLine∧Pv 0 [] H1∧
  (∀i ys H,i<n→Pv i ys H→J.go i H∧∀y H',J.yld i H y H'→te (inner src σ (some y)) H' fun z H2=>Pv (i+1) (ys++[z]) H2)∧
  ∀ys H,Pv n ys H→J.stop n H∧∀p,H p=none→Q (.ref p) (upd H p (.lst ys))
def tLc (wi:TI) (src:List Nat) (te:TE):TE:=fun σ H Q=>wi σ H fun J H1=>lcR J src σ te H1 Q
theorem HOk.lay {P:Program} {w:World} {H:Hp} {h:Heap} {a:Addr} {o:HO} (x:HOk P w H h) (hn:H a=none) (new:ObjOk P w (upd H a o) h a o):HOk P w (upd H a o) h:=fun b u e=>by
  by_cases hb:b=a
  · subst hb; rw [zi] at e; cases e; exact new
  · rw [ZS hb] at e
    exact (x b u e).stay (fun c v _ q=>q) (fun c q=>by rw [ZS (zm q hn)]; exact q) fun c xs q=>by rw [ZS (zm q hn)]; exact q
theorem Un.lay {fs ex:List Addr} {H H1:Hp} {h h1:Heap} {a:Addr} {o:HO} (u:Un fs ex H H1 h h1) (hn:H1 a=none) (hh:h.get? a=none):Un fs ex H (upd H1 a o) h h1 where
  keep:=u.keep
  slot:=u.slot
  free:=fun b ob q n hx=>by rw [ZS (fun z=>by rw [z,hh] at q; cases q)]; exact u.free b ob q n hx
  there:=u.there
  tups:=fun b xs q=>by rw [ZS (zm (u.tups b xs q) hn)]; exact u.tups b xs q
  frzs:=fun b ob xs q=>by rw [ZS (zm (u.frzs b ob xs q) hn)]; exact u.frzs b ob xs q
  tbls:=fun b ps q=>by
    obtain ⟨m,e⟩:=u.tbls b ps q
    exact ⟨m,by rw [ZS (zm e hn)]; exact e⟩
theorem Zrk {pins:List (Addr×Obj)} {σ:St} {H:Hp} {s:Shared} {cl:List (Str×Addr)} {it:Addr} {fp:List Addr} {tn:Nat→Heap→Prop} {J:It} {n:Nat} {Pv:Nat→List V→Hp→Prop} {RR:Value→Addr→Result→Shared→Prop} {E:Value→Shared→Prop}
    (I:Inv X pins σ H s) (hcm:X.calm=true) (S:ZaW scope X.env.scope x X.N N' src) (hcl:∀n c,(n,c)∈cl→X.env.cells.lookup n=some c) (hcl2:∀y∈scope.names,y.2=.free→∃c,(y.1,c)∈cl)
    (T:ZoM X.prog X.w X.K (.Name x px) J fp it tn) (t0:tn 0 s.heap) (hfp:∀b∈fp,ZiI X pins H b)
    (helt:∀(cl:List (Str×Addr)) (C:Addr) (s₀:Shared) (H₀:Hp) (fp:List Addr),PE (X.comp scope N' cl C s₀ H₀ fp) elt te)
    (hn:n≤sizeLine) (p0:Pv 0 [] H) (turn:∀i ys H,i<n→Pv i ys H→J.go i H∧∀y H',J.yld i H y H'→te (inner src σ (some y)) H' fun z H2=>Pv (i+1) (ys++[z]) H2) (stop:∀ys H,Pv n ys H→J.stop n H)
    (hR:∀(D C:Addr) (o:Obj) (ys:List V) (H':Hp) (s':Shared),Pv n ys H'→H' D=none→Inv X (pins++[(C,o)]) σ (upd H' D (.lst ys)) s'→(∃m,s'.heap.Ns C m)→ZiI X pins (upd H' D (.lst ys)) C→RR (.ref D) C (.ok .next) s') :
    wpAny (model X.prog X.w) X.A (newList []) (fun acc s₃=>wpAny (model X.prog X.w) X.A (newFunctionEnv scope X.env.globals cl [] X.env.qual none .none (some X.env)) (fun cenv s₄=>
      codeAny (model X.prog X.w) X.A (.compStart (.ListComp elt [⟨.Name x px,iter,[],0⟩] scope pos) 0 (.ref it) acc { cenv with scope:=relabel scope X.env }) (RR acc cenv.locals) s₄) E s₃) E s:=by
  refine wpAny_newObj_type (wpAny_newFunctionEnv S.cell (by intro y hy; simp at hy) (fun h₁ hns₁ hsb₁=>?_) S.kind)
  dsimp only at hns₁ hsb₁ ⊢
  generalize hH2:s.heap.push { cls:=.type "list",dict:=none,data:=.seq ([]:List Value).toArray }=H2 at hns₁ hsb₁ ⊢
  have hC:H2.objs.size=s.heap.objs.size+1:=by rw [←hH2,Heap.size_push]
  have hDC:s.heap.objs.size≠H2.objs.size:=by rw [hC]; exact Nat.ne_of_lt (Nat.lt_succ_self _)
  have hCle:s.heap.objs.size≤H2.objs.size:=by rw [hC]; exact Nat.le_succ _
  have below:∀b,b<s.heap.objs.size→b≠H2.objs.size∧b≠s.heap.objs.size:=fun b hb=>⟨by rw [hC]; exact Nat.ne_of_lt (Nat.lt_succ_of_lt hb),Nat.ne_of_lt hb⟩
  have old:∀b o,s.heap.get? b=some o→h₁.get? b=some o:=fun b o e=>hsb₁.extBut b o (below b (Heap.lt_size e)).1 (Heap.get?_push_of_some _ (hH2 ▸ Heap.get?_push_of_some _ e))
  have hacc:h₁.PlainList s.heap.objs.size #[]:=⟨_,hsb₁.extBut _ _ hDC (Heap.get?_push_of_some _ (hH2 ▸ Heap.get?_push_size _ rfl))⟩
  have hfl:∀b∈fp,b<s.heap.objs.size:=fun b hb=>by
    obtain ⟨o,e,_⟩:=T.obj 0 _ t0 b hb
    exact Heap.lt_size e
  have fresh:∀a,s.heap.objs.size≤a→s.heap.get? a=none:=fun a ha=>by
    cases e:s.heap.get? a with
    | none=>rfl
    | some o'=>exact absurd (Heap.lt_size e) (Nat.not_lt.mpr ha)
  generalize eD:s.heap.objs.size=D at hDC hacc hCle below fresh hfl hC ⊢
  generalize eC:H2.objs.size=C at hDC hCle below hC hns₁ hsb₁ ⊢
  have I1:Inv (X.comp scope N' cl C s H fp) [] (inner src σ none) H { s with heap:=h₁,toks:=s.toks+([]:List (Str×Value)).length }:=
    ZmX I S hcl hcl2 (by rw [eD]; exact hCle) hfp (by rw [eD]; exact hfl) ⟨_,hns₁⟩ old rfl rfl
  have stat:∀{H':Hp} {pl:List (Addr×Obj)},(∀p∈pl,p.1=D)→(∀b∈fp,H' b=none)→∀b∈fp,ZiI (X.comp scope N' cl C s H fp) pl H' b:=fun {H' pl} hp hn b hb=>
    ⟨hn b hb,(below b (hfl b hb)).1,fun z=>by
      rcases List.mem_cons.mp (I.stkSub b z) with q | q
      · exact (hfp b hb).2.1 q
      · exact (hfp b hb).2.2.1 q,.inl hb,fun y c e=>(hfp b hb).2.2.2.2.1 y c (hcl y c (PySem.mem_of_lookup e)),fun p hq=>by
      rw [hp p (by rcases List.mem_append.mp hq with z | z; exact absurd (show p∈([]:List (Addr×Obj)) from z) (by simp); exact z)]
      exact Ne.symm (below b (hfl b hb)).2⟩
  have nD:D∉frs X.stack:=fun z=>by
    rcases List.mem_cons.mp (I.stkSub D z) with q | q
    · have:=I.lt; rw [←q,eD] at this; exact Nat.lt_irrefl _ this
    · exact I.nofs (a:=D) (by rw [eD]; exact Nat.le_refl _) q
  have nC:C∉X.fs:=I.nofs (by rw [eD]; exact hCle)
  have cellD:∀y c,cl.lookup y=some c→c<D:=fun y c e=>by
    obtain ⟨v,q⟩:=I.cell y c (hcl y c (PySem.mem_of_lookup e))
    have:=q.lt
    rw [eD] at this
    exact this
  have loop:∀s₃:Shared,s₃={ s with heap:=h₁,toks:=s.toks+([]:List (Str×Value)).length }→
      codeAny (model X.prog X.w) X.A (.compLoop (.ListComp elt [⟨.Name x px,iter,[],0⟩] scope pos) 0 (.ref it) (.ref D) (compEnvC scope cl C X.env)) (RR (.ref D) C) s₃:=by
    rintro s₃ rfl
    refine Zmg (fun k s'=>∃(i:Nat) (ys:List V) (its:List Value) (H':Hp) (xo:Option V),Inv (X.comp scope N' cl C s H fp) [] (inner src σ xo) H' s'∧tn i s'.heap∧(∀b∈fp,H' b=none)∧s'.heap.PlainList D its.toArray∧Vals ys its∧H' D=none∧
      Pv i ys H'∧ys.length=i∧i≤n∧k=n+1-i) ?_ (n+1) ⟨0,[],[],H,none,I1,T.keep _ _ _ t0 (fun b _ o e=>old b o e),fun b hb=>(hfp b hb).1,hacc,.nil,I.hok.fresh (by rw [eD]; exact Nat.le_refl _),p0,rfl,Nat.zero_le _,rfl⟩
    rintro k s' ⟨i,ys,its,H',xo,I3,t3,f3,l3,v3,d3,p3,e3,le3,rfl⟩
    by_cases hlt:i<n
    · obtain ⟨go,step⟩:=turn i ys H' hlt p3
      obtain ⟨nn,oD⟩:=id l3
      have I3p:Inv (X.comp scope N' cl C s H fp) [(D,{ cls:=.type "list",data:=.seq its.toArray nn })] (inner src σ xo) H' s':=
        I3.pins_of fun p hp=>by
          have ep:p=(D,{ cls:=.type "list",data:=.seq its.toArray nn }):=by simpa using hp
          subst ep
          exact ⟨oD,d3,hDC,nD,fun v z=>by cases z⟩
      refine thn (T.item (X.comp scope N' cl C s H fp) rfl rfl rfl hcm i _ s' _ H' _ I3p (stat (by simp) f3) t3 go) fun r s4 ⟨u,hr,h4⟩=>?_
      subst hr
      refine thn h4 fun _ s5 ⟨y,H5,I5,r5,y5,st5,fr5⟩=>?_
      have I5':=I5.pinned (stat (by simp) fr5) (T.obj _ _ st5)
      have hg:PG (X.comp scope N' cl C s H fp) (.Name x px) (Zl3 0):=
        ZfW S.nd (by show N'[0]?=some x; rw [S.names]; rfl) (.inl (lookup_relabel_local S.own)) (.inr (lookup_relabel_local S.own))
      refine wpAny_mono (hg _ s5 _ H5 y u (fun σ2 H2=>σ2=inner src σ (some y)∧H2=H5) I5' r5 ⟨rfl,rfl⟩) (fun _ s6 ⟨σ6,H6,I6,e6,e6'⟩=>?_) fun _ _ z=>False.elim z
      subst e6 e6'
      refine wpAny_mono (helt cl C s H fp _ s6 _ _ _ I6 (step y _ y5)) (fun v s7 ⟨z,H7,I7,r7,q7⟩=>?_) fun _ _ z=>False.elim z
      have o7:=I7.pin (D,{ cls:=.type "list",data:=.seq its.toArray nn }) (by simp)
      have hys:its.toArray.size≤sizeLine:=by
        have:=v3.length
        rw [List.size_toArray]
        omega
      refine wpAny_list_append_plain (hsz:=hys) (items:=its.toArray) (s:=s7) ⟨nn,o7.1⟩ fun h8 hl8 hs8=>?_
      refine ⟨n+1-(i+1),by omega,i+1,ys++[z],its++[v],H7,some y,?_,?_,?_,?_,v3.append (.cons r7 .nil),o7.2.1,q7,by rw [List.length_append,e3]<;>rfl,hlt,rfl⟩
      · have I7':Inv (X.comp scope N' cl C s H fp) [] (inner src σ (some y)) H7 s7:=I7.pins_of fun p hp=>absurd hp (by simp)
        exact I7'.turned (t':=s7.toks) (it:=D) (fun b o hb e=>(hs8.2 b hb).trans e) o7.2.1 hDC (.inr (by show s.heap.objs.size≤D; rw [eD]; exact Nat.le_refl _)) (fun y c e=>Nat.ne_of_lt (cellD y c e)) fun p hp=>absurd (show p∈([]:List (Addr×Obj)) from hp) (by simp)
      · refine T.keep _ _ _ st5 fun b hb o e=>(hs8.2 b (below b (hfl b hb)).2).trans ?_
        exact (I7.pin (b,o) (List.mem_append_right _ (List.mem_append_right _ (Zed hb e)))).1
      · intro b hb
        obtain ⟨o,e,_⟩:=T.obj _ _ st5 b hb
        exact (I7.pin (b,o) (List.mem_append_right _ (List.mem_append_right _ (Zed hb e)))).2.1
      · have:(its++[v]).toArray=its.toArray.push v:=by simp
        rw [this]; exact hl8
    · have ein:i=n:=by omega
      subst ein
      obtain ⟨nn,oD⟩:=id l3
      have I3p:Inv (X.comp scope N' cl C s H fp) [(D,{ cls:=.type "list",data:=.seq its.toArray nn })] (inner src σ xo) H' s':=
        I3.pins_of fun p hp=>by
          have ep:p=(D,{ cls:=.type "list",data:=.seq its.toArray nn }):=by simpa using hp
          subst ep
          exact ⟨oD,d3,hDC,nD,fun v z=>by cases z⟩
      refine thn (T.done (X.comp scope N' cl C s H fp) rfl rfl rfl hcm i _ s' _ H' _ I3p (stat (by simp) f3) t3 (stop ys H' p3)) fun r s4 ⟨hr,I4⟩=>?_
      subst hr
      have o4:=I4.pin (D,{ cls:=.type "list",data:=.seq its.toArray nn }) (by simp)
      have newI:Inv X pins σ (upd H' D (.lst ys)) s4:=I.call' (ch:=fp) I4.os (I4.base.lay d3 (fresh D (Nat.le_refl _))) (I4.hok.lay d3 ⟨by omega,its,nn,v3,o4.1⟩) I4.bare (fun b hb=>
        ⟨(hfp b hb).2.2.2.1,(hfp b hb).2.1,(hfp b hb).2.2.2.2.1,(hfp b hb).2.2.2.2.2⟩)
      obtain ⟨m,hm,_⟩:=I4.loc
      obtain ⟨o,es,ep,ho,hd,_⟩:=id hm
      refine hR D C o ys H' s4 p3 d3 (newI.pins_of fun p hp=>?_) ⟨m,hm⟩ (I.fpOk (by rw [eD]; exact hCle) (by rw [ZS (Ne.symm hDC)]; exact I4.free))
      rcases List.mem_append.mp hp with z | z
      · exact newI.pin p (List.mem_append_right _ z)
      · have ep:p=(C,o):=by simpa using z
        subst ep
        refine ⟨ho,by rw [ZS (Ne.symm hDC)]; exact I4.free,fun z=>?_,nC,fun v z=>?_⟩
        · have:=I.lt
          rw [eD,←z] at this
          exact absurd (Nat.lt_of_lt_of_le this hCle) (Nat.lt_irrefl _)
        · have z':o.data=.cell v:=z
          rw [hd] at z'; cases z'
  exact codeAny_compStart_list (loop _ rfl) (T.self _ 0 _ _ _ (T.keep _ _ _ t0 (fun b _ o e=>old b o e)) (loop _ rfl))
theorem ZwK {sc:Scope} {N:List Str} (S:ZaW scope sc x N N' src) (hsc:X.env.scope=sc) (hN:X.N=N) (hi:PI X (.Name x px) iter wi)
    (helt:∀(cl:List (Str×Addr)) (C:Addr) (s₀:Shared) (H₀:Hp) (fp:List Addr),PE (X.comp scope N' cl C s₀ H₀ fp) elt te) (hcm:X.calm=true:=by rfl) (hs:∀v,foldedSetIterable iter X.env v=pure v:=by intro _; rfl) :
    PE X (.ListComp elt [⟨.Name x px,iter,[],0⟩] scope pos) (tLc wi src te):=by
  subst hsc hN
  intro pins s σ H Q I h
  obtain ⟨cl,hclos,hcl,hcl2⟩:=Zgk (scope:=scope) (env:=X.env) fun y hy hf=>I.ok.has y.1 (.inl (S.free y hy hf))
  rw [eval_ListComp]
  refine wpAny_comprehension_free (use:=none) rfl hs hclos S.kind S.loc ?_
  refine thn (hi pins s σ H _ I h) fun v s1 h1=>thn h1 fun itv s2 h2=>?_
  obtain ⟨it,fp,tn,J,H2,e,I2,T,st2,f2,n,Pv,hn,p0,turn,done⟩:=h2
  subst e
  refine Zrk I2 hcm S hcl hcl2 T st2 f2 helt hn p0 turn (fun ys H p=>(done ys H p).1) fun D C o ys H' s' p d J' hm ho=>?_
  obtain ⟨m,hm⟩:=hm
  refine ⟨m,hm,fun h' hs'=>?_⟩
  have J2:Inv X pins σ (upd H' D (.lst ys)) s':=J'.pins_of fun q hq=>J'.pin q (List.mem_append_right _ (List.mem_append_left _ hq))
  obtain ⟨f0,f1,f2,f3,f4,f5⟩:=ho
  exact ⟨.ref D,_,J2.turned (t':=s'.toks) (it:=C) (fun b o hb e=>(hs'.2 b hb).trans e) f0 f1 f3 f4 f5,rfl,(done ys H' p).2 D d⟩
theorem ZwD {sc:Scope} {N:List Str} {i:Nat} {y:Str} {py spos:Pos} (hnd:X.N.Nodup) (hi':X.N[i]?=some y) (S:ZaW scope sc x N N' src) (hsc:X.env.scope=sc) (hN:X.N=N) (hi:PI X (.Name x px) iter wi)
    (helt:∀(cl:List (Str×Addr)) (C:Addr) (s₀:Shared) (H₀:Hp) (fp:List Addr),PE (X.comp scope N' cl C s₀ H₀ fp) elt te) (hsw:swapsWith (.ListComp elt [⟨.Name x px,iter,[],0⟩] scope pos) (some (.Name y py)) spos.line X.env=pure true:=by rfl)
    (hy:X.env.scope.names.lookup y=some .local:=by rfl) (hcm:X.calm=true:=by rfl) (hs:∀v,foldedSetIterable iter X.env v=pure v:=by intro _; rfl) :
    PS X (.Assign [.Name y py] (.ListComp elt [⟨.Name x px,iter,[],0⟩] scope pos) spos) (Zwp (tLc wi src te) (Zl3 i)):=by
  subst hsc hN
  intro pins s σ H Dn I h
  obtain ⟨cl,hclos,hcl,hcl2⟩:=Zgk (scope:=scope) (env:=X.env) fun y hy hf=>I.ok.has y.1 (.inl (S.free y hy hf))
  rw [exec_Assign_Name_used _ _ _ _ hsw]
  refine wpAny_bind (wpAny_standAt (wpAny_bind ?_))
  show wpAny _ X.A (do let _ ←comprehension (.ListComp elt [⟨.Name x px,iter,[],0⟩] scope pos) scope X.env _ (newList []) false (eval iter X.env) (some (assign (.Name y py) X.env))) _ _ s
  refine wpAny_bind (wpAny_mono (wpAny_comprehension_free (use:=some (assign (.Name y py) X.env)) (Q:=fun _ s'=>SP X pins Dn .next s') rfl hs hclos S.kind S.loc ?_) (fun _ s' hq=>wpAny_pure (wpAny_pure hq)) fun _ _ e=>e)
  refine thn (hi pins s σ H _ I h) fun v s1 h1=>thn h1 fun itv s2 h2=>?_
  obtain ⟨it,fp,tn,J,H2,e,I2,T,st2,f2,n,Pv,hn,p0,turn,done⟩:=h2
  subst e
  refine Zrk I2 hcm S hcl hcl2 T st2 f2 helt hn p0 turn (fun ys H p=>(done ys H p).1) fun D C o ys H' s' p d J' hm ho=>?_
  show wpAny _ X.A (assign (.Name y py) X.env (.ref D)) _ _ _
  obtain ⟨m,hm⟩:=hm
  have hg:PG X (.Name y py) (Zl3 i):=ZfW hnd hi' (.inl hy) (.inr hy)
  refine thn (hg _ s' σ _ (.ref D) (.ref D) (fun σ2 H3=>σ2=σ.set i (some (.ref D))∧H3=upd H' D (.lst ys)) J' rfl ⟨rfl,rfl⟩) fun _ s6 ⟨σ6,H6,I6,e6,e7⟩=>?_
  subst e6 e7
  have pc:=I6.pin (C,o) (by simp)
  have pc':=J'.pin (C,o) (by simp)
  refine ⟨m,hm.at fun q e=>?_,fun h' hs'=>?_⟩
  · rw [pc'.1] at e; cases e; exact pc.1
  have J2:Inv X pins (σ.set i (some (.ref D))) (upd H' D (.lst ys)) s6:=I6.pins_of fun q hq=>I6.pin q (List.mem_append_right _ (List.mem_append_left _ hq))
  obtain ⟨f0,f1,f2,f3,f4,f5⟩:=ho
  exact ⟨_,_,J2.turned (t':=s6.toks) (it:=C) (fun b o hb e=>(hs'.2 b hb).trans e) f0 f1 f3 f4 f5,(done ys H' p).2 D d⟩
end
end L2
namespace L2
open PySem PySem.Spec PyProof.Rows PySem.SeqAt
section
variable {X:Cx}
theorem ZoK {bs:List Bool}:(List.range bs.length).all (fun i=>bs.getD i false)=bs.all id:=by
  induction bs with
  | nil=>rfl
  | cons b r ih=>
    rw [List.length_cons,List.range_succ_eq_map,List.all_cons,List.all_map,List.all_cons]
    have:((fun i=>(b::r).getD i false)∘Nat.succ)=fun i=>r.getD i false:=by funext i; rfl
    rw [this,ih]
    rfl
theorem ZrN (hc:X.calm=true):CallR X (.builtin "all") (fun xs H Q=>∃(p:Addr) (bs:List Bool),xs=[.ref p]∧SqL X.K H p (bs.map V.bl)∧Q (.bl (bs.all id)) H):=by
  intro pins s σ H xs us Q I r h
  obtain ⟨p,bs,rfl,hq,q⟩:=h
  obtain ⟨u,rfl,rx⟩:=ZfO r
  cases rx
  obtain ⟨its,r',pl,hz⟩:=I.list hq
  have hl:=r'.length
  rw [List.length_map] at hl
  refine call_all_walk (wpAny_pyIter_list pl.isList ?_)
  have hne:p≠s.heap.objs.size:=by
    obtain ⟨o,n,e,_⟩:=pl
    exact Nat.ne_of_lt (Heap.lt_size e)
  refine ⟨s.heap.objs.size,_,_,_,_,_,fun i=>bs.getD i false,rfl,Walks.list (A:=X.A.in1) (I.ok.hd hc) _ p hne its.toArray,⟨⟨_,Heap.get?_push_size _ rfl,rfl,rfl⟩,?_⟩,?_,fun h' tk hk=>?_⟩
  · obtain ⟨o,n,e,hc',hd,hs⟩:=pl
    exact ⟨o,Heap.get?_push_of_some _ e,hc',n,hs⟩
  · intro i v s2 Q2 E2 hp q2
    have hp':its[i]?=some v:=by simpa using hp
    have hi:i<bs.length:=by rw [hl]; exact (List.getElem?_eq_some_iff.mp hp').1
    obtain ⟨u,hu,ru⟩:=r'.get (i:=i) (x:=.bl (bs.getD i false)) (by rw [List.getElem?_map,List.getElem?_eq_getElem hi,List.getD_eq_getElem?_getD,List.getElem?_eq_getElem hi]; rfl)
    rw [hp'] at hu; cases hu
    cases ru
    exact wpAny_truthy_bool q2
  · refine ⟨.bl (bs.all id),H,(I.kept (t':=s.toks) fun b o e=>Heap.get?_push_of_some _ e).turned (it:=s.heap.objs.size) (fun b o hb e=>hk b o (by simpa using hb) e) (I.hok.fresh (Nat.le_refl _)) (Nat.ne_of_gt I.lt) (.inr I.sz) (fun x c e z=>?_) (fun q hq z=>?_),?_,q⟩
    · obtain ⟨v,w'⟩:=I.cell x c e
      exact absurd w'.lt (by rw [z]; exact Nat.lt_irrefl _)
    · exact absurd (Heap.lt_size (I.pin q hq).1) (by rw [z]; exact Nat.lt_irrefl _)
    · show Value.bool _=Value.bool _
      rw [List.size_toArray,←hl,ZoK]
theorem ZiV {ns:List Int}:∀k,k≤ns.length→preSum (fun i=>ns.getD i 0) k=(ns.take k).sum
  | 0,_=>by simp [preSum]
  | k+1,h=>by
    have hk:k<ns.length:=by omega
    rw [preSum,ZiV k (by omega),List.take_add_one,List.getElem?_eq_getElem hk,List.getD_eq_getElem?_getD,List.getElem?_eq_getElem hk]
    show _=(ns.take k++[ns[k]]).sum
    rw [List.sum_append,List.sum_cons,List.sum_nil,Int.add_zero]
    rfl
theorem ZrL (hc:X.calm=true):CallR X (.builtin "sum") (fun xs H Q=>∃(p:Addr) (ns:List Int),xs=[.ref p]∧SqL X.K H p (ns.map V.int)∧Q (.int ns.sum) H):=by
  intro pins s σ H xs us Q I r h
  obtain ⟨p,ns,rfl,hq,q⟩:=h
  obtain ⟨u,rfl,rx⟩:=ZfO r
  cases rx
  obtain ⟨its,r',pl,hz⟩:=I.list hq
  have hl:=r'.length
  rw [List.length_map] at hl
  refine call_sum_walkG (wpAny_pyIter_list pl.isList ?_)
  have hne:p≠s.heap.objs.size:=by
    obtain ⟨o,n,e,_⟩:=pl
    exact Nat.ne_of_lt (Heap.lt_size e)
  refine ⟨s.heap.objs.size,_,_,_,_,_,fun i=>ns.getD i 0,rfl,Walks.list (A:=X.A.in1) (I.ok.hd hc) _ p hne its.toArray,⟨⟨_,Heap.get?_push_size _ rfl,rfl,rfl⟩,?_⟩,?_,?_,fun h' tk t' hk=>?_⟩
  · obtain ⟨o,n,e,hc',hd,hs⟩:=pl
    exact ⟨o,Heap.get?_push_of_some _ e,hc',n,hs⟩
  · intro b hb
    have hb':b=s.heap.objs.size∨b=p:=by simpa using hb
    rcases hb' with rfl | rfl
    · show _<(s.heap.push _).objs.size
      rw [Heap.size_push]; exact Nat.lt_succ_self _
    · obtain ⟨o,n,e,_⟩:=pl
      show _<(s.heap.push _).objs.size
      rw [Heap.size_push]; exact Nat.lt_succ_of_lt (Heap.lt_size e)
  · intro i v hp
    have hp':its[i]?=some v:=by simpa using hp
    have hi:i<ns.length:=by rw [hl]; exact (List.getElem?_eq_some_iff.mp hp').1
    obtain ⟨u,hu,ru⟩:=r'.get (i:=i) (x:=.int (ns.getD i 0)) (by rw [List.getElem?_map,List.getElem?_eq_getElem hi,List.getD_eq_getElem?_getD,List.getElem?_eq_getElem hi]; rfl)
    rw [hp'] at hu; cases hu
    exact ru
  · refine ⟨.int ns.sum,H,(I.kept (t':=s.toks) fun b o e=>Heap.get?_push_of_some _ e).turned (it:=s.heap.objs.size) (fun b o hb e=>hk b o (by simpa using hb) e) (I.hok.fresh (Nat.le_refl _)) (Nat.ne_of_gt I.lt) (.inr I.sz) (fun x c e z=>?_) (fun q hq z=>?_),⟨t',?_⟩,q⟩
    · obtain ⟨v,w'⟩:=I.cell x c e
      exact absurd w'.lt (by rw [z]; exact Nat.lt_irrefl _)
    · exact absurd (Heap.lt_size (I.pin q hq).1) (by rw [z]; exact Nat.lt_irrefl _)
    · rw [List.size_toArray,←hl,ZiV _ (Nat.le_refl _),List.take_length]
mutual
inductive RdV (K:PySem.W.Frag) (H:Hp):V→PyData→Prop
  | non:RdV K H .non .none
  | bl (b:Bool):RdV K H (.bl b) (.bool b)
  | int (i:Int):RdV K H (.int i) (.int i)
  | str (x:Str):RdV K H (.str x) (.str x)
  | lst {a:Addr} {xs:List V} {ds:List PyData}:SqL K H a xs→RdVs K H xs ds→RdV K H (.ref a) (.list ds)
  | tup {a:Addr} {xs:List V} {ds:List PyData}:SqT K H a xs→RdVs K H xs ds→RdV K H (.ref a) (.tuple ds)
inductive RdVs (K:PySem.W.Frag) (H:Hp):List V→List PyData→Prop
  | nil:RdVs K H [] []
  | cons {x:V} {xs:List V} {d:PyData} {ds:List PyData}:RdV K H x d→RdVs K H xs ds→RdVs K H (x::xs) (d::ds)
end
mutual
theorem RdV.reads {pins:List (Addr×Obj)} {σ:St} {H:Hp} {s:Shared} (I:Inv X pins σ H s):∀{x:V} {d:PyData} {u:Value},RdV X.K H x d→RelV x u→∃as,Reads s.heap u d as
  | _,_,_,.non,r=>by cases r; exact ⟨_,.none⟩
  | _,_,_,.bl b,r=>by cases r; exact ⟨_,.bool b⟩
  | _,_,_,.int i,r=>by obtain ⟨t,rfl⟩:=r; exact ⟨_,.int i t⟩
  | _,_,_,.str x,r=>by obtain ⟨t,rfl⟩:=r; exact ⟨_,.str x t⟩
  | _,_,_,.lst h hs,r=>by
    cases r
    obtain ⟨its,rv,⟨o,n,e,hc,hd,hq⟩,_⟩:=I.list h
    obtain ⟨as,q⟩:=RdVs.reads I hs rv
    exact ⟨_,.list e hc hq (by simpa using q)⟩
  | _,_,_,.tup h hs,r=>by
    cases r
    obtain ⟨its,rv,⟨o,e,hc,n,hq⟩,_⟩:=I.tuple h
    obtain ⟨as,q⟩:=RdVs.reads I hs rv
    exact ⟨_,.tuple e hc hq (by simpa using q)⟩
theorem RdVs.reads {pins:List (Addr×Obj)} {σ:St} {H:Hp} {s:Shared} (I:Inv X pins σ H s):∀{xs:List V} {ds:List PyData} {us:List Value},RdVs X.K H xs ds→Vals xs us→∃as,ReadsAll s.heap us ds as
  | _,_,_,.nil,r=>by cases r; exact ⟨_,.nil⟩
  | _,_,_,.cons h hs,r=>by
    cases r with
    | cons r rr=>
      obtain ⟨as,q⟩:=RdV.reads I h r
      obtain ⟨bs,q2⟩:=RdVs.reads I hs rr
      exact ⟨_,.cons q q2⟩
end
theorem Zu2 (hu:X.A.units+64<cLine):OpR X (compareOp .Eq) (fun x y H Q=>∃d e:PyData,RdV X.K H x d∧RdV X.K H y e∧shaped d=true∧shaped e=true∧noMix d e=true∧Q (.bl (same d e)) H):=by
  intro pins s σ H x y v u Q I rx ry h
  obtain ⟨d,e,hd,he,sd,se,hm,q⟩:=h
  obtain ⟨as,ra⟩:=hd.reads I rx
  obtain ⟨bs,rb⟩:=he.reads I ry
  exact eq_dataH_same ra rb sd se hu hm ⟨.bl _,H,I,rfl,q⟩
theorem ZuZ (hu:X.A.units+64<cLine):OpR X (compareOp .NotEq) (fun x y H Q=>∃d e:PyData,RdV X.K H x d∧RdV X.K H y e∧shaped d=true∧shaped e=true∧noMix d e=true∧Q (.bl (!same d e)) H):=by
  intro pins s σ H x y v u Q I rx ry h
  obtain ⟨d,e,hd,he,sd,se,hm,q⟩:=h
  obtain ⟨as,ra⟩:=hd.reads I rx
  obtain ⟨bs,rb⟩:=he.reads I ry
  exact ne_dataH_same ra rb sd se hu hm ⟨.bl _,H,I,rfl,q⟩
theorem ZsP:OpR X (compareOp .IsNot) (fun x y H Q=>∃b c:Bool,x=.bl b∧y=.bl c∧Q (.bl (!(b == c))) H):=by
  intro pins s σ H x y v u Q I rx ry h
  obtain ⟨b,c,rfl,rfl,q⟩:=h
  cases rx
  cases ry
  have e:(Value.bool b == Value.bool c)=(b == c):=by cases b<;>cases c<;>rfl
  exact wpAny_isNot_plain rfl ⟨.bl _,H,I,rfl,by rw [e]; exact q⟩
def ZeE (xs:List V) (lo hi st:Option Int):List V:=(sliceRange (sliceBounds lo hi st xs.length).1 (sliceBounds lo hi st xs.length).2.1 (sliceBounds lo hi st xs.length).2.2).filterMap (xs[·]?)
theorem Vals.pick {xs:List V} {us:List Value} (r:Vals xs us):∀ks:List Nat,Vals (ks.filterMap (xs[·]?)) (ks.filterMap (us[·]?))
  | []=>.nil
  | k::ks=>by
    cases e:xs[k]? with
    | none=>
      have e':=r.none_of e
      rw [List.filterMap_cons_none e,List.filterMap_cons_none e']
      exact r.pick ks
    | some x=>
      obtain ⟨u,e',q⟩:=r.get e
      rw [List.filterMap_cons_some e,List.filterMap_cons_some e']
      exact .cons q (r.pick ks)
def ZAm (K:PySem.W.Frag) (te:TE) (tl th ts:TO):TE:=fun σ H Q=>te σ H fun x H1=>tl σ H1 fun l H2=>th σ H2 fun u H3=>ts σ H3 fun st H4=>∃a xs,x=.ref a∧SqL K H4 a xs∧st≠some 0∧(ZeE xs l u st).length≤sizeLine∧
  ∀p,H4 p=none→Q (.ref p) (upd H4 p (.lst (ZeE xs l u st)))
theorem Zoi {e sp:Expr} {te:TE} {lo hi:Option Expr} {tl th ts:TO} {pos p2:Pos} (he:PE X e te) (hl:PO X lo tl) (hu:PO X hi th) (hs:PO X (some sp) ts):PE X (.Subscript e (.Slice lo hi (some sp) p2) pos) (ZAm X.K te tl th ts):=by
  intro pins s σ H Q I h
  refine Subscript_ (thn (he pins s σ H _ I h) fun v s1 ⟨x,H1,I1,r1,q1⟩=>?_)
  refine wpAny_Slice (thn (hl pins s1 σ H1 _ I1 q1) fun vl s2 ⟨l,H2,I2,pl,q2⟩=>thn (hu pins s2 σ H2 _ I2 q2) fun vu s3 ⟨u,H3,I3,pu,q3⟩=>thn (hs pins s3 σ H3 _ I3 q3) fun vs s4 ⟨st,H4,I4,ps,q4⟩=>?_)
  obtain ⟨a,xs,rfl,hx,h0,hz',q⟩:=q4
  cases r1
  have I5:Inv X pins σ H4 { s4 with heap:=s4.heap.push { cls:=.type "slice",data:=.fields #[vl,vu,vs] } }:=I4.kept (t':=s4.toks) fun b ob q=>Heap.get?_push_of_some _ q
  obtain ⟨its,r,ht,hz⟩:=I5.list hx
  have hlen:=r.length
  show wpAny (model X.prog X.w) X.A (subscriptTail e (.Slice lo hi (some sp) p2) (.ref a) (.ref s4.heap.objs.size)) (EP X pins σ Q) X.xe { s4 with heap:=s4.heap.push { cls:=.type "slice",data:=.fields #[vl,vu,vs] } }
  refine tail_any (ops:=[.ref a,.ref s4.heap.objs.size]) ht.isList.typeIs slot_list_getitem.lookup (wpAny_getItem_list_slice ht.isList (Heap.IsSliceOf.new ..) pl pu ps h0 ?_ (by rw [List.size_toArray]<;>omega)) (by with_unfolding_all rfl)
  have ep:slicePick its.toArray l u st=((sliceRange (sliceBounds l u st xs.length).1 (sliceBounds l u st xs.length).2.1 (sliceBounds l u st xs.length).2.2).filterMap (its[·]?)).toArray:=by
    unfold slicePick
    rw [List.size_toArray,←hlen]
    simp
  rw [ep]
  refine ⟨.ref _,_,I5.laid (t':=s4.toks) (o:=.lst (ZeE xs l u st)) (fun b ob q=>Heap.get?_push_of_some _ q) (Nat.le_refl _) ?_,rfl,q _ (I5.hok.fresh (Nat.le_refl _))⟩
  exact ⟨hz',_,0,r.pick _,Heap.get?_push_size _ rfl⟩
theorem ZgF:fillsNumberSlot (.type "tuple") "mul"=pure false:=
  PySem.fillsNumberSlot_seq (id:="tuple.__mul__") (r:=some (.builtin "tuple.__rmul__")) F.slot_tuple_mul.lookup (by decide +kernel) F.slot_tuple_rmul.lookup (by decide +kernel)
theorem ZjC:seqRepeat? (.type "tuple")=pure (some (.builtin "tuple.__mul__")):=by
  unfold seqRepeat?
  rw [PySem.seqSlot_of (T:="tuple") (name:="__mul__") (id:="tuple.__mul__") F.slot_tuple_mul.lookup (by decide +kernel),PySem.seqSlot_of (T:="tuple") (name:="__rmul__") (id:="tuple.__rmul__") F.slot_tuple_rmul.lookup (by decide +kernel)]
  rfl
end
end L2
namespace L2
open PySem PySem.Spec PyProof.Rows Builtin
theorem Zia (a:Int) (t:Tok) (l:Addr) (items:Array Value) (n:Nat) (dd:Option Addr) (sl:Array (Option Value)) :
    Meets (Builtin.«int.__rmul__» ⟨[.int a t,.ref l],[]⟩) (fun _ R s=>s.heap.get? l=some { cls:=.type "tuple",dict:=dd,data:=.seq items n,slots:=sl }∧R (.ok (.ret Value.notImplemented)) s):=
  .of_wp fun prog w A R s h=>by obtain ⟨hp,g,d,tk,os⟩:=s; obtain ⟨hl,h⟩:=h; wp_walk; exact ⟨_,rfl,h⟩
theorem ZiB (l:Addr) (items:Array Value) (n:Nat) (dd:Option Addr) (sl:Array (Option Value)) (u:Tok) :
    Meets (Builtin.«tuple.__mul__» ⟨[.ref l,.int 1 u],[]⟩) (fun _ R s=>s.heap.get? l=some { cls:=.type "tuple",dict:=dd,data:=.seq items n,slots:=sl }∧R (.ok (.ret (Value.ref l))) s):=
  .of_wp fun prog w A R s h=>by
    obtain ⟨hp,g,d,tk,os⟩:=s; obtain ⟨hl,h⟩:=h
    wp_walk
    exact ⟨_,rfl,h⟩
theorem ZhI (l:Addr) (items:Array Value) (n:Nat) (dd:Option Addr) (sl:Array (Option Value)) (u:Tok) (h0:items.isEmpty=false) :
    Meets (Builtin.«tuple.__mul__» ⟨[.ref l,.int 0 u],[]⟩) (fun _ R s=>s.heap.get? l=some { cls:=.type "tuple",dict:=dd,data:=.seq items n,slots:=sl }∧R (.ok (.ret (Value.ref s.heap.objs.size))) { s with heap:=s.heap.push { cls:=.type "tuple",data:=.seq #[] } }):=
  .of_wp fun prog w A R s h=>by
    obtain ⟨hp,g,d,tk,os⟩:=s; obtain ⟨hl,h⟩:=h
    wp_walk
    exact ⟨_,rfl,h⟩
theorem ZhJ (l:Addr) (items:Array Value) (n:Nat) (dd:Option Addr) (sl:Array (Option Value)) (x:Int) (u:Tok) (h0:items.isEmpty=false) (h1:2≤x) (h2:x<1000) (h3:items.size*x≤1000) :
    Meets (Builtin.«tuple.__mul__» ⟨[.ref l,.int x u],[]⟩) (fun _ R s=>s.heap.get? l=some { cls:=.type "tuple",dict:=dd,data:=.seq items n,slots:=sl }∧R (.ok (.ret (Value.ref s.heap.objs.size))) { s with heap:=s.heap.push { cls:=.type "tuple",data:=.seq (List.foldl (fun x1 x2=>x1++x2) #[] (List.replicate x.toNat items)) } }):=
  .of_wp fun prog w A R s h=>by
    obtain ⟨hp,g,d,tk,os⟩:=s; obtain ⟨hl,h⟩:=h
    have c1:¬(decide (x < -(2 ^ 63)) || decide (x≥2 ^ 63))=true:=by rw [decide_eq_false (by omega),decide_eq_false (by omega)]; decide
    have c2:¬(items.isEmpty || x == 1)=true:=by
      have:(x == 1)=false:=by simp; omega
      rw [h0,this]; decide
    have c3:¬(decide (x≤0) || items.isEmpty)=true:=by rw [h0,decide_eq_false (by omega)]; decide
    have c4:¬((items.size:Int)*x > (2 ^ 63-1)/8):=by omega
    have c5:¬Tuple.tupleTooMany ((items.size:Int)*x)=true:=by
      unfold Tuple.tupleTooMany
      rw [decide_eq_false (by rw [sizeLine_eq]; omega)]
      decide
    wp_walk
    rw [if_neg c1]
    wp_walk
    rw [if_neg c2]
    show wpAny (model prog w) A.in1 (if (decide (x≤0) || items.isEmpty)=true then _ else if (items.size:Int)*x > (2 ^ 63-1)/8 then _ else if Tuple.tupleTooMany ((items.size:Int)*x)=true then _ else _) _ _ _
    rw [if_neg c3,if_neg c4,if_neg c5]
    have hz:(List.foldl (fun x1 x2=>x1++x2) #[] (List.replicate x.toNat items)).size≤sizeLine:=by
      have:(List.replicate x.toNat items).foldl (fun x1 x2=>x1++x2) #[]=(List.replicate x.toNat items.toList).flatten.toArray:=by
        have:=Zfl items.toList x.toNat []
        simpa using this
      rw [this,List.size_toArray,ZjJ,sizeLine_eq]
      have e:items.toList.length=items.size:=by simp
      rw [e]
      have e2:((x.toNat*items.size:Nat):Int)=(items.size:Int)*x:=by
        rw [Int.natCast_mul,Int.mul_comm]
        congr 1
        omega
      omega
    wp_walk
    exact ⟨_,rfl,h⟩
section
variable {X:Cx}
def Zwx (K:PySem.W.Frag):R2:=fun x y H Q=>∃(a:Addr) (k:Int) (xs:List V),x=.ref a∧y=.int k∧SqT K H a xs∧xs≠[]∧0≤k∧k<1000∧(xs.length:Int)*k≤1000∧
  (k=1→Q (.ref a) H)∧(k≠1→∀p,H p=none→Q (.ref p) (upd H p (.tup (List.replicate k.toNat xs).flatten)))
theorem op_repT:OpR X (binaryOp .Mult) (Zwx X.K):=by
  intro pins s σ H x y v u Q I rx ry h
  obtain ⟨a,k,xs,rfl,rfl,hH,hne,h0,h1,h2,q1,q2⟩:=h
  cases rx
  obtain ⟨t,rfl⟩:=ry
  obtain ⟨its,r,pl,hz⟩:=I.tuple hH
  obtain ⟨⟨oc,dd,data,sl⟩,e,hc,n,hd⟩:=pl
  simp only at hc hd
  subst hc hd
  have hl:=r.length
  have he:its.toArray.isEmpty=false:=by
    cases r with
    | nil=>exact absurd rfl hne
    | cons _ _=>rfl
  refine wpAny_binaryOp_repeat_ref (T:="tuple") (U:="int") (by decide) ⟨_,e,rfl⟩ (fun s'=>typeIs_int s' k t) ZgF F.fills_int_mul F.slot_int_rmul ZjC F.slot_int_index.lookup
    (call_meets F.slot_int_rmul (typeIs_int s k t) F.entry_int_rmul (F.args_int_rmul_2 _ _) (Zia k t a its.toArray n dd sl) ⟨e,rfl,⟨_,e,rfl⟩,?_⟩)
  by_cases k1:k=1
  · subst k1
    exact call_meets F.slot_tuple_mul ⟨_,e,rfl⟩ F.entry_tuple_mul (F.args_tuple_mul_2 _ _) (ZiB a its.toArray n dd sl t) ⟨e,.ref a,H,I,rfl,q1 rfl⟩
  · by_cases k0:k=0
    · subst k0
      refine call_meets F.slot_tuple_mul ⟨_,e,rfl⟩ F.entry_tuple_mul (F.args_tuple_mul_2 _ _) (ZhI a its.toArray n dd sl t he) ⟨e,.ref s.heap.objs.size,_,I.laid (t':=s.toks) (o:=.tup []) (fun b ob q=>Heap.get?_push_of_some _ q) (Nat.le_refl _) ?_,rfl,?_⟩
      · exact ⟨Nat.zero_le _,[],.nil,IsTup.new _ _⟩
      · exact q2 k1 _ (I.hok.fresh (Nat.le_refl _))
    · refine call_meets F.slot_tuple_mul ⟨_,e,rfl⟩ F.entry_tuple_mul (F.args_tuple_mul_2 _ _) (ZhJ a its.toArray n dd sl k t he (by omega) h1 (by rw [List.size_toArray,←hl]; exact h2)) ⟨e,?_⟩
      have hnew:List.foldl (fun x1 x2=>x1++x2) #[] (List.replicate k.toNat its.toArray)=(List.replicate k.toNat its).flatten.toArray:=by
        have:=Zfl its k.toNat []
        rw [List.nil_append] at this
        exact this
      rw [hnew]
      refine ⟨.ref s.heap.objs.size,_,I.laid (t':=s.toks) (o:=.tup (List.replicate k.toNat xs).flatten) (fun b ob q=>Heap.get?_push_of_some _ q) (Nat.le_refl _) ?_,rfl,q2 k1 _ (I.hok.fresh (Nat.le_refl _))⟩
      refine ⟨?_,_,r.rep k.toNat,IsTup.new _ _⟩
      rw [ZjJ,sizeLine_eq]
      have e2:((k.toNat*xs.length:Nat):Int)=(xs.length:Int)*k:=by
        rw [Int.natCast_mul,Int.mul_comm]
        congr 1
        omega
      omega
end
end L2
namespace My
open PySem L2
def ZaX (t:Int):Int:=if t=0 then 0 else (t-1) % 65535+1
theorem ZnM {t:Int} (h:0≤t):0≤ZaX t∧ZaX t≤65535∧(ZaX t-t) % 65535=0∧(ZaX t=0↔t=0):=by
  unfold ZaX; split<;>omega
theorem ZfJ {t:Int} (h:0≤t) (h1:t≤65535):ZaX t=t:=by
  unfold ZaX; split<;>omega
theorem Zjb {t:Int} (h:65535<t):ZaX (t % 65536+t/65536)=ZaX t∧0≤t % 65536+t/65536∧t % 65536+t/65536<t:=by
  unfold ZaX
  rw [if_neg (by omega),if_neg (by omega)]
  omega
def zz:List Int→Int
  | []=>0
  | [a]=>256*a
  | a::b::r=>256*a+b+zz r
def Zet:List Int→List Int
  | []=>[]
  | [a]=>[a]
  | a::_::r=>a::Zet r
def ZhS:List Int→List Int
  | []=>[]
  | [_]=>[]
  | _::b::r=>b::ZhS r
theorem Zm4:∀ns:List Int,256*(Zet ns).sum+(ZhS ns).sum=zz ns
  | []=>rfl
  | [a]=>by simp [Zet,ZhS,zz]
  | a::b::r=>by
    have:=Zm4 r
    simp only [Zet,ZhS,zz,List.sum_cons]
    omega
theorem Zm2:∀{ns:List Int},(∀z∈ns,0≤z)→0≤zz ns
  | [],_=>by simp [zz]
  | [a],h=>by have:=h a (by simp); simp only [zz]; omega
  | a::b::r,h=>by
    have h1:=h a (by simp)
    have h2:=h b (by simp)
    have h3:=Zm2 (ns:=r) fun z hz=>h z (by simp [hz])
    simp only [zz]; omega
theorem ZhG:∀{ns ms:List Int},ns.length % 2=0→zz (ns++ms)=zz ns+zz ms
  | [],ms,_=>by simp [zz]
  | [a],ms,h=>by simp at h
  | a::b::r,ms,h=>by
    have:=ZhG (ns:=r) (ms:=ms) (by simp only [List.length_cons] at h; omega)
    show zz (a::b::(r++ms))=_
    simp only [zz,this]
    omega
theorem ZmU {w:Int} (h:0≤w):ZaX (w+(256*((65535-ZaX w)/256)+(65535-ZaX w) % 256))=65535:=by
  have e:256*((65535-ZaX w)/256)+(65535-ZaX w) % 256=65535-ZaX w:=by omega
  rw [e]
  unfold ZaX
  split<;>split<;>omega
theorem Zdb:∀(m:Nat) (ns:List Int),ns.length≤2*m→((List.range m).map fun k=>2*k).filterMap (fun i=>(ns.map V.int)[i]?)=(Zet ns).map V.int
  | 0,ns,h=>by
    have:ns=[]:=List.length_eq_zero_iff.mp (by omega)
    subst this; rfl
  | m+1,ns,h=>by
    rw [List.range_succ_eq_map,List.map_cons,List.map_map]
    have shift:∀(xs:List Int),(List.map ((fun k=>2*k)∘Nat.succ) (List.range m)).filterMap (fun i=>(xs.map V.int)[i]?)=((List.range m).map fun k=>2*k).filterMap (fun i=>((xs.drop 2).map V.int)[i]?):=fun xs=>by
      rw [List.filterMap_map,List.filterMap_map]
      congr 1
      funext k
      show (xs.map V.int)[2*(k+1)]?=((xs.drop 2).map V.int)[2*k]?
      rw [List.getElem?_map,List.getElem?_map,List.getElem?_drop]
      congr 2
      omega
    match ns,h with
    | [],_=>
      have:=shift []
      rw [List.filterMap_cons_none (by rfl),this,Zdb m _ (by simp)]
      rfl
    | [a],_=>
      have:=shift [a]
      rw [List.filterMap_cons_some (b:=V.int a) (by rfl),this,Zdb m _ (by simp)]
      rfl
    | a::b::r,h=>
      have:=shift (a::b::r)
      rw [List.filterMap_cons_some (b:=V.int a) (by rfl),this,Zdb m _ (by simp only [List.length_cons] at h; simp; omega)]
      rfl
theorem Znr:∀ns:List Int,ZhS ns=Zet (ns.drop 1)
  | []=>rfl
  | [_]=>rfl
  | [_,_]=>rfl
  | _::b::c::r=>by
    have:=Znr (c::r)
    simp only [ZhS,List.drop,Zet] at *
    rw [this]
theorem ZoC (ns:List Int):ZeE (ns.map V.int) none none (some 2)=(Zet ns).map V.int:=by
  unfold ZeE sliceBounds sliceRange
  simp only [Option.getD_some,List.length_map,show ((2:Int) > 0)=True from eq_true (by decide),if_true]
  have e:(if (0:Int)<(ns.length:Int) then ((ns.length:Int)-0+2-1)/2 else 0).toNat=(ns.length+1)/2:=by split<;>omega
  rw [e]
  have e2:(fun k:Nat=>((0:Int)+2*(k:Int)).toNat)=fun k=>2*k:=by funext k; omega
  rw [e2]
  exact Zdb _ ns (by omega)
theorem ZrE (ns:List Int):ZeE (ns.map V.int) (some 1) none (some 2)=(ZhS ns).map V.int:=by
  unfold ZeE sliceBounds sliceRange
  simp only [Option.getD_some,List.length_map,show ((2:Int) > 0)=True from eq_true (by decide),show ((1:Int)<0)=False from eq_false (by decide),if_true,if_false]
  rw [Znr]
  by_cases h:ns.length=0
  · have:ns=[]:=List.length_eq_zero_iff.mp h
    subst this; rfl
  · have e0:max (0:Int) (min 1 (ns.length:Int))=1:=by omega
    rw [e0]
    have e:(if (1:Int)<(ns.length:Int) then ((ns.length:Int)-1+2-1)/2 else 0).toNat=ns.length/2:=by split<;>omega
    rw [e,←Zdb (ns.length/2) (ns.drop 1) (by rw [List.length_drop]; omega),List.filterMap_map,List.filterMap_map]
    congr 1
    funext k
    show (ns.map V.int)[((1:Int)+2*(k:Int)).toNat]?=((ns.drop 1).map V.int)[2*k]?
    rw [List.getElem?_map,List.getElem?_map,List.getElem?_drop]
    congr 2
theorem Zjc:∀ns:List Int,(Zet ns).length≤ns.length
  | []=>Nat.le_refl _
  | [_]=>Nat.le_refl _
  | _::_::r=>by have:=Zjc r; simp only [Zet,List.length_cons]; omega
theorem ZlK:∀ns:List Int,(ZhS ns).length≤ns.length
  | []=>Nat.le_refl _
  | [_]=>Nat.zero_le _
  | _::_::r=>by have:=ZlK r; simp only [ZhS,List.length_cons]; omega
def wpre (ns:List Int):Nat→Int
  | 0=>0
  | i+1=>wpre ns i+ns.getD i 0*(if i % 2=0 then 256 else 1)
theorem Zlr (a b:Int) (r:List Int):∀i,wpre (a::b::r) (i+2)=256*a+b+wpre r i
  | 0=>by simp [wpre]; omega
  | i+1=>by
    have e:(i+2) % 2=i % 2:=by omega
    rw [wpre,Zlr a b r i]
    show _+r.getD i 0*(if (i+2) % 2=0 then 256 else 1)=256*a+b+(wpre r i+r.getD i 0*(if i % 2=0 then 256 else 1))
    rw [e]
    omega
theorem Zls:∀ns:List Int,wpre ns ns.length=zz ns
  | []=>rfl
  | [a]=>by simp [wpre,zz]; omega
  | a::b::r=>by
    show wpre (a::b::r) (r.length+2)=_
    rw [Zlr,Zls r]
    rfl
end My
namespace L2
open PySem PySem.Spec PyProof.Rows
section
variable {κ:Type} [DecidableEq κ]
def valV (kvs:List (κ×V)) (k:κ):Option V:=(kvs.find? fun kv=>decide (kv.1=k)).map (·.2)
def Zez (kvs:List (κ×V)) (k:κ) (v:V):List (κ×V):=
  if (kvs.any fun kv=>decide (kv.1=k))=true then kvs.map (fun kv=>if kv.1=k then (kv.1,v) else kv) else kvs++[(k,v)]
def Zfx (kvs:List (κ×V)) (k:κ):List (κ×V):=kvs.filter fun kv=>decide (kv.1≠k)
theorem Zlu {p:κ×V} {r:List (κ×V)} {k:κ} (e:p.1=k):valV (p::r) k=some p.2:=by simp [valV,List.find?_cons,e]
theorem Zlv {p:κ×V} {r:List (κ×V)} {k:κ} (e:¬p.1=k):valV (p::r) k=valV r k:=by simp [valV,List.find?_cons,e]
theorem Zg1 (kvs:List (κ×V)) (k:κ) (v:V):(Zez kvs k v).length≤kvs.length+1:=by
  unfold Zez
  split
  · rw [List.length_map]; omega
  · rw [List.length_append,List.length_cons,List.length_nil]; omega
theorem RelO.isSome_eq {o:Option V} {u:Option Value} (r:RelO o u):o.isSome=u.isSome:=by
  cases o with
  | none=>cases u with
    | none=>rfl
    | some _=>exact (show False from r).elim
  | some _=>cases u with
    | none=>exact (show False from r).elim
    | some _=>rfl
theorem RelO.getD {o:Option V} {u:Option Value} {d:V} {d':Value} (r:RelO o u) (rd:RelV d d'):RelV (o.getD d) (u.getD d'):=by
  cases o with
  | none=>cases u with
    | none=>exact rd
    | some _=>exact (show False from r).elim
  | some _=>cases u with
    | none=>exact (show False from r).elim
    | some _=>exact r
theorem KV.val {kvs:List (κ×V)} {vs:List (κ×Value)} (r:KV kvs vs) (k:κ):RelO (valV kvs k) (valueAt vs k):=by
  unfold KV at r
  induction r with
  | nil=>exact True.intro
  | @cons p q ps qs h t ih=>
    obtain ⟨h1,h2⟩:=h
    by_cases e:p.1=k
    · have e':q.1=k:=h1.symm.trans e
      have b:valueAt (q::qs) k=some q.2:=by simp [valueAt,List.find?_cons,e']
      rw [Zlu e,b]; exact h2
    · have e':¬q.1=k:=fun z=>e (h1.trans z)
      have b:valueAt (q::qs) k=valueAt qs k:=by simp [valueAt,List.find?_cons,e']
      rw [Zlv e,b]; exact ih
theorem KV.any {kvs:List (κ×V)} {vs:List (κ×Value)} (r:KV kvs vs) (k:κ):(kvs.any fun kv=>decide (kv.1=k))=vs.any fun kv=>decide (kv.1=k):=by
  unfold KV at r
  induction r with
  | nil=>rfl
  | cons h t ih=>rw [List.any_cons,List.any_cons,ih,h.1]
theorem KV.repl {kvs:List (κ×V)} {vs:List (κ×Value)} (r:KV kvs vs) (k:κ) {y:V} {u:Value} (ry:RelV y u) :
    KV (kvs.map fun kv=>if kv.1=k then (kv.1,y) else kv) (vs.map fun kv=>if kv.1=k then (kv.1,u) else kv):=by
  unfold KV at r ⊢
  induction r with
  | nil=>exact .nil
  | @cons p q ps qs h t ih=>
    rw [List.map_cons,List.map_cons]
    refine .cons ?_ ih
    obtain ⟨h1,h2⟩:=h
    by_cases e:p.1=k
    · rw [if_pos e,if_pos (h1.symm.trans e)]; exact ⟨h1,ry⟩
    · rw [if_neg e,if_neg (fun z=>e (h1.trans z))]; exact ⟨h1,h2⟩
theorem KV.put {kvs:List (κ×V)} {vs:List (κ×Value)} (r:KV kvs vs) (k:κ) {y:V} {u:Value} (ry:RelV y u):KV (Zez kvs k y) (stored vs k u):=by
  unfold Zez stored
  rw [r.any k]
  by_cases e:(vs.any fun kv=>decide (kv.1=k))=true
  · rw [if_pos e,if_pos e]; exact r.repl k ry
  · rw [if_neg e,if_neg e]; exact Paired.snoc r ⟨rfl,ry⟩
theorem KV.drop {kvs:List (κ×V)} {vs:List (κ×Value)} (r:KV kvs vs) (k:κ):KV (Zfx kvs k) (without vs k):=by
  unfold KV at r ⊢
  unfold Zfx without
  induction r with
  | nil=>exact .nil
  | @cons p q ps qs h t ih=>
    obtain ⟨h1,h2⟩:=h
    rw [List.filter_cons,List.filter_cons]
    by_cases e:p.1=k
    · have a:¬decide (p.1≠k)=true:=by simp [e]
      have b:¬decide (q.1≠k)=true:=by simp [h1.symm.trans e]
      rw [if_neg a,if_neg b]; exact ih
    · have e':¬q.1=k:=fun z=>e (h1.trans z)
      have a:decide (p.1≠k)=true:=by simp [e]
      have b:decide (q.1≠k)=true:=by simp [e']
      rw [if_pos a,if_pos b]; exact .cons ⟨h1,h2⟩ ih
theorem KV.length {kvs:List (κ×V)} {vs:List (κ×Value)} (r:KV kvs vs):kvs.length=vs.length:=Paired.length r
theorem Zl9 (kvs:List (κ×V)) (k:κ):(Zfx kvs k).length≤kvs.length:=List.length_filter_le _ _
end
theorem Zg5 {P:Program} {w:World} {k:Key} {u:Value} (r:RelV (kV k) u):(zZ P w).is k u=true:=by
  cases k with
  | inl i=>obtain ⟨t,e⟩:=(show ∃t,u=Value.int i t from r); subst e; exact ZlT P w i t
  | inr x=>obtain ⟨t,e⟩:=(show ∃t,u=Value.str x t from r); subst e; exact ZlS P w x t
theorem Zi8 {P:Program} {w:World}:∀{ks:List Key} {us:List Value},Vals (ks.map kV) us→ItemsAre (zZ P w) ks us
  | [],_,r=>by rw [List.map_nil] at r; cases r; exact .nil
  | k::ks,_,r=>by
    rw [List.map_cons] at r
    cases r with
    | cons h t=>exact .cons (Zg5 h) (Zi8 t)
abbrev KT (H:Hp):List (List Key×V)→List (List Key×Addr×Value)→Prop:=Paired fun p q=>p.1=q.1∧H q.2.1=some (.tup (p.1.map kV))∧RelV p.2 q.2.2
theorem KT.val {H:Hp} {kvs:List (List Key×V)} {xs:List (List Key×Addr×Value)} (r:KT H kvs xs) (k:List Key):RelO (valV kvs k) ((atKey xs k).map (·.2)):=by
  induction r with
  | nil=>exact True.intro
  | @cons p q ps qs h t ih=>
    obtain ⟨h1,_,h2⟩:=h
    by_cases e:p.1=k
    · have e':q.1=k:=h1.symm.trans e
      have b:atKey (q::qs) k=some q.2:=by simp [atKey,List.find?_cons,e']
      rw [Zlu e,b]; exact h2
    · have e':¬q.1=k:=fun z=>e (h1.trans z)
      have b:atKey (q::qs) k=atKey qs k:=by simp [atKey,List.find?_cons,e']
      rw [Zlv e,b]; exact ih
section
variable {P:Program} {w:World} {H:Hp} {h:Heap} {a:Addr}
theorem ZtO {u:HO} (ok:HOk P w H h) (e:Rd H a u):ObjOk P w H h a u:=e.ok ok
theorem Zjd {kvs:List (Key×V)} (ok:HOk P w H h) (e:Rd H a (.dK kvs)):kvs.length≤sizeLine∧(a == sysModules)=false∧∃vs,KV kvs vs∧h.DictOf (zZ P w) a vs:=
  show ObjOk P w H h a (.dK kvs) from ZtO ok e
theorem ZnN {kvs:List (Key×V)} (ok:HOk P w H h) (e:H a=some (.dK kvs)):kvs.length≤sizeLine∧(a == sysModules)=false∧∃vs,KV kvs vs∧h.DictOf (zZ P w) a vs:=Zjd ok (.inl e)
theorem ZjK {ks:List Key} (ok:HOk P w H h) (e:H a=some (.tup (ks.map kV))):(tupleKind (zZ P w)).is h ks a:=by
  obtain ⟨_,its,r,o,h1,h2,n,h3⟩:=(show ObjOk P w H h a (.tup (ks.map kV)) from ok a _ e)
  exact ⟨o,its.toArray,n,h1,h2,h3,by simpa using Zi8 r⟩
theorem Zl8 {kvs:List (List Key×V)} (ok:HOk P w H h) (e:Rd H a (.dT kvs)):kvs.length≤sizeLine∧(a == sysModules)=false∧
    ∃xs,KT H kvs xs∧h.DictOfH (tupleKind (zZ P w)) a xs:=by
  obtain ⟨z,y,xs,r,o,es,ep,h1,h2,h3,h4,h5⟩:=(show ObjOk P w H h a (.dT kvs) from ZtO ok e)
  refine ⟨z,y,xs,r,o,es,ep,h1,h2,h3,h4,fun x hx=>?_,h5⟩
  have all:∀{l:List (List Key×V)} {m:List (List Key×Addr×Value)},KT H l m→∀x∈m,(tupleKind (zZ P w)).is h x.1 x.2.1:=by
    intro l m q
    induction q with
    | nil=>intro x hx; exact nomatch hx
    | @cons p q ps qs hq t ih=>
      intro x hx
      rcases List.mem_cons.mp hx with e | hx
      · subst e
        exact ZjK ok (by rw [←hq.1]; exact hq.2.1)
      · exact ih x hx
  exact all r x hx
end
def DGet (H:Hp) (a:Addr) (y:V) (r:Option V):Prop:=
  (∃kvs k,Rd H a (.dK kvs)∧y=kV k∧r=valV kvs k)∨∃kvs k b,Rd H a (.dT kvs)∧y=.ref b∧H b=some (.tup (k.map kV))∧r=valV kvs k
theorem DGet.k {H:Hp} {a:Addr} {kvs:List (Key×V)} {k:Key} (e:H a=some (.dK kvs)):DGet H a (kV k) (valV kvs k):=.inl ⟨kvs,k,.inl e,rfl,rfl⟩
section
variable {X:Cx} {pins:List (Addr×Obj)} {σ:St} {H:Hp} {s:Shared} {a:Addr} {y v:V} {u r:Value} {o:Option V} {A:Around} {E:Value→Shared→Prop}
theorem Inv.big (I:Inv X pins σ H s):sysModules<s.heap.objs.size:=by
  have h:mainGlobals<s.heap.objs.size:=(I.mod.glob.keeps I.bk).lt
  exact Nat.lt_trans (by decide) h
theorem ZoB {Q:Value→Shared→Prop} (hu:A.units+1<cLine) (I:Inv X pins σ H s) (g:DGet H a y (some v)) (ry:RelV y u) (h:∀w' s',Inv X pins σ H s'→RelV v w'→Q w' s') :
    wpAny (model X.prog X.w) A (getItem (.ref a) u) Q E s:=by
  rcases g with ⟨kvs,k,e,ey,l⟩ | ⟨kvs,k,b,e,ey,eb,l⟩
  · subst ey
    obtain ⟨z,hd,vs,rel,dd⟩:=Zjd I.hok e
    obtain ⟨w',hw,rw'⟩:=RelO.some_of (v:=v) (o:=valueAt vs k) (by rw [l]; exact rel.val k)
    exact wpAny_getItem_of (Zg5 ry) dd.mapOf hw (h w' _ (I.tok _) rw')
  · subst ey
    cases (show u=Value.ref b from ry)
    obtain ⟨z,hd,xs,rel,dd⟩:=Zl8 I.hok e
    obtain ⟨w',hw,rw'⟩:=RelO.some_of (v:=v) (o:=(atKey xs k).map (·.2)) (by rw [l]; exact rel.val k)
    obtain ⟨p,hp,hp2⟩:=Option.map_eq_some_iff.mp hw
    refine wpAny_getItem_heap (tupleKind_room_in1 hu) (ZjK I.hok eb) dd hp ?_
    rw [hp2]
    exact h w' _ (I.tok _) rw'
theorem ZA7 {Q:Value→Shared→Prop} (hu:A.units+1<cLine) (I:Inv X pins σ H s) (g:DGet H a y o) (ry:RelV y u) (h:∀s',Inv X pins σ H s'→Q (.bool o.isSome) s') :
    wpAny (model X.prog X.w) A (compareOp .In u (.ref a)) Q E s:=by
  rcases g with ⟨kvs,k,e,ey,l⟩ | ⟨kvs,k,b,e,ey,eb,l⟩
  · subst ey
    obtain ⟨z,hd,vs,rel,dd⟩:=Zjd I.hok e
    refine wpAny_in_of (Zg5 ry) hd dd.mapOf ?_
    rw [←(rel.val k).isSome_eq,←l]
    exact h _ (I.tok _)
  · subst ey
    cases (show u=Value.ref b from ry)
    obtain ⟨z,hd,xs,rel,dd⟩:=Zl8 I.hok e
    refine wpAny_in_heap (tupleKind_room_in1 hu) (ZjK I.hok eb) hd dd ?_
    have q:=(rel.val k).isSome_eq
    rw [Option.isSome_map] at q
    rw [←q,←l]
    exact h _ (I.tok _)
theorem ZhC {h':Heap} {t':Nat} {ob:HO} (I:Inv X pins σ H s) (mu:Mut (H a)) (hs:Heap.SameBut a s.heap h') (he:∃q,h'.get? a=some q) (new:ObjOk X.prog X.w (upd H a ob) h' a ob) :
    Inv X pins σ (upd H a ob) { s with heap:=h',toks:=t' }:=
  I.write (x:=a) (e:=a) mu (.inl rfl) (fun b q hb z=>(hs.2 b hb).trans z) he new
theorem ZjT {P:Program} {w:World} {H':Hp} {h':Heap} {kvs:List (Key×V)} {vs:List (Key×Value)} (z:kvs.length≤sizeLine) (hd:(a == sysModules)=false) (rel:KV kvs vs) (dd:h'.DictOf (zZ P w) a vs) :
    ObjOk P w H' h' a (.dK kvs):=⟨z,hd,vs,rel,dd⟩
end
section
variable {X:Cx} {pins:List (Addr×Obj)} {σ:St} {H:Hp} {s:Shared} {a:Addr} {kvs:List (Key×V)} {k:Key} {u:Value} {A:Around} {E:Value→Shared→Prop}
theorem ZvX {Q:Unit→Shared→Prop} (I:Inv X pins σ H s) (e:H a=some (.dK kvs)) (ry:RelV (kV k) u) (l:(valV kvs k).isSome=true) (h:∀s',Inv X pins σ (upd H a (.dK (Zfx kvs k))) s'→Q () s') :
    wpAny (model X.prog X.w) A (delItem (.ref a) u) Q E s:=by
  obtain ⟨z,hd,vs,rel,dd⟩:=ZnN I.hok e
  refine wpAny_delItem_slot dd.typeIs (by decide) PySem.F.slot_dict_delitem
    (call_meetsIn PySem.F.slot_dict_delitem dd.typeIs PySem.F.entry_dict_delitem (PySem.F.args_dict_delitem_2 _ _) (meets_dict_delitem_pairs (zZ X.prog X.w) a (Zg5 ry)) ⟨vs,dd,by rw [←rel.length]; exact z,by rw [←(rel.val k).isSome_eq]; exact l,fun h' dd' hs=>h _ ?_⟩)
  have he:∃q,h'.get? a=some q:=let ⟨q,_,_,hq,_⟩:=dd'; ⟨q,hq⟩
  exact ZhC I (by rw [e]; exact True.intro) hs he (ZjT (Nat.le_trans (Zl9 kvs k) z) hd (rel.drop k) dd')
theorem Zxk {v:V} {more:List Value} {Q:Value→Shared→Prop} (I:Inv X pins σ H s) (e:H a=some (.dK kvs)) (ry:RelV (kV k) u) (l:valV kvs k=some v) (hm:more=[]∨∃x,more=[x])
    (h:∀w' s',Inv X pins σ (upd H a (.dK (Zfx kvs k))) s'→RelV v w'→Q w' s'):wpAny (model X.prog X.w) A (call (.builtin "dict.pop") (.ref a::u::more)) Q E s:=by
  obtain ⟨z,hd,vs,rel,dd⟩:=ZnN I.hok e
  obtain ⟨w',hw,rw'⟩:=RelO.some_of (v:=v) (o:=valueAt vs k) (by rw [←l]; exact rel.val k)
  have hp:(keyPart u).isSome=true:=by
    cases k with
    | inl i=>obtain ⟨t,q⟩:=(show ∃t,u=Value.int i t from ry); subst q; rfl
    | inr x=>obtain ⟨t,q⟩:=(show ∃t,u=Value.str x t from ry); subst q; rfl
  have ha:argsOk "dict.pop" ⟨.ref a::u::more,[]⟩:=by
    rcases hm with q | ⟨x,q⟩
    · subst q; exact PySem.F.args_dict_pop_2 _ _
    · subst q; exact PySem.F.args_dict_pop_3 _ _ _
  refine call_meetsIn PySem.F.slot_dict_pop dd.typeIs PySem.F.entry_dict_pop ha (meets_dict_pop_there (zZ X.prog X.w) a (Zg5 ry) more hm hp)
    ⟨vs,w',dd,by rw [←rel.length]; exact z,hw,fun h' dd' hs=>h w' _ ?_ rw'⟩
  have he:∃q,h'.get? a=some q:=let ⟨q,_,_,hq,_⟩:=dd'; ⟨q,hq⟩
  exact ZhC I (by rw [e]; exact True.intro) hs he (ZjT (Nat.le_trans (Zl9 kvs k) z) hd (rel.drop k) dd')
end
def Zvx (i:Expr):Prop:=∀ov iv,subscripted i false ov iv=operate [ov,iv] (getItem ov iv)
theorem Zso {prog:Program} {w:World} {A:Around} {E:Value→Shared→Prop} {s:Shared} {env:Env} {value slice:Expr} {pos:Pos} {T id:String} {Q:Value→Shared→Prop}
    (hl:typeLookup (.type T) "__getitem__"=pure (some (.builtin id))) (hs:Zvx slice)
    (h:wpAny (model prog w) A (eval value env) (fun o s₁=>wpAny (model prog w) A (eval slice env) (fun i s₂=>s₂.TypeIs o T∧wpAny (model prog w) A (getItem o i) Q E s₂) E s₁) E s) :
    wpAny (model prog w) A (eval (.Subscript value slice pos) env) Q E s:=by
  refine Subscript_ (wpAny_mono h (fun o s₁ h₁=>wpAny_mono h₁ (fun i s₂ h₂=>?_) fun _ _ x=>x) fun _ _ x=>x)
  obtain ⟨hT,h₂⟩:=h₂
  unfold subscriptTail
  refine wpAny_bind ?_
  rw [getitemInPython_of_ne hT.not_modules]
  refine wpAny_bind (wpAny_specialOf hT hl ?_)
  have fin:wpAny (model prog w) A (subscripted slice false o i) (fun r s₃=>wpAny (model prog w) A (letTemporaryGo value o r >>= fun _=>pure r) Q E s₃) E s₂:=by
    rw [hs o i]
    exact wpAny_operating (wpAny_mono h₂ (fun r s₃ h₃=>wpAny_bind (wpAny_letTemporaryGo (wpAny_pure h₃))) fun _ _ x=>x)
  first
    | exact wpAny_pure (wpAny_bind fin)
    | exact wpAny_bind (wpAny_pure (wpAny_bind fin))
    | exact wpAny_bind fin
theorem Zmd {X:Cx} {pins:List (Addr×Obj)} {σ:St} {H:Hp} {s:Shared} {a:Addr} {y:V} {o:Option V} (I:Inv X pins σ H s) (g:DGet H a y o):s.TypeIs (.ref a) "dict":=by
  rcases g with ⟨kvs,k,e,_,_⟩ | ⟨kvs,k,b,e,_,_,_⟩
  · obtain ⟨_,_,vs,_,dd⟩:=Zjd I.hok e
    exact dd.typeIs
  · obtain ⟨_,_,xs,_,dd⟩:=Zl8 I.hok e
    exact dd.typeIs
def Zwo (td ty:TE):TE:=fun σ H Q=>td σ H fun x H1=>ty σ H1 fun y H2=>∃a v,x=.ref a∧DGet H2 a y (some v)∧Q v H2
def Zwn (ty td:TE):TE:=fun σ H Q=>ty σ H fun y H1=>td σ H1 fun x H2=>∃a o,x=.ref a∧DGet H2 a y o∧Q (.bl o.isSome) H2
section
variable {X:Cx} {o i e value:Expr} {pos pos' tpos:Pos} {td ty tv:TE}
theorem ZsL (hu:X.A.units+1<cLine) (ho:PE X o td) (hi:PE X i ty) (hs:Zvx i):PE X (.Subscript o i pos) (Zwo td ty):=by
  intro pins s σ H Q I h
  refine Zso PySem.F.slot_dict_getitem.lookup hs (thn (ho pins s σ H _ I h) fun u s1 ⟨x,H1,I1,rx,q1⟩=>thn (hi pins s1 σ H1 _ I1 q1) fun iv s2 ⟨y,H2,I2,ry,a,v,ex,g,q2⟩=>?_)
  subst ex
  obtain rfl:u=Value.ref a:=rx
  exact ⟨Zmd I2 g,ZoB hu I2 g ry fun w' s3 I3 rw'=>⟨v,H2,I3,rw',q2⟩⟩
theorem ZuW (hu:X.A.units+1<cLine) (hi:PE X i ty) (ho:PE X o td):PC X .In i o (Zwn ty td):=by
  intro pins s σ H Q I h
  refine thn (hi pins s σ H _ I h) fun iv s1 ⟨y,H1,I1,ry,q1⟩=>thn (ho pins s1 σ H1 _ I1 q1) fun u s2 ⟨x,H2,I2,rx,a,ov,ex,g,q2⟩=>?_
  subst ex
  obtain rfl:u=Value.ref a:=rx
  exact ZA7 hu I2 g ry fun s3 I3=>⟨.bl ov.isSome,H2,I3,rfl,q2⟩
end
theorem Zmc {P:Program} {w:World} {H:Hp} (h:Heap) (hb:sysModules<h.objs.size):ObjOk P w H (h.push { cls:=.type "dict",data:=.dict #[] }) h.objs.size (.dK []):=
  ⟨Nat.zero_le _,beq_eq_false_iff_ne.mpr (Ne.symm (Nat.ne_of_lt hb)),[],.nil,Heap.DictOf.new h⟩
def Zuw:TE:=fun _ H Q=>∀p,H p=none→Q (.ref p) (upd H p (.dK []))
section
variable {X:Cx} {pos:Pos}
theorem ZqS:PE X (.Dict [] [] pos) Zuw:=fun pins s σ H Q I h=>
  wpAny_Dict_empty ⟨.ref s.heap.objs.size,_,I.laid (a:=s.heap.objs.size) (o:=.dK []) (t':=s.toks) (fun _ _ q=>Heap.get?_push_of_some _ q) (Nat.le_refl _) (Zmc s.heap I.big),rfl,h _ (I.hok.fresh (Nat.le_refl _))⟩
end
def Zjv:List (TE×TE)→St→Hp→(List (V×V)→Hp→Prop)→Prop
  | [],_,H,Q=>Q [] H
  | (tk,tv)::r,σ,H,Q=>tk σ H fun x H1=>tv σ H1 fun y H2=>Zjv r σ H2 fun ps H3=>Q ((x,y)::ps) H3
abbrev VV:List (V×V)→List (Value×Value)→Prop:=Paired fun p q=>RelV p.1 q.1∧RelV p.2 q.2
def PPs (X:Cx) (pos:Pos) (keys:List (Option Expr)) (values:List Expr) (trs:List (TE×TE)):Prop:=
  ∀(pins:List (Addr×Obj)) (s:Shared) (σ:St) (H:Hp) (Q:List (V×V)→Hp→Prop),Inv X pins σ H s→Zjv trs σ H Q→
    wpAny (model X.prog X.w) X.A (evalPairs (pairTrees keys values X.env pos)) (fun vs s'=>∃ps H',Inv X pins σ H' s'∧VV ps vs∧Q ps H') X.xe s
theorem ZsE {X:Cx} {pos:Pos}:PPs X pos [] [] []:=fun pins s σ H Q I h=>pairTrees_nil_walk ⟨[],H,I,.nil,h⟩
theorem ZqI {X:Cx} {pos:Pos} {k v:Expr} {ks:List (Option Expr)} {vs:List Expr} {tk tv:TE} {trs:List (TE×TE)} (hk:PE X k tk) (hv:PE X v tv) (hr:PPs X pos ks vs trs) :
    PPs X pos (some k::ks) (v::vs) ((tk,tv)::trs):=fun pins s σ H Q I h=>
  pairTrees_cons_walk (thn (hk pins s σ H _ I h) fun u s1 ⟨x,H1,I1,rx,q1⟩=>thn (hv pins s1 σ H1 _ I1 q1) fun w2 s2 ⟨y,H2,I2,ry,q2⟩=>
    thn (hr pins s2 σ H2 _ I2 q2) fun ws s3 ⟨ps,H3,I3,rel,q3⟩=>⟨(x,y)::ps,H3,I3,.cons ⟨rx,ry⟩ rel,q3⟩)
def Zdf (kvs more:List (Key×V)):List (Key×V):=more.foldl (fun acc kv=>Zez acc kv.1 kv.2) kvs
theorem KV.merge:∀{more:List (Key×V)} {rs:List (Key×Value)} {kvs:List (Key×V)} {vs:List (Key×Value)},KV more rs→KV kvs vs→KV (Zdf kvs more) (merged vs rs):=by
  intro more rs kvs vs r
  unfold KV at r
  induction r generalizing kvs vs with
  | nil=>intro q; exact q
  | @cons p q ps qs h t ih=>
    intro r0
    have e:KV (Zez kvs p.1 p.2) (stored vs q.1 q.2):=by
      have:=r0.put p.1 h.2
      rw [←h.1]; exact this
    exact ih e
theorem Zfv:∀(more kvs:List (Key×V)),(Zdf kvs more).length≤kvs.length+more.length
  | [],kvs=>by show kvs.length≤kvs.length+0; omega
  | p::r,kvs=>by
    have h1:=Zfv r (Zez kvs p.1 p.2)
    have h2:=Zg1 kvs p.1 p.2
    show (Zdf (Zez kvs p.1 p.2) r).length≤_
    rw [List.length_cons]; omega
theorem Zih {P:Program} {w:World}:∀{kvs:List (Key×V)} {ws:List (Value×Value)},VV (kvs.map fun kv=>(kV kv.1,kv.2)) ws→∃rs,Carries (zZ P w) ws rs∧KV kvs rs
  | [],_,r=>by rw [List.map_nil] at r; cases r; exact ⟨[],True.intro,.nil⟩
  | p::kvs,_,r=>by
    rw [List.map_cons] at r
    cases r with
    | @cons a b as bs h t=>
      obtain ⟨rs,c,q⟩:=Zih (P:=P) (w:=w) t
      obtain ⟨b1,b2⟩:=b
      exact ⟨(p.1,b2)::rs,⟨Zg5 h.1,rfl,c⟩,.cons ⟨rfl,h.2⟩ q⟩
def Zwm (trs:List (TE×TE)):TE:=fun σ H Q=>∀p,H p=none→Zjv trs σ (upd H p (.dK [])) fun ps H2=>H2 p=some (.dK [])∧∃kvs:List (Key×V),ps=kvs.map (fun kv=>(kV kv.1,kv.2))∧kvs.length≤15∧Q (.ref p) (upd H2 p (.dK (Zdf [] kvs)))
theorem Znp {X:Cx} {pos:Pos} {keys:List (Option Expr)} {values:List Expr} {trs:List (TE×TE)} (h:PPs X pos keys values trs) (hall:keys.all (·.isSome)=true) (hl:keys.length=values.length) (h0:keys≠[])
    (h15:keys.length≤15):PE X (.Dict keys values pos) (Zwm trs):=by
  intro pins s σ H Q I q
  have hn:=I.hok.fresh (Nat.le_refl s.heap.objs.size)
  have I1:=I.laid (a:=s.heap.objs.size) (o:=.dK []) (h':=s.heap.push { cls:=.type "dict",data:=.dict #[] }) (t':=s.toks) (fun _ _ q=>Heap.get?_push_of_some _ q) (Nat.le_refl _) (Zmc s.heap I.big)
  refine wpAny_Dict_walk (knd:=zZ X.prog X.w) hall hl h0 h15 (thn (h pins _ σ _ _ I1 (q _ hn)) fun ws s2 ⟨ps,H2,I2,rel,e,kvs,ep,lk,q2⟩=>?_)
  subst ep
  obtain ⟨rs,c,rk⟩:=Zih (P:=X.prog) (w:=X.w) rel
  obtain ⟨z,hd,vs0,r0,dd⟩:=ZnN I2.hok e
  cases r0
  refine ⟨rs,c,dd,fun h' dd' hs=>⟨.ref s.heap.objs.size,_,?_,rfl,q2⟩⟩
  have hz:(Zdf [] kvs).length≤sizeLine:=by
    have h1:=Zfv kvs []
    rw [List.length_nil] at h1
    rw [sizeLine_eq]; omega
  have he:∃q,h'.get? s.heap.objs.size=some q:=let ⟨q,_,_,hq,_⟩:=dd'; ⟨q,hq⟩
  exact ZhC I2 (by rw [e]; exact True.intro) hs he (ZjT hz hd (rk.merge .nil) dd')
structure M1 (X:Cx) (o:Expr) (m:Str) (apos:Pos) (e:Expr) (cpos:Pos):Prop where
  base:attributeBase o m X.env (eval o X.env)=eval o X.env
  few:((backTo cpos (starEach [e] X.env)).all (fun x=>!x.1) && (backToKw cpos (keywordEach [] X.env)).all (fun x=>x.1.isSome)
    && decide (([e]:List Expr).length+([]:List Keyword).length+(if ([]:List Keyword).isEmpty then 0 else 1)<30))=true
  line:(apos.endLine == cpos.line)=true
  trees:backTo cpos (starEach [e] X.env)=[(false,eval e X.env)]
structure M2 (X:Cx) (o:Expr) (m:Str) (apos:Pos) (e f:Expr) (cpos:Pos):Prop where
  base:attributeBase o m X.env (eval o X.env)=eval o X.env
  few:((backTo cpos (starEach [e,f] X.env)).all (fun x=>!x.1) && (backToKw cpos (keywordEach [] X.env)).all (fun x=>x.1.isSome)
    && decide (([e,f]:List Expr).length+([]:List Keyword).length+(if ([]:List Keyword).isEmpty then 0 else 1)<30))=true
  line:(apos.endLine == cpos.line)=true
  trees:backTo cpos (starEach [e,f] X.env)=[(false,eval e X.env),(false,eval f X.env)]
def IsD (H:Hp) (a:Addr):Prop:=(∃kvs,Rd H a (.dK kvs))∨∃kvs,Rd H a (.dT kvs)
theorem ZmS {X:Cx} {pins:List (Addr×Obj)} {σ:St} {H:Hp} {s:Shared} {a:Addr} (I:Inv X pins σ H s) (d:IsD H a) :
    s.TypeIs (.ref a) "dict"∧(∀b,Value.ref a=.ref b→∃ob,s.heap.get? b=some ob∧ob.dict=none)∧(a == sysModules)=false:=by
  rcases d with ⟨kvs,e⟩ | ⟨kvs,e⟩
  · obtain ⟨_,hd,vs,_,dd⟩:=Zjd I.hok e
    refine ⟨dd.typeIs,fun b q=>?_,hd⟩
    cases q
    obtain ⟨ob,_,_,h1,h2,_⟩:=dd
    exact ⟨ob,h1,h2.2.1⟩
  · obtain ⟨_,hd,xs,_,dd⟩:=Zl8 I.hok e
    refine ⟨dd.typeIs,fun b q=>?_,hd⟩
    cases q
    obtain ⟨ob,_,_,h1,h2,_⟩:=dd
    exact ⟨ob,h1,h2.2.1⟩
section
variable {X:Cx} {pins:List (Addr×Obj)} {σ:St} {H:Hp} {s:Shared} {a:Addr} {y d:V} {u r:Value} {o:Option V} {A:Around} {E:Value→Shared→Prop}
theorem Zvn {Q:Value→Shared→Prop} (hu:A.units+1<cLine) (I:Inv X pins σ H s) (g:DGet H a y o) (ry:RelV y u) (rd:RelV d r) (h:∀w' s',Inv X pins σ H s'→RelV (o.getD d) w'→Q w' s') :
    wpAny (model X.prog X.w) A (call (.builtin "dict.get") [.ref a,u,r]) Q E s:=by
  rcases g with ⟨kvs,k,e,ey,l⟩ | ⟨kvs,k,b,e,ey,eb,l⟩
  · subst ey
    obtain ⟨z,hd,vs,rel,dd⟩:=Zjd I.hok e
    refine call_meetsIn PySem.F.slot_dict_get dd.typeIs PySem.F.entry_dict_get (PySem.F.args_dict_get_3 _ _ _) (meets_dict_get_default (zZ X.prog X.w) a (Zg5 ry) hd r) ⟨_,dd.mapOf,h _ _ (I.tok _) ?_⟩
    rw [l]
    exact (rel.val k).getD rd
  · subst ey
    cases (show u=Value.ref b from ry)
    obtain ⟨z,hd,xs,rel,dd⟩:=Zl8 I.hok e
    refine call_meetsIn PySem.F.slot_dict_get dd.typeIs PySem.F.entry_dict_get (PySem.F.args_dict_get_3 _ _ _) (meetsH_dict_get_default (tupleKind (zZ X.prog X.w)) a b hd r) ⟨tupleKind_room_in1 hu,k,xs,ZjK I.hok eb,dd,h _ _ (I.tok _) ?_⟩
    rw [l]
    exact (rel.val k).getD rd
end
def Zux (td ty tx:TE):TE:=fun σ H Q=>td σ H fun x H1=>∃a,x=.ref a∧IsD H1 a∧ty σ H1 fun y H2=>tx σ H2 fun z H3=>∃o,DGet H3 a y o∧Q (o.getD z) H3
def Zuv (td ty:TE):TE:=fun σ H Q=>td σ H fun x H1=>∃a,x=.ref a∧IsD H1 a∧ty σ H1 fun y H2=>∃kvs k v,H2 a=some (.dK kvs)∧y=kV k∧valV kvs k=some v∧Q v (upd H2 a (.dK (Zfx kvs k)))
section
variable {X:Cx} {o e f:Expr} {apos cpos:Pos} {td ty tx:TE}
theorem ZqT (hu:X.A.units+1<cLine) (ho:PE X o td) (he:PE X e ty) (hf:PE X f tx) (m:M2 X o "get" apos e f cpos):PE X (.Call (.Attribute o "get" apos) [e,f] [] cpos) (Zux td ty tx):=by
  intro pins s σ H Q I h
  refine wpAny_Call_method m.base m.few m.line PySem.F.plainAttrs_dict PySem.F.slot_dict_get PySem.F.type_dict_get (thn (ho pins s σ H _ I h) fun u s1 ⟨x,H1,I1,rx,a,ex,d,q1⟩=>?_)
  subst ex
  obtain rfl:u=Value.ref a:=rx
  obtain ⟨t1,t2,_⟩:=ZmS I1 d
  refine ⟨t1,t2,?_⟩
  rw [m.trees]
  refine Calls.callWith_builtin rfl (Calls.evalArgs_plain (Calls.spliced_cons (thn (he pins s1 σ H1 _ I1 q1) fun iv s2 ⟨y,H2,I2,ry,q2⟩=>
    Calls.spliced_cons (thn (hf pins s2 σ H2 _ I2 q2) fun fv s3 ⟨z,H3,I3,rz,ov,g,q3⟩=>Calls.spliced_nil ?_))))
  exact Zvn hu I3 g ry rz fun w' s4 I4 rw'=>⟨_,H3,I4,rw',q3⟩
theorem ZqR (ho:PE X o td) (he:PE X e ty) (m:M1 X o "pop" apos e cpos):PE X (.Call (.Attribute o "pop" apos) [e] [] cpos) (Zuv td ty):=by
  intro pins s σ H Q I h
  refine wpAny_Call_method m.base m.few m.line PySem.F.plainAttrs_dict PySem.F.slot_dict_pop PySem.F.type_dict_pop (thn (ho pins s σ H _ I h) fun u s1 ⟨x,H1,I1,rx,a,ex,d,q1⟩=>?_)
  subst ex
  obtain rfl:u=Value.ref a:=rx
  obtain ⟨t1,t2,_⟩:=ZmS I1 d
  refine ⟨t1,t2,?_⟩
  rw [m.trees]
  refine Calls.callWith_builtin rfl (Calls.evalArgs_plain (Calls.spliced_cons (thn (he pins s1 σ H1 _ I1 q1) fun iv s2 ⟨y,H2,I2,ry,kvs,k,v,ea,ey,l,q2⟩=>Calls.spliced_nil ?_)))
  subst ey
  exact Zxk I2 ea ry l (.inl rfl) fun w' s3 I3 rw'=>⟨v,_,I3,rw',q2⟩
end
section
variable {X:Cx} {pins:List (Addr×Obj)} {σ:St} {H:Hp} {s:Shared} {a:Addr} {kvs:List (Key×V)} {A:Around} {E:Value→Shared→Prop}
end
section
variable {X:Cx} {pins:List (Addr×Obj)} {σ:St} {H:Hp} {s:Shared} {a:Addr} {y:V} {u:Value} {A:Around} {E:Value→Shared→Prop}
end
end L2
namespace L2.MM
open PySem PySem.Spec PyProof.Rows
theorem nr {α:Sort _} {a b:α} (h:a=b):a=b:=h
inductive D where
  | non | bl (b:Bool) | int (i:Int) | str (x:Str) | ty (n:String)
  | scr (ns:List Int) | tup (xs:List D) | lst (xs:List D) | ref (l:Nat)
  deriving Inhabited
inductive Cell where
  | lst (xs:List D) | dK (kvs:List (Key×D)) | dT (kvs:List (List Key×D)) | ins (C:Str) (fs:List (Str×D))
abbrev Sto:=List Cell
structure Bx where
  n:Nat
  m:Nat→Addr
  F:Addr→Prop
  os:List Addr
  ks:Addr→List Int→Prop
def Bx.ok (B:Bx) (a:Addr):Prop:=(∀i,i<B.n→B.m i≠a)∧¬B.F a∧a∉B.os
mutual
def RepV (B:Bx) (H:Hp):D→V→Prop
  | .non,v=>v=.non
  | .bl b,v=>v=.bl b
  | .int i,v=>v=.int i
  | .str x,v=>v=.str x
  | .ty n,v=>v=.ty n
  | .scr ns,v=>∃a,v=.ref a∧((∃o,H a=some (.frz o (.lst (ns.map V.int)))∧B.ok a)∨B.ks a ns)
  | .tup xs,v=>∃a vs,v=.ref a∧H a=some (.tup vs)∧B.ok a∧RepL B H xs vs
  | .lst xs,v=>∃a vs,v=.ref a∧H a=some (.lst vs)∧B.ok a∧RepL B H xs vs
  | .ref l,v=>l<B.n∧v=.ref (B.m l)
def RepL (B:Bx) (H:Hp):List D→List V→Prop
  | [],vs=>vs=[]
  | d::ds,vs=>∃v r,vs=v::r∧RepV B H d v∧RepL B H ds r
end
abbrev RepKV {κ:Type} (B:Bx) (H:Hp):List (κ×D)→List (κ×V)→Prop:=Paired fun p q=>p.1=q.1∧RepV B H p.2 q.2
structure ExtS (B B':Bx) (H H':Hp):Prop where
  n:B.n≤B'.n
  m:∀i,i<B.n→B'.m i=B.m i
  fr:∀i,B.n≤i→i<B'.n→H (B'.m i)=none
  keep:∀a o,H a=some o→(∀i,i<B.n→B.m i≠a)→a∉B.os→H' a=some o
  sm:∀a,H a≠none→H' a≠none
  os:∀a,a∈B'.os→a∈B.os∨H a=none
  F:B'.F=B.F
  ks:B'.ks=B.ks
structure ExtE (B B':Bx) (H H':Hp):Prop extends ExtS B B' H H' where
  osE:B'.os=B.os
  ko:∀a o,a∈B.os→(∀i,i<B.n→B.m i≠a)→H a=some o→H' a=some o
theorem ExtS.refl (B:Bx) (H:Hp):ExtS B B H H:=⟨Nat.le_refl _,fun _ _=>rfl,fun i h h'=>absurd h' (Nat.not_lt.mpr h),fun _ _ h _ _=>h,fun _ h=>h,fun _ h=>.inl h,rfl,rfl⟩
theorem ExtE.refl (B:Bx) (H:Hp):ExtE B B H H:=⟨ExtS.refl B H,rfl,fun _ _ _ _ h=>h⟩
section
variable {B B' B'':Bx} {H H' H'':Hp}
theorem Bx.ok.ext {a:Addr} {o:HO} (k:B.ok a) (E:ExtS B B' H H') (h:H a=some o):B'.ok a∧H' a=some o:=by
  refine ⟨⟨fun i hi e=>?_,by rw [E.F]; exact k.2.1,fun z=>?_⟩,E.keep a o h k.1 k.2.2⟩
  · by_cases q:i<B.n
    · rw [E.m i q] at e; exact k.1 i q e
    · have:=E.fr i (Nat.not_lt.mp q) hi
      rw [e,h] at this; cases this
  · rcases E.os a z with z | z
    · exact k.2.2 z
    · rw [h] at z; cases z
theorem ExtS.trans (E:ExtS B B' H H') (E':ExtS B' B'' H' H''):ExtS B B'' H H'' where
  n:=Nat.le_trans E.n E'.n
  m:=fun i hi=>(E'.m i (Nat.lt_of_lt_of_le hi E.n)).trans (E.m i hi)
  fr:=fun i h1 h2=>by
    by_cases q:i<B'.n
    · rw [E'.m i q]; exact E.fr i h1 q
    · cases z:H (B''.m i) with
      | none=>rfl
      | some o=>exact absurd (E'.fr i (Nat.not_lt.mp q) h2) (E.sm _ (by rw [z]; simp))
  keep:=fun a o h h1 h2=>by
    have h':=E.keep a o h h1 h2
    refine E'.keep a o h' (fun i hi e=>?_) (fun z=>?_)
    · by_cases q:i<B.n
      · rw [E.m i q] at e; exact h1 i q e
      · have:=E.fr i (Nat.not_lt.mp q) hi
        rw [e,h] at this; cases this
    · rcases E.os a z with z | z
      · exact h2 z
      · rw [h] at z; cases z
  sm:=fun a h=>E'.sm a (E.sm a h)
  os:=fun a h=>by
    rcases E'.os a h with z | z
    · exact E.os a z
    · right
      cases q:H a with
      | none=>rfl
      | some o=>exact absurd z (E.sm a (by rw [q]; simp))
  F:=E'.F.trans E.F
  ks:=E'.ks.trans E.ks
theorem ExtE.trans (E:ExtE B B' H H') (E':ExtE B' B'' H' H''):ExtE B B'' H H'' where
  toExtS:=E.toExtS.trans E'.toExtS
  osE:=E'.osE.trans E.osE
  ko:=fun a o ha h1 h=>by
    have h':=E.ko a o ha h1 h
    refine E'.ko a o (by rw [E.osE]; exact ha) (fun i hi e=>?_) h'
    by_cases q:i<B.n
    · rw [E.m i q] at e; exact h1 i q e
    · have:=E.fr i (Nat.not_lt.mp q) hi
      rw [e,h] at this; cases this
mutual
theorem RepV.ext (E:ExtS B B' H H'):∀{d:D} {v:V},RepV B H d v→RepV B' H' d v
  | .non,_,h=>h
  | .bl _,_,h=>h
  | .int _,_,h=>h
  | .str _,_,h=>h
  | .ty _,_,h=>h
  | .scr _,_,h=>by
    obtain ⟨a,e,h⟩:=h
    refine ⟨a,e,?_⟩
    rcases h with ⟨o,h,k⟩ | h
    · obtain ⟨k',h'⟩:=k.ext E h
      exact .inl ⟨o,h',k'⟩
    · exact .inr (by rw [E.ks]; exact h)
  | .tup _,_,h=>by
    obtain ⟨a,vs,e,h,k,l⟩:=h
    obtain ⟨k',h'⟩:=k.ext E h
    exact ⟨a,vs,e,h',k',RepL.ext E l⟩
  | .lst _,_,h=>by
    obtain ⟨a,vs,e,h,k,l⟩:=h
    obtain ⟨k',h'⟩:=k.ext E h
    exact ⟨a,vs,e,h',k',RepL.ext E l⟩
  | .ref l,_,h=>⟨Nat.lt_of_lt_of_le h.1 E.n,by rw [h.2,E.m l h.1]⟩
theorem RepL.ext (E:ExtS B B' H H'):∀{ds:List D} {vs:List V},RepL B H ds vs→RepL B' H' ds vs
  | [],_,h=>h
  | _::_,_,h=>by
    obtain ⟨v,r,e,hv,hr⟩:=h
    exact ⟨v,r,e,RepV.ext E hv,RepL.ext E hr⟩
end
theorem RepL.len:∀{ds:List D} {vs:List V},RepL B H ds vs→vs.length=ds.length
  | [],_,h=>by cases (show _=[] from h); rfl
  | _::_,_,h=>by
    obtain ⟨v,r,rfl,_,hr⟩:=h
    simp [RepL.len hr]
theorem RepL.app:∀{ds es:List D} {vs us:List V},RepL B H ds vs→RepL B H es us→RepL B H (ds++es) (vs++us)
  | [],_,_,_,h,q=>by cases (show _=[] from h); exact q
  | _::_,_,_,_,h,q=>by
    obtain ⟨v,r,rfl,hv,hr⟩:=h
    exact ⟨v,_,rfl,hv,RepL.app hr q⟩
theorem RepL.get:∀{ds:List D} {vs:List V} {i:Nat} {d:D},RepL B H ds vs→ds[i]?=some d→∃v,vs[i]?=some v∧RepV B H d v
  | [],_,_,_,_,e=>by simp at e
  | _::_,_,0,_,h,e=>by
    obtain ⟨v,r,rfl,hv,_⟩:=h
    simp at e; subst e
    exact ⟨v,rfl,hv⟩
  | _::_,_,i+1,_,h,e=>by
    obtain ⟨v,r,rfl,_,hr⟩:=h
    obtain ⟨w,q1,q2⟩:=RepL.get (i:=i) hr (by simpa using e)
    exact ⟨w,by simpa using q1,q2⟩
theorem RepL.take:∀{ds:List D} {vs:List V} (n:Nat),RepL B H ds vs→RepL B H (ds.take n) (vs.take n)
  | _,_,0,_=>by rw [List.take_zero,List.take_zero]; exact rfl
  | [],_,n+1,h=>by cases (show _=[] from h); exact rfl
  | _::_,_,n+1,h=>by
    obtain ⟨v,r,rfl,hv,hr⟩:=h
    exact ⟨v,_,rfl,hv,RepL.take n hr⟩
theorem RepL.drop:∀{ds:List D} {vs:List V} (n:Nat),RepL B H ds vs→RepL B H (ds.drop n) (vs.drop n)
  | _,_,0,h=>h
  | [],_,n+1,h=>by cases (show _=[] from h); exact rfl
  | _::_,_,n+1,h=>by
    obtain ⟨v,r,rfl,hv,hr⟩:=h
    exact RepL.drop n hr
theorem RepL.map {α:Type} {f:α→D} {g:α→V} (q:∀a,RepV B H (f a) (g a)):∀l:List α,RepL B H (l.map f) (l.map g)
  | []=>rfl
  | a::l=>⟨_,_,rfl,q a,RepL.map q l⟩
theorem RepKV.ext {κ:Type} (E:ExtS B B' H H'):∀{ks:List (κ×D)} {vs:List (κ×V)},RepKV B H ks vs→RepKV B' H' ks vs
  | _,_,.nil=>.nil
  | _,_,.cons h t=>.cons ⟨h.1,RepV.ext E h.2⟩ (RepKV.ext E t)
end
structure Mo where
  cl:Str→Addr
  K:PySem.W.Frag
def KL (K:PySem.W.Frag) (a:Addr) (ns:List Int):Prop:=∃(o:Obj) (its:Array Value) (n:Nat),K.lookup a=some o∧o.cls=.type "list"∧o.dict=none∧o.data=.seq its n∧its.size≤sizeLine∧Vals (ns.map V.int) its.toList
def CellOk (cl:Mo) (B:Bx) (H:Hp) (a:Addr):Cell→Prop
  | .lst xs=>∃vs,H a=some (.lst vs)∧RepL B H xs vs
  | .dK kvs=>∃vs,H a=some (.dK vs)∧RepKV B H kvs vs
  | .dT kvs=>∃vs,H a=some (.dT vs)∧RepKV B H kvs vs
  | .ins C fs=>∃dx vs,H a=some (.ins (cl.cl C) dx vs)∧RepKV B H fs vs
structure Good (cl:Mo) (B:Bx) (θ:Sto) (H:Hp):Prop where
  len:θ.length=B.n
  inj:∀i j,i<B.n→j<B.n→B.m i=B.m j→i=j
  cel:∀i c,θ[i]?=some c→CellOk cl B H (B.m i) c
  cF:∀i,i<B.n→¬B.F (B.m i)∧B.m i∉B.os
  Fs:∀a,B.F a→H a≠none
  oS:∀a,a∈B.os→H a≠none
  oF:∀a,a∈B.os→¬B.F a
  kc:∀a ns,B.ks a ns→KL cl.K a ns
section
variable {cl:Mo} {B B' B'':Bx} {H H' H'':Hp} {θ θ':Sto}
theorem CellOk.ext {a:Addr} {c:Cell} (k:CellOk cl B H a c) (E:ExtS B B' H H') (h:∀o,H a=some o→H' a=some o):CellOk cl B' H' a c:=by
  cases c with
  | lst xs=>obtain ⟨vs,e,r⟩:=k; exact ⟨vs,h _ e,r.ext E⟩
  | dK kvs=>obtain ⟨vs,e,r⟩:=k; exact ⟨vs,h _ e,r.ext E⟩
  | dT kvs=>obtain ⟨vs,e,r⟩:=k; exact ⟨vs,h _ e,r.ext E⟩
  | ins C fs=>obtain ⟨dx,vs,e,r⟩:=k; exact ⟨dx,vs,h _ e,r.ext E⟩
theorem CellOk.there {a:Addr} {c:Cell} (k:CellOk cl B H a c):H a≠none:=by
  cases c with
  | lst xs=>obtain ⟨vs,e,r⟩:=k; rw [e]; simp
  | dK kvs=>obtain ⟨vs,e,r⟩:=k; rw [e]; simp
  | dT kvs=>obtain ⟨vs,e,r⟩:=k; rw [e]; simp
  | ins C fs=>obtain ⟨dx,vs,e,r⟩:=k; rw [e]; simp
theorem Good.there (G:Good cl B θ H) {i:Nat} (hi:i<B.n):H (B.m i)≠none:=by
  have:i < θ.length:=by rw [G.len]; exact hi
  exact (G.cel i _ (List.getElem?_eq_getElem this)).there
theorem Good.okNone (G:Good cl B θ H) {p:Addr} (h:H p=none):B.ok p:=
  ⟨fun i hi e=>G.there hi (by rw [e]; exact h),fun z=>G.Fs p z h,fun z=>G.oS p z h⟩
theorem Zb5 (G:Good cl B θ H) {p:Addr} (h:H p=none) (o:HO):ExtE B B H (upd H p o):=by
  have ne:∀a u,H a=some u→upd H p o a=some u:=fun a u e=>by rw [ZS (zm e h)]; exact e
  exact ⟨⟨Nat.le_refl _,fun _ _=>rfl,fun i h h'=>absurd h' (Nat.not_lt.mpr h),fun a u e _ _=>ne a u e,fun a e=>by
    cases q:H a with
    | none=>exact absurd q e
    | some u=>rw [ne a u q]; simp,fun _ h=>.inl h,rfl,rfl⟩,rfl,fun a u _ _ e=>ne a u e⟩
theorem Zdh (G:Good cl B θ H) {p:Addr} (h:H p=none) (o:HO):Good cl B θ (upd H p o):=by
  have E:=Zb5 G h o
  exact ⟨G.len,G.inj,fun i c e=>(G.cel i c e).ext E.toExtS fun u q=>by rw [ZS (zm q h)]; exact q,G.cF,fun a z=>E.sm a (G.Fs a z),fun a z=>E.sm a (G.oS a z),G.oF,G.kc⟩
theorem Zsu (G:Good cl B θ H) {p:Addr} (h:H p=none) {xs:List D} {vs:List V} (r:RepL B H xs vs):RepV B (upd H p (.lst vs)) (.lst xs) (.ref p):=
  ⟨p,vs,rfl,zi,G.okNone h,r.ext (Zb5 G h _).toExtS⟩
theorem Zst (G:Good cl B θ H) {p:Addr} (h:H p=none) {xs:List D} {vs:List V} (r:RepL B H xs vs):RepV B (upd H p (.tup vs)) (.tup xs) (.ref p):=
  ⟨p,vs,rfl,zi,G.okNone h,r.ext (Zb5 G h _).toExtS⟩
def Bx.push (B:Bx) (p:Addr):Bx:={ B with n:=B.n+1,m:=fun i=>if i=B.n then p else B.m i }
theorem Zie (G:Good cl B θ H) {p:Addr} (h:H p=none) (o:HO):ExtE B (B.push p) H (upd H p o):=by
  have E:=Zb5 G h o
  refine ⟨⟨Nat.le_succ _,fun i hi=>if_neg (Nat.ne_of_lt hi),fun i h1 h2=>?_,E.keep,E.sm,fun _ h=>.inl h,rfl,rfl⟩,rfl,E.ko⟩
  have e:i=B.n:=Nat.le_antisymm (Nat.le_of_lt_succ h2) h1
  show H (if i=B.n then p else B.m i)=none
  rw [if_pos e]; exact h
theorem Zi9 (G:Good cl B θ H) {p:Addr} (h:H p=none) {o:HO} {c:Cell} (k:CellOk cl (B.push p) (upd H p o) p c):Good cl (B.push p) (θ++[c]) (upd H p o):=by
  have E:=Zie G h o
  have hm:∀i,i<B.n→(B.push p).m i=B.m i:=fun i hi=>if_neg (Nat.ne_of_lt hi)
  have hn:(B.push p).m B.n=p:=if_pos rfl
  have cs:∀i,i<(B.push p).n→i<B.n∨i=B.n:=fun i hi=>Nat.lt_succ_iff_lt_or_eq.mp hi
  have ok:=G.okNone h
  refine ⟨by rw [List.length_append,G.len]; rfl,fun i j hi hj e=>?_,fun i c' e=>?_,fun i hi=>?_,fun a z=>E.sm a (G.Fs a z),fun a z=>E.sm a (G.oS a z),G.oF,G.kc⟩
  · rcases cs i hi with a | a<;>rcases cs j hj with b | b
    · rw [hm i a,hm j b] at e; exact G.inj i j a b e
    · rw [hm i a,b,hn] at e; exact absurd e (ok.1 i a)
    · rw [hm j b,a,hn] at e; exact absurd e.symm (ok.1 j b)
    · rw [a,b]
  · by_cases q:i < θ.length
    · rw [List.getElem?_append_left q] at e
      rw [hm i (by rw [←G.len]; exact q)]
      exact (G.cel i c' e).ext E.toExtS fun u z=>by rw [ZS (zm z h)]; exact z
    · have q':=Nat.not_lt.mp q
      rw [List.getElem?_append_right q'] at e
      have:i - θ.length=0:=by
        cases z:i - θ.length with
        | zero=>rfl
        | succ k=>rw [z] at e; simp at e
      rw [this] at e
      simp at e
      subst e
      have:i=B.n:=by rw [←G.len]; omega
      rw [this,hn]; exact k
  · rcases cs i hi with a | a
    · rw [hm i a]; exact G.cF i a
    · rw [a,hn]; exact ⟨ok.2.1,ok.2.2⟩
theorem ZhB (G:Good cl B θ H) {l:Nat} (hl:l<B.n) (o:HO):ExtE B B H (upd H (B.m l) o):=by
  have ne:∀a u,(∀i,i<B.n→B.m i≠a)→H a=some u→upd H (B.m l) o a=some u:=fun a u k e=>by rw [ZS (Ne.symm (k l hl))]; exact e
  exact ⟨⟨Nat.le_refl _,fun _ _=>rfl,fun i h h'=>absurd h' (Nat.not_lt.mpr h),fun a u e k _=>ne a u k e,fun a e=>by
    by_cases q:a=B.m l
    · rw [q,zi]; simp
    · rw [ZS q]; exact e,fun _ h=>.inl h,rfl,rfl⟩,rfl,fun a u _ k e=>ne a u k e⟩
theorem Zic (G:Good cl B θ H) {l:Nat} (hl:l<B.n) {o:HO} {c:Cell} (k:CellOk cl B (upd H (B.m l) o) (B.m l) c):Good cl B (θ.set l c) (upd H (B.m l) o):=by
  have E:=ZhB G hl o
  refine ⟨by rw [List.length_set]; exact G.len,G.inj,fun i c' e=>?_,G.cF,fun a z=>E.sm a (G.Fs a z),fun a z=>E.sm a (G.oS a z),G.oF,G.kc⟩
  by_cases q:i=l
  · subst q
    rw [List.getElem?_set_self (by rw [G.len]; exact hl)] at e
    cases e; exact k
  · rw [List.getElem?_set_ne (Ne.symm q)] at e
    have hi:i<B.n:=by rw [←G.len]; exact (List.getElem?_eq_some_iff.mp e).1
    exact (G.cel i c' e).ext E.toExtS fun u z=>by rw [ZS (fun z'=>q (G.inj i l hi hl z'))]; exact z
end
inductive R (α:Type) where
  | ok (a:α) (θ:Sto) | ex (c:Str) (θ:Sto) | bad
def R.bind {α β:Type} (r:R α) (k:α→Sto→R β):R β:=match r with
  | .ok a θ=>k a θ
  | .ex c θ=>.ex c θ
  | .bad=>.bad
@[simp] theorem R.bind_ok {α β:Type} (a:α) (θ:Sto) (k:α→Sto→R β):(R.ok a θ).bind k=k a θ:=nr rfl
@[simp] theorem R.bind_bad {α β:Type} (k:α→Sto→R β):(R.bad:R α).bind k=.bad:=nr rfl
inductive Sl where
  | no | val (d:D) | own (xs:List D)
structure Frm (cl:Mo) (B:Bx) (θ:Sto) (ρ:List Sl) (σ:St) (H:Hp):Prop where
  good:Good cl B θ H
  len:ρ.length=σ.length
  val:∀(i:Nat) (d:D),ρ[i]?=some (Sl.val d)→∃v,σ[i]?=some (some v)∧RepV B H d v
  own:∀(i:Nat) (xs:List D),ρ[i]?=some (Sl.own xs)→∃a vs,σ[i]?=some (some (.ref a))∧a∈B.os∧H a=some (.lst vs)∧RepL B H xs vs
  ne:∀(i j:Nat) (xs ys:List D) (a:Addr),i≠j→ρ[i]?=some (Sl.own xs)→ρ[j]?=some (Sl.own ys)→σ[i]?=some (some (.ref a))→σ[j]?≠some (some (.ref a))
theorem Frm.ext {cl:Mo} {B B':Bx} {θ θ':Sto} {ρ:List Sl} {σ:St} {H H':Hp} (F:Frm cl B θ ρ σ H) (E:ExtE B B' H H') (G:Good cl B' θ' H'):Frm cl B' θ' ρ σ H' where
  good:=G
  len:=F.len
  val:=fun i d e=>let ⟨v,h1,h2⟩:=F.val i d e; ⟨v,h1,h2.ext E.toExtS⟩
  own:=fun i xs e=>by
    obtain ⟨a,vs,h1,h2,h3,h4⟩:=F.own i xs e
    exact ⟨a,vs,h1,by rw [E.osE]; exact h2,E.ko a _ h2 (fun i hi z=>(F.good.cF i hi).2 (by rw [z]; exact h2)) h3,h4.ext E.toExtS⟩
  ne:=F.ne
def z9 (mg:Str→Option Value) (x:Str):Addr:=match mg x with
  | some (.ref a)=>a
  | _=>0
abbrev _root_.L2.Cx.cl (X:Cx):Mo:=⟨z9 X.mg,X.K⟩
def XE (X:Cx) (σ:St) (B:Bx) (H:Hp) (c:Str) (θ':Sto):Prop:=False
theorem XE.trans {X:Cx} {σ:St} {B B':Bx} {H H':Hp} {c:Str} {θ':Sto} (h:XE X σ B H c θ') (E:ExtE B B' H H'):XE X σ B' H' c θ':=h
def wpR (X:Cx) (σ:St) {α β:Type} (Rel:Bx→Hp→α→β→Prop) (B:Bx) (H:Hp) (r:R α) (Q:β→Hp→Prop):Prop:=match r with
  | .ok a θ'=>∀B' H' b,ExtE B B' H H'→Good X.cl B' θ' H'→Rel B' H' a b→Q b H'
  | .ex c θ'=>XE X σ B H c θ'
  | .bad=>False
section
variable {X:Cx} {σ:St} {α β γ δ:Type} {Rel:Bx→Hp→α→β→Prop} {Rel':Bx→Hp→γ→δ→Prop} {B B':Bx} {H H':Hp}
theorem wpR.mono {r:R α} {Q Q':β→Hp→Prop} (h:wpR X σ Rel B H r Q) (hQ:∀b H',Q b H'→Q' b H'):wpR X σ Rel B H r Q':=by
  cases r with
  | ok a θ'=>exact fun B' H' b e g q=>hQ _ _ (h B' H' b e g q)
  | ex c θ'=>exact h
  | bad=>exact h
theorem wpR.trans {r:R α} {Q:β→Hp→Prop} (h:wpR X σ Rel B H r Q) (E:ExtE B B' H H'):wpR X σ Rel B' H' r Q:=by
  cases r with
  | ok a θ'=>exact fun B2 H2 b e g q=>h B2 H2 b (E.trans e) g q
  | ex c θ'=>exact XE.trans (c:=c) (θ':=θ') (σ:=σ) (X:=X) h E
  | bad=>exact h
theorem wpR.bind {r:R α} {k:α→Sto→R γ} {Q:δ→Hp→Prop} (h:wpR X σ Rel' B H (r.bind k) Q) :
    wpR X σ Rel B H r (fun b H1=>∃B1 θ1 a,ExtE B B1 H H1∧Good X.cl B1 θ1 H1∧Rel B1 H1 a b∧wpR X σ Rel' B1 H1 (k a θ1) Q):=by
  cases r with
  | ok a θ'=>exact fun B1 H1 b E g q=>⟨B1,θ',a,E,g,q,wpR.trans h E⟩
  | ex c θ'=>exact h
  | bad=>exact h
end
abbrev EM:=List Sl→Sto→R D
abbrev TMr:=List Sl→Sto→R Bool
abbrev AM:=List Sl→Sto→R (List D)
def EqB (_:Bx) (_:Hp) (a b:Bool):Prop:=a=b
def tM (X:Cx) (f:EM):TE:=fun σ H Q=>∃B θ ρ,Frm X.cl B θ ρ σ H∧wpR X σ RepV B H (f ρ θ) Q
def tMT (X:Cx) (f:TMr):TT:=fun σ H Q=>∃B θ ρ,Frm X.cl B θ ρ σ H∧wpR X σ EqB B H (f ρ θ) Q
def tMA (X:Cx) (f:AM):TA:=fun σ H Q=>∃B θ ρ,Frm X.cl B θ ρ σ H∧wpR X σ RepL B H (f ρ θ) Q
def ME (X:Cx) (e:Expr) (f:EM):Prop:=PE X e (tM X f)
def MT (X:Cx) (e:Expr) (f:TMr):Prop:=PT X e (tMT X f)
def MW (X:Cx) (e:Expr) (f:TMr):Prop:=PW X e (tMT X f)
def MA (X:Cx) (es:List Expr) (f:AM):Prop:=PA X es (tMA X f)
section
variable {X:Cx} {σ:St} {H:Hp} {γ δ:Type} {Rel':Bx→Hp→γ→δ→Prop}
theorem Z4 {f:EM} {Q Q':VK} (h:tM X f σ H Q) (hQ:∀v H',Q v H'→Q' v H'):tM X f σ H Q':=let ⟨B,θ,ρ,F,w⟩:=h; ⟨B,θ,ρ,F,w.mono hQ⟩
theorem ZdP {f:TMr} {Q Q':Bool→Hp→Prop} (h:tMT X f σ H Q) (hQ:∀v H',Q v H'→Q' v H'):tMT X f σ H Q':=let ⟨B,θ,ρ,F,w⟩:=h; ⟨B,θ,ρ,F,w.mono hQ⟩
theorem ZbU {f:AM} {Q Q':List V→Hp→Prop} (h:tMA X f σ H Q) (hQ:∀v H',Q v H'→Q' v H'):tMA X f σ H Q':=let ⟨B,θ,ρ,F,w⟩:=h; ⟨B,θ,ρ,F,w.mono hQ⟩
variable {B:Bx} {θ:Sto} {ρ:List Sl}
theorem step {f:EM} {k:D→Sto→R γ} {Q:δ→Hp→Prop} (F:Frm X.cl B θ ρ σ H) (h:wpR X σ Rel' B H ((f ρ θ).bind k) Q) :
    tM X f σ H (fun v H1=>∃B1 θ1 d,ExtE B B1 H H1∧Frm X.cl B1 θ1 ρ σ H1∧RepV B1 H1 d v∧wpR X σ Rel' B1 H1 (k d θ1) Q):=
  ⟨B,θ,ρ,F,(wpR.bind (Rel:=RepV) h).mono fun v H1 ⟨B1,θ1,d,E,G,r,w⟩=>⟨B1,θ1,d,E,F.ext E G,r,w⟩⟩
theorem Zne {f:TMr} {k:Bool→Sto→R γ} {Q:δ→Hp→Prop} (F:Frm X.cl B θ ρ σ H) (h:wpR X σ Rel' B H ((f ρ θ).bind k) Q) :
    tMT X f σ H (fun c H1=>∃B1 θ1,ExtE B B1 H H1∧Frm X.cl B1 θ1 ρ σ H1∧wpR X σ Rel' B1 H1 (k c θ1) Q):=
  ⟨B,θ,ρ,F,(wpR.bind (Rel:=EqB) h).mono fun v H1 ⟨B1,θ1,d,E,G,r,w⟩=>by cases (show d=v from r); exact ⟨B1,θ1,E,F.ext E G,w⟩⟩
theorem ZhO {f:AM} {k:List D→Sto→R γ} {Q:δ→Hp→Prop} (F:Frm X.cl B θ ρ σ H) (h:wpR X σ Rel' B H ((f ρ θ).bind k) Q) :
    tMA X f σ H (fun v H1=>∃B1 θ1 d,ExtE B B1 H H1∧Frm X.cl B1 θ1 ρ σ H1∧RepL B1 H1 d v∧wpR X σ Rel' B1 H1 (k d θ1) Q):=
  ⟨B,θ,ρ,F,(wpR.bind (Rel:=RepL) h).mono fun v H1 ⟨B1,θ1,d,E,G,r,w⟩=>⟨B1,θ1,d,E,F.ext E G,r,w⟩⟩
theorem ZP {α β:Type} {Rel:Bx→Hp→α→β→Prop} {a:α} {b:β} {Q:β→Hp→Prop} (G:Good X.cl B θ H) (r:Rel B H a b) (h:wpR X σ Rel B H (.ok a θ) Q):Q b H:=h B H b (ExtE.refl B H) G r
end
theorem PE.imp {X:Cx} {e:Expr} {t t':TE} (h:PE X e t) (hi:∀σ H Q,t' σ H Q→t σ H Q):PE X e t':=fun pins s σ H Q I q=>h pins s σ H Q I (hi σ H Q q)
theorem PT.imp {X:Cx} {e:Expr} {t t':TT} (h:PT X e t) (hi:∀σ H Q,t' σ H Q→t σ H Q):PT X e t':=fun pins s σ H Q I q=>h pins s σ H Q I (hi σ H Q q)
theorem PW.imp {X:Cx} {e:Expr} {t t':TT} (h:PW X e t) (hi:∀σ H Q,t' σ H Q→t σ H Q):PW X e t':=fun wh pins s σ H Q I q=>h wh pins s σ H Q I (hi σ H Q q)
theorem PA.imp {X:Cx} {es:List Expr} {t t':TA} (h:PA X es t) (hi:∀σ H Q,t' σ H Q→t σ H Q):PA X es t':=fun pos pins s σ H Q I q=>h pos pins s σ H Q I (hi σ H Q q)
theorem OpR.imp {X:Cx} {f:Value→Value→Sem Value} {r r':R2} (h:OpR X f r) (hi:∀x y H Q,r' x y H Q→r x y H Q):OpR X f r':=fun pins s σ H x y v u Q I rx ry q=>h pins s σ H x y v u Q I rx ry (hi x y H Q q)
theorem IxR.imp {X:Cx} {r r':R2} (h:IxR X r) (hi:∀x y H Q,r' x y H Q→r x y H Q):IxR X r':=fun pins s σ H x y v u Q v1 s1 I rx ry q=>h pins s σ H x y v u Q v1 s1 I rx ry (hi _ _ _ _ q)
theorem CallR.imp {X:Cx} {f:Value} {r r':List V→Hp→VK→Prop} (h:CallR X f r) (hi:∀xs H Q,r' xs H Q→r xs H Q):CallR X f r':=fun pins s σ H xs us Q I r q=>h pins s σ H xs us Q I r (hi _ _ _ q)
end L2.MM
namespace L2.MM
open PySem PySem.Spec PyProof.Rows
noncomputable section
variable {X:Cx}
def Za0 (θ:Sto):D→Option (List D)
  | .lst xs=>some xs
  | .ref l=>match θ[l]? with
    | some (.lst xs)=>some xs
    | _=>none
  | _=>none
def seqOf (θ:Sto):D→Option (List D)
  | .tup xs=>some xs
  | .scr ns=>some (ns.map D.int)
  | d=>Za0 θ d
theorem Zaj {cl:Mo} {B:Bx} {θ:Sto} {H:Hp} (G:Good cl B θ H) {d:D} {v:V} {xs:List D} (r:RepV B H d v) (h:Za0 θ d=some xs):∃a vs,v=.ref a∧H a=some (.lst vs)∧RepL B H xs vs:=by
  cases d with
  | lst ys=>
    obtain ⟨a,vs,e,h1,_,h2⟩:=r
    cases h
    exact ⟨a,vs,e,h1,h2⟩
  | ref l=>
    obtain ⟨hl,rfl⟩:=r
    simp only [Za0] at h
    split at h
    · rename_i ys e
      cases h
      obtain ⟨vs,q1,q2⟩:=G.cel l _ e
      exact ⟨_,vs,rfl,q1,q2⟩
    · cases h
  | _=>cases h
theorem Zc9 {cl:Mo} {B:Bx} {θ:Sto} {H:Hp} (G:Good cl B θ H) {d:D} {v:V} {xs:List D} (r:RepV B H d v) (h:seqOf θ d=some xs) :
    ∃a vs,v=.ref a∧(SqL cl.K H a vs∨SqT cl.K H a vs)∧RepL B H xs vs:=by
  cases d with
  | tup ys=>
    obtain ⟨a,vs,e,h1,_,h2⟩:=r
    cases h
    exact ⟨a,vs,e,.inr (SqT.of h1),h2⟩
  | scr ns=>
    obtain ⟨a,e,h1⟩:=r
    cases h
    refine ⟨a,ns.map V.int,e,.inl ?_,RepL.map (f:=D.int) (g:=V.int) (fun _=>rfl) ns⟩
    rcases h1 with ⟨o,h1,_⟩ | h1
    · exact .inl (.inr ⟨o,h1⟩)
    · exact .inr (G.kc a ns h1)
  | lst ys=>
    obtain ⟨a,vs,e,h1,h2⟩:=Zaj G r (show Za0 θ (.lst ys)=some xs from h)
    exact ⟨a,vs,e,.inl (SqL.of h1),h2⟩
  | ref l=>
    obtain ⟨a,vs,e,h1,h2⟩:=Zaj G r (show Za0 θ (.ref l)=some xs from h)
    exact ⟨a,vs,e,.inl (SqL.of h1),h2⟩
  | _=>cases h
abbrev BIG:Nat:=100000
theorem Zav {n:Nat} (h:n≤BIG):n≤sizeLine:=Nat.le_trans h (by rw [sizeLine_eq]; decide)
def Zd (i:Nat):EM:=fun ρ θ=>match ρ[i]? with
  | some (Sl.val d)=>.ok d θ
  | _=>.bad
def mC (d:D):EM:=fun _ θ=>.ok d θ
section
variable {a b c e:Expr} {pos:Pos} {fa fb fc:EM} {ft fu:TMr}
theorem Zb (i:Nat) {x:Str} {pos:Pos} (hN:X.N[i]?=some x:=by rfl) (hv:Vis X.env.scope x:=by first | exact Or.inl rfl | exact Or.inr (Or.inl rfl) | exact Or.inr (Or.inr rfl))
    (hd:(x == ("__debug__":Str))=false:=by decide) (hcd:(x == ("__classdict__":Str))=false:=by decide):ME X (.Name x pos) (Zd i):=by
  refine PE.imp (ZqL hN hv hd hcd) fun σ H Q h=>?_
  obtain ⟨B,θ,ρ,F,w⟩:=h
  unfold Zd at w
  split at w
  · rename_i d e
    obtain ⟨v,h1,h2⟩:=F.val i d e
    exact ⟨v,h1,ZP F.good h2 w⟩
  · exact w.elim
theorem ZmL {d:D} {v:V} (h:PE X e (tC v)) (r:∀B H,RepV B H d v):ME X e (mC d):=by
  refine PE.imp h fun σ H Q h=>?_
  obtain ⟨B,θ,ρ,F,w⟩:=h
  exact ZP F.good (r B H) w
theorem Zj {i j pos}:ME X (.Constant (.int i) j pos) (mC (.int i)):=ZmL ZuT fun _ _=>rfl
theorem zD {i j pos}:ME X (.Constant (.bool i) j pos) (mC (.bl i)):=ZmL ZwM fun _ _=>rfl
theorem ZaM {j pos}:ME X (.Constant .none j pos) (mC .non):=ZmL ZuS fun _ _=>rfl
theorem ZgH {i j pos}:ME X (.Constant (.str i) j pos) (mC (.str i)):=ZmL ZmH fun _ _=>rfl
theorem Zm {x:Str} {i:Int} (h:∃t,X.mg x=some (.int i t)) (hg:Gl X x:=by rfl) (hd:(x == ("__debug__":Str))=false:=by decide):ME X (.Name x pos) (mC (.int i)):=ZmL (ZsK h hg hd) fun _ _=>rfl
theorem ZB {x:Str} {y:Str} (h:∃t,X.mg x=some (.str y t)) (hg:Gl X x:=by rfl) (hd:(x == ("__debug__":Str))=false:=by decide):ME X (.Name x pos) (mC (.str y)):=by
  obtain ⟨t,h⟩:=h
  exact ZmL (Zno hg h (v:=.str y) ⟨t,rfl⟩ hd) fun _ _=>rfl
theorem ZnB {x:Str} {n:String} {pos:Pos} (hm:X.mg x=none) (hv:bootBuiltins x=some (.type n)) (hg:Gl X x:=by rfl) (hn:x≠"__name__":=by decide) (hd:(x == ("__debug__":Str))=false:=by decide):ME X (.Name x pos) (mC (.ty n)):=
  ZmL (ZwH hm hv hg hn hd) fun _ _=>rfl
abbrev OM:=D→D→Sto→R D
def mOp (g:OM) (fa fb:EM):EM:=fun ρ θ=>(fa ρ θ).bind fun x θ=>(fb ρ θ).bind fun y θ=>g x y θ
def rM (X:Cx) (g:OM):R2:=fun x y H Q=>∃σ B θ d e,Good X.cl B θ H∧RepV B H d x∧RepV B H e y∧wpR X σ RepV B H (g d e θ) Q
theorem Znc {g:OM} (σ:St) (H:Hp) (Q:VK) (h:tM X (mOp g fa fb) σ H Q):tOp (rM X g) (tM X fa) (tM X fb) σ H Q:=by
  obtain ⟨B,θ,ρ,F,w⟩:=h
  refine Z4 (step F w) ?_
  rintro x' H1 ⟨B1,θ1,x,E1,F1,rx,w1⟩
  refine Z4 (step F1 w1) ?_
  rintro y' H2 ⟨B2,θ2,y,E2,F2,ry,w2⟩
  exact ⟨σ,B2,θ2,x,y,F2.good,rx.ext E2.toExtS,ry,w2⟩
theorem Zx {op:Operator} {g:OM} (ho:OpR X (binaryOp op) (rM X g)) (ha:ME X a fa) (hb:ME X b fb):ME X (.BinOp a op b pos) (mOp g fa fb):=PE.imp (ZwJ ho ha hb) Znc
theorem zu {op:CmpOp} {g:OM} (ho:OpR X (compareOp op) (rM X g)) (ha:ME X a fa) (hb:ME X b fb) (hm:behindInMarks op b=false:=by first | exact Zq6 _ | rfl):ME X (.Compare a [op] [b] pos) (mOp g fa fb):=PE.imp (ZsM ho ha hb hm) Znc
theorem ZC {g:OM} (hr:IxR X (rM X g)) (ha:ME X a fa) (hb:ME X b fb) (hs:Zn2 b:=by intro _ _; rfl):ME X (.Subscript a b pos) (mOp g fa fb):=PE.imp (ZwL hr ha hb hs) Znc
def ZK (f:EM):TMr:=fun ρ θ=>(f ρ θ).bind fun x θ=>match x with
  | .bl k=>.ok k θ
  | _=>.bad
theorem ZhM {f:EM} (σ:St) (H:Hp) (Q:Bool→Hp→Prop) (h:tMT X (ZK f) σ H Q):tM X f σ H (fun v H1=>∃k,v=.bl k∧Q k H1):=by
  obtain ⟨B,θ,ρ,F,w⟩:=h
  refine Z4 (step F w) ?_
  rintro v H1 ⟨B1,θ1,x,E1,F1,rx,w1⟩
  cases x with
  | bl k=>exact ⟨k,rx,ZP (Rel:=EqB) F1.good rfl w1⟩
  | _=>exact w1.elim
theorem ZF {op:CmpOp} {g:OM} (ho:OpR X (compareOp op) (rM X g)) (ha:ME X a fa) (hb:ME X b fb) (hm:behindInMarks op b=false:=by first | exact Zq6 _ | rfl):MT X (.Compare a [op] [b] pos) (ZK (mOp g fa fb)):=by
  refine PT.imp (Zsz ho ha hb hm) fun σ H Q h=>?_
  have q:=ZhM σ H Q h
  exact Znc σ H _ q
def Zef (g g':OM) (fa fb fc:EM):EM:=fun ρ θ=>(fa ρ θ).bind fun x θ=>(fb ρ θ).bind fun y θ=>(g x y θ).bind fun z θ=>match z with
  | .bl true=>(fc ρ θ).bind fun w θ=>g' y w θ
  | .bl false=>.ok (.bl false) θ
  | _=>.bad
theorem Zlz {g g':OM} (σ:St) (H:Hp) (Q:VK) (h:tM X (Zef g g' fa fb fc) σ H Q):ZmA (rM X g) (rM X g') (tM X fa) (tM X fb) (tM X fc) σ H Q:=by
  obtain ⟨B,θ,ρ,F,w⟩:=h
  refine Z4 (step F w) ?_
  rintro x' H1 ⟨B1,θ1,x,E1,F1,rx,w1⟩
  refine Z4 (step F1 w1) ?_
  rintro y' H2 ⟨B2,θ2,y,E2,F2,ry,w2⟩
  refine ⟨σ,B2,θ2,x,y,F2.good,rx.ext E2.toExtS,ry,(wpR.bind (Rel:=RepV) w2).mono ?_⟩
  rintro z' H3 ⟨B3,θ3,z,E3,G3,rz,w3⟩
  have F3:=F2.ext E3 G3
  cases z with
  | bl k=>
    refine ⟨k,rz,?_⟩
    cases k with
    | true=>
      rw [if_pos rfl]
      refine Z4 (step F3 w3) ?_
      rintro w' H4 ⟨B4,θ4,u,E4,F4,ru,w4⟩
      exact ⟨σ,B4,θ4,y,u,F4.good,ry.ext (E3.trans E4).toExtS,ru,w4⟩
    | false=>
      rw [if_neg Bool.false_ne_true]
      exact ZP G3 (show RepV B3 H3 (.bl false) (.bl false) from rfl) w3
  | _=>exact w3.elim
theorem Zf7 {op op':CmpOp} {g g':OM} (ho:OpR X (compareOp op) (rM X g)) (ho':OpR X (compareOp op') (rM X g')) (ha:ME X a fa) (hb:ME X b fb) (hc:ME X c fc)
    (hm:lastMarks [op,op'] [b,c]=false:=by with_unfolding_all rfl):ME X (.Compare a [op,op'] [b,c] pos) (Zef g g' fa fb fc):=PE.imp (ZqU ho ho' ha hb hc hm) Zlz
theorem Zra {op op':CmpOp} {g g':OM} (ho:OpR X (compareOp op) (rM X g)) (ho':OpR X (compareOp op') (rM X g')) (ha:ME X a fa) (hb:ME X b fb) (hc:ME X c fc)
    (hm:lastMarks [op,op'] [b,c]=false:=by with_unfolding_all rfl):MT X (.Compare a [op,op'] [b,c] pos) (ZK (Zef g g' fa fb fc)):=by
  refine PT.imp (ZqC ho ho' ha hb hc hm) fun σ H Q h=>?_
  have q:=ZhM σ H Q h
  exact Zlz σ H _ q
def Zhn (θ:Sto):D→Option Bool
  | .non=>some false
  | .bl b=>some b
  | .int i=>some (i != 0)
  | .str x=>if x.length≤BIG then some ((x.length:Int) != 0) else none
  | d=>(seqOf θ d).map fun xs=>!xs.isEmpty
def zL (f:EM):TMr:=fun ρ θ=>(f ρ θ).bind fun x θ=>match Zhn θ x with
  | some k=>.ok k θ
  | none=>.bad
theorem RepL.emp {B:Bx} {H:Hp} {xs:List D} {vs:List V} (r:RepL B H xs vs):vs.isEmpty=xs.isEmpty:=by
  cases xs with
  | nil=>cases (show vs=[] from r); rfl
  | cons _ _=>obtain ⟨v,q,rfl,_,_⟩:=r; rfl
theorem Zm6 {cl:Mo} {B:Bx} {θ:Sto} {H:Hp} (G:Good cl B θ H) {d:D} {v:V} {k:Bool} (r:RepV B H d v) (h:Zhn θ d=some k):TruV cl.K v H k:=by
  have sq:∀xs,seqOf θ d=some xs→((seqOf θ d).map fun xs=>!xs.isEmpty)=some k→TruV cl.K v H k:=fun xs e q=>by
    rw [e] at q
    cases q
    obtain ⟨a,vs,rfl,h1,h2⟩:=Zc9 G r e
    show TruV cl.K (V.ref a) H (!xs.isEmpty)
    rw [←h2.emp]
    rcases h1 with h1 | h1
    · exact .inl ⟨vs,h1,rfl⟩
    · exact .inr (.inl ⟨vs,h1,rfl⟩)
  cases d with
  | non=>cases (show v=.non from r); cases h; rfl
  | bl b=>cases (show v=.bl b from r); cases h; rfl
  | int i=>cases (show v=.int i from r); cases h; rfl
  | str x=>
    cases (show v=.str x from r)
    simp only [Zhn] at h
    split at h
    · rename_i hz; cases h; exact ⟨Zav hz,rfl⟩
    · cases h
  | ty n=>simp [Zhn,seqOf,Za0] at h
  | scr ns=>exact sq _ rfl h
  | tup xs=>exact sq _ rfl h
  | lst xs=>exact sq _ rfl h
  | ref l=>
    cases e:seqOf θ (.ref l) with
    | none=>simp only [Zhn,e] at h; cases h
    | some xs=>exact sq xs e h
theorem ZE (ha:ME X a fa) (he:∀whole,isTrue a X.env whole=(do let v ←whole; standAt a.pos; holding [v] (truthy v)):=by intro _; rfl):MT X a (zL fa):=by
  refine PT.imp (ZqB ha he) fun σ H Q h=>?_
  obtain ⟨B,θ,ρ,F,w⟩:=h
  refine Z4 (step F w) ?_
  rintro v H1 ⟨B1,θ1,x,E1,F1,rx,w1⟩
  cases e:Zhn θ1 x with
  | none=>rw [e] at w1; exact w1.elim
  | some k=>rw [e] at w1; exact ⟨k,Zm6 F1.good rx e,ZP (Rel:=EqB) F1.good rfl w1⟩
def ZfI (f g:TMr):TMr:=fun ρ θ=>(f ρ θ).bind fun k θ=>if k=true then g ρ θ else .ok false θ
def mOr (f g:TMr):TMr:=fun ρ θ=>(f ρ θ).bind fun k θ=>if k=true then .ok true θ else g ρ θ
def Zdg (f:TMr):TMr:=fun ρ θ=>(f ρ θ).bind fun k θ=>.ok (!k) θ
theorem ZaH (ha:MT X a ft):MW X (.BoolOp .And [a] pos) ft:=Zsx ha
theorem zY (ha:MT X a ft):MW X (.BoolOp .Or [a] pos) ft:=ZuF ha
theorem ZcM {rest:List Expr} (ha:MT X a ft) (hb:MW X (.BoolOp .And (b::rest) pos) fu):MW X (.BoolOp .And (a::b::rest) pos) (ZfI ft fu):=by
  refine PW.imp (ZuG ha hb) fun σ H Q h=>?_
  obtain ⟨B,θ,ρ,F,w⟩:=h
  refine ZdP (Zne F w) ?_
  rintro k H1 ⟨B1,θ1,E1,F1,w1⟩
  cases k with
  | true=>rw [if_pos rfl] at w1 ⊢; exact ⟨B1,θ1,ρ,F1,w1⟩
  | false=>rw [if_neg Bool.false_ne_true] at w1 ⊢; exact ZP (Rel:=EqB) F1.good rfl w1
theorem ZcC {rest:List Expr} (ha:MT X a ft) (hb:MW X (.BoolOp .Or (b::rest) pos) fu):MW X (.BoolOp .Or (a::b::rest) pos) (mOr ft fu):=by
  refine PW.imp (ZwC ha hb) fun σ H Q h=>?_
  obtain ⟨B,θ,ρ,F,w⟩:=h
  refine ZdP (Zne F w) ?_
  rintro k H1 ⟨B1,θ1,E1,F1,w1⟩
  cases k with
  | true=>rw [if_pos rfl] at w1 ⊢; exact ZP (Rel:=EqB) F1.good rfl w1
  | false=>rw [if_neg Bool.false_ne_true] at w1 ⊢; exact ⟨B1,θ1,ρ,F1,w1⟩
theorem MW.mt {e:Expr} {f:TMr} (h:MW X e f):MT X e f:=PW.pt h
theorem ZaI (ha:MT X a ft):MT X (.UnaryOp .Not a pos) (Zdg ft):=by
  refine PT.imp (ZuI ha) fun σ H Q h=>?_
  obtain ⟨B,θ,ρ,F,w⟩:=h
  refine ZdP (Zne F w) ?_
  rintro k H1 ⟨B1,θ1,E1,F1,w1⟩
  exact ZP (Rel:=EqB) F1.good rfl w1
def Zcg (f g:EM):EM:=fun ρ θ=>(f ρ θ).bind fun x θ=>match x with
  | .bl true=>g ρ θ
  | .bl false=>.ok (.bl false) θ
  | _=>.bad
def ZmO (f g:EM):EM:=fun ρ θ=>(f ρ θ).bind fun x θ=>match x with
  | .bl true=>.ok (.bl true) θ
  | .bl false=>g ρ θ
  | _=>.bad
def ZnE (f:EM):EM:=fun ρ θ=>(f ρ θ).bind fun x θ=>match Zhn θ x with
  | some k=>.ok (.bl (!k)) θ
  | none=>.bad
theorem Zco {op} (h:ME X a fa):ME X (.BoolOp op [a] pos) fa:=ZuR h
theorem Zbx {rest:List Expr} (ha:ME X a fa) (hb:ME X (.BoolOp .And (b::rest) pos) fb):ME X (.BoolOp .And (a::b::rest) pos) (Zcg fa fb):=by
  refine PE.imp (ZuV ha hb) fun σ H Q h=>?_
  obtain ⟨B,θ,ρ,F,w⟩:=h
  refine Z4 (step F w) ?_
  rintro v H1 ⟨B1,θ1,x,E1,F1,rx,w1⟩
  cases x with
  | bl k=>
    refine ⟨k,rx,?_⟩
    cases k with
    | true=>rw [if_pos rfl]; exact ⟨B1,θ1,ρ,F1,w1⟩
    | false=>rw [if_neg Bool.false_ne_true]; exact ZP F1.good (show RepV B1 H1 (.bl false) (.bl false) from rfl) w1
  | _=>exact w1.elim
theorem ZlV {rest:List Expr} (ha:ME X a fa) (hb:ME X (.BoolOp .Or (b::rest) pos) fb):ME X (.BoolOp .Or (a::b::rest) pos) (ZmO fa fb):=by
  refine PE.imp (ZwI ha hb) fun σ H Q h=>?_
  obtain ⟨B,θ,ρ,F,w⟩:=h
  refine Z4 (step F w) ?_
  rintro v H1 ⟨B1,θ1,x,E1,F1,rx,w1⟩
  cases x with
  | bl k=>
    refine ⟨k,rx,?_⟩
    cases k with
    | true=>rw [if_pos rfl]; exact ZP F1.good (show RepV B1 H1 (.bl true) (.bl true) from rfl) w1
    | false=>rw [if_neg Bool.false_ne_true]; exact ⟨B1,θ1,ρ,F1,w1⟩
  | _=>exact w1.elim
theorem Zre (ha:ME X a fa):ME X (.UnaryOp .Not a pos) (ZnE fa):=by
  intro pins s σ H Q I h
  obtain ⟨B,θ,ρ,F,w⟩:=h
  refine UnaryOp_ (thn (ha pins s σ H _ I (step F w)) fun v s1 ⟨x,H1,I1,r1,q1⟩=>?_)
  obtain ⟨B1,θ1,d,E1,F1,rx,w1⟩:=q1
  cases e:Zhn θ1 d with
  | none=>rw [e] at w1; exact w1.elim
  | some k=>
    rw [e] at w1
    refine not_of (thn (Zql pins s1 σ H1 x v (fun k' H'=>Q (.bl (!k')) H') I1 r1 ⟨k,Zm6 F1.good rx e,ZP F1.good (show RepV B1 H1 (.bl (!k)) (.bl (!k)) from rfl) w1⟩) fun b s2 ⟨H2,I2,q2⟩=>?_)
    exact ⟨.bl (!b),H2,I2,rfl,q2⟩
def Zf9 (t:TMr) (f g:EM):EM:=fun ρ θ=>(t ρ θ).bind fun k θ=>if k=true then f ρ θ else g ρ θ
theorem ZcN {c:Expr} (hc:MT X c ft) (ha:ME X a fa) (hb:ME X b fb):ME X (.IfExp c a b pos) (Zf9 ft fa fb):=by
  refine PE.imp (ZqP hc ha hb) fun σ H Q h=>?_
  obtain ⟨B,θ,ρ,F,w⟩:=h
  refine ZdP (Zne F w) ?_
  rintro k H1 ⟨B1,θ1,E1,F1,w1⟩
  cases k with
  | true=>rw [if_pos rfl] at w1 ⊢; exact ⟨B1,θ1,ρ,F1,w1⟩
  | false=>rw [if_neg Bool.false_ne_true] at w1 ⊢; exact ⟨B1,θ1,ρ,F1,w1⟩
def Zk:AM:=fun _ θ=>.ok [] θ
def Zc (f:EM) (g:AM):AM:=fun ρ θ=>(f ρ θ).bind fun x θ=>(g ρ θ).bind fun xs θ=>.ok (x::xs) θ
theorem Zf:MA X [] Zk:=PA.imp ZmI fun σ H Q h=>by
  obtain ⟨B,θ,ρ,F,w⟩:=h
  exact ZP (Rel:=RepL) F.good (show RepL B H [] [] from rfl) w
theorem Za {es:List Expr} {fs:AM} (ha:ME X e fa) (hr:MA X es fs) (hs:starEach (e::es) X.env=(false,eval e X.env)::starEach es X.env:=by rfl):MA X (e::es) (Zc fa fs):=by
  refine PA.imp (ZjF ha hr hs) fun σ H Q h=>?_
  obtain ⟨B,θ,ρ,F,w⟩:=h
  refine Z4 (step F w) ?_
  rintro x' H1 ⟨B1,θ1,x,E1,F1,rx,w1⟩
  refine ZbU (ZhO F1 w1) ?_
  rintro xs' H2 ⟨B2,θ2,xs,E2,F2,rxs,w2⟩
  exact ZP (Rel:=RepL) F2.good (show RepL B2 H2 (x::xs) (x'::xs') from ⟨x',xs',rfl,rx.ext E2.toExtS,rxs⟩) w2
def ZaO (f:AM):EM:=fun ρ θ=>(f ρ θ).bind fun xs θ=>if xs.length≤BIG then .ok (.tup xs) θ else .bad
def Zb0 (f:AM):EM:=fun ρ θ=>(f ρ θ).bind fun xs θ=>if xs.length≤BIG then .ok (.lst xs) θ else .bad
theorem ZhH {σ:St} {B:Bx} {θ:Sto} {H:Hp} {xs:List D} {vs:List V} {Q:VK} (G:Good X.cl B θ H) (r:RepL B H xs vs) (w:wpR X σ RepV B H (.ok (.tup xs) θ) Q):∀p,H p=none→Q (.ref p) (upd H p (.tup vs)):=
  fun p hp=>w B _ _ (Zb5 G hp _) (Zdh G hp _) (Zst G hp r)
theorem ZfD {σ:St} {B:Bx} {θ:Sto} {H:Hp} {xs:List D} {vs:List V} {Q:VK} (G:Good X.cl B θ H) (r:RepL B H xs vs) (w:wpR X σ RepV B H (.ok (.lst xs) θ) Q):∀p,H p=none→Q (.ref p) (upd H p (.lst vs)):=
  fun p hp=>w B _ _ (Zb5 G hp _) (Zdh G hp _) (Zsu G hp r)
theorem zc {es:List Expr} {fs:AM} {x1} (h:MA X es fs):ME X (.Tuple es x1 pos) (ZaO fs):=by
  refine PE.imp (ZuQ h) fun σ H Q h=>?_
  obtain ⟨B,θ,ρ,F,w⟩:=h
  refine ZbU (ZhO F w) ?_
  rintro xs' H2 ⟨B2,θ2,xs,E2,F2,rxs,w2⟩
  split at w2
  · rename_i hz
    exact ⟨by rw [rxs.len]; exact Zav hz,ZhH F2.good rxs w2⟩
  · exact w2.elim
theorem z0 {es:List Expr} {fs:AM} (h:MA X es fs):ME X (.List es pos) (Zb0 fs):=by
  refine PE.imp (ZqO h) fun σ H Q h=>?_
  obtain ⟨B,θ,ρ,F,w⟩:=h
  refine ZbU (ZhO F w) ?_
  rintro xs' H2 ⟨B2,θ2,xs,E2,F2,rxs,w2⟩
  split at w2
  · rename_i hz
    exact ⟨by rw [rxs.len]; exact Zav hz,ZfD F2.good rxs w2⟩
  · exact w2.elim
abbrev GM:=List D→Sto→R D
def mCB (g:GM) (f:AM):EM:=fun ρ θ=>(f ρ θ).bind fun xs θ=>g xs θ
def rC (X:Cx) (g:GM):List V→Hp→VK→Prop:=fun xs H Q=>∃σ B θ ds,Good X.cl B θ H∧RepL B H ds xs∧wpR X σ RepV B H (g ds θ) Q
theorem ZtH {g:GM} {fs:AM} (σ:St) (H:Hp) (Q:VK) (h:tM X (mCB g fs) σ H Q):tCB (rC X g) (tMA X fs) σ H Q:=by
  obtain ⟨B,θ,ρ,F,w⟩:=h
  refine ZbU (ZhO F w) ?_
  rintro xs' H2 ⟨B2,θ2,xs,E2,F2,rxs,w2⟩
  exact ⟨σ,B2,θ2,xs,F2.good,rxs,w2⟩
theorem Z3 {x:Str} {id:String} {p:Pos} {es:List Expr} {fs:AM} {g:GM} (hc:CallR X (.builtin id) (rC X g)) (hm:X.mg x=none) (hv:bootBuiltins x=some (.builtin id)) (ha:MA X (e::es) fs) (hg:Gl X x:=by rfl) (hn:x≠"__name__":=by decide) (hdb:(x == ("__debug__":Str))=false:=by decide)
    (he:starEach (e::es) X.env=(false,eval e X.env)::starEach es X.env:=by rfl) (hpl:(backTo pos (starEach es X.env)).any (·.1)=false:=by rfl):ME X (.Call (.Name x p) (e::es) [] pos) (mCB g fs):=
  PE.imp (ZqW hc hg hm hv ha hn hdb he hpl) ZtH
theorem ZaN {x:Str} {T:String} {p:Pos} {es:List Expr} {fs:AM} {g:GM} (hc:CallR X (.type T) (rC X g)) (hm:X.mg x=none) (hv:bootBuiltins x=some (.type T)) (ha:MA X (e::es) fs) (hg:Gl X x:=by rfl) (hn:x≠"__name__":=by decide) (hdb:(x == ("__debug__":Str))=false:=by decide)
    (he:starEach (e::es) X.env=(false,eval e X.env)::starEach es X.env:=by rfl) (hpl:(backTo pos (starEach es X.env)).any (·.1)=false:=by rfl):ME X (.Call (.Name x p) (e::es) [] pos) (mCB g fs):=
  PE.imp (Zoj hc hg hm hv ha hn hdb he hpl) ZtH
end
end
end L2.MM
namespace L2.MM
open PySem PySem.Spec PyProof.Rows PySem.SeqAt
noncomputable section
variable {X:Cx}
section
open Classical in
def opI (C:Int→Int→Prop) (g:Int→Int→D):OM:=fun x y θ=>match x,y with
  | .int i,.int j=>if C i j then .ok (g i j) θ else .bad
  | _,_=>.bad
open Classical in
@[simp] theorem Znq (C:Int→Int→Prop) (g:Int→Int→D) (i j:Int) (θ:Sto):opI C g (.int i) (.int j) θ=if C i j then .ok (g i j) θ else .bad:=nr rfl
open Classical in
theorem ZeK {f:Value→Value→Sem Value} {C:Int→Int→Prop} {g:Int→Int→D} {gV:Int→Int→V} (h:OpR X f (rI C gV)) (r:∀B H i j,RepV B H (g i j) (gV i j)):OpR X f (rM X (opI C g)):=by
  refine OpR.imp h fun x y H Q q=>?_
  obtain ⟨σ,B,θ,d,e,G,rd,re,w⟩:=q
  unfold opI at w
  split at w
  · rename_i i j
    split at w
    · rename_i hc
      exact ⟨i,j,rd,re,hc,ZP G (r B H i j) w⟩
    · exact w.elim
  · exact w.elim
theorem ZiS {f:Value→Value→Sem Value} {g:Int→Int→V} (h:OpR X f (rI0 g)):OpR X f (rI (fun _ _=>True) g):=OpR.imp h fun x y H Q ⟨i,j,a,b,_,q⟩=>⟨i,j,a,b,q⟩
abbrev Zgz:OM:=opI (fun _ _=>True) fun i j=>.int (i-j)
abbrev ZfK:OM:=opI (fun _ j=>0<j∧j<18446744073709551616) fun i j=>.int (i/j)
abbrev Zbq:OM:=opI (fun _ j=>0<j) fun i j=>.int (i % j)
abbrev Zxq:OM:=opI (fun _ _=>True) fun i j=>.int (Builtin.bitAnd i j)
abbrev ltM:OM:=opI (fun _ _=>True) fun i j=>.bl (decide (i<j))
abbrev leM:OM:=opI (fun _ _=>True) fun i j=>.bl (decide (i≤j))
abbrev gtM:OM:=opI (fun _ _=>True) fun i j=>.bl (decide (j<i))
abbrev geM:OM:=opI (fun _ _=>True) fun i j=>.bl (decide (j≤i))
theorem ZeL:OpR X (binaryOp .Sub) (rM X Zgz):=ZeK (ZiS ZuX) fun _ _ _ _=>rfl
theorem Zer:OpR X (binaryOp .FloorDiv) (rM X ZfK):=ZeK (OpR.imp ZqZ fun x y H Q ⟨i,j,a,b,c,q⟩=>⟨i,j,a,b,⟨c.1,by
  have h:j.natAbs<2 ^ 64:=by have:=c.1; have:=c.2; omega
  have h0:j.natAbs≠0:=by have:=c.1; omega
  have:=(Nat.log2_lt h0).mpr h
  omega⟩,q⟩) fun _ _ _ _=>rfl
theorem Za6:OpR X (binaryOp .Mod) (rM X Zbq):=ZeK Zu0 fun _ _ _ _=>rfl
theorem ZwV:OpR X (binaryOp .BitAnd) (rM X Zxq):=ZeK (ZiS Zu4) fun _ _ _ _=>rfl
theorem Zu7:OpR X (compareOp .Lt) (rM X ltM):=ZeK (ZiS ZwR) fun _ _ i j=>by show _=V.bl _; congr
theorem ZhU:OpR X (compareOp .LtE) (rM X leM):=ZeK (ZiS ZwS) fun _ _ i j=>by show _=V.bl _; congr
theorem Zhs:OpR X (compareOp .Gt) (rM X gtM):=ZeK (ZiS ZwT) fun _ _ i j=>by show _=V.bl _; congr
theorem ZsU:OpR X (compareOp .GtE) (rM X geM):=ZeK (ZiS ZwU) fun _ _ i j=>by show _=V.bl _; congr
def Z0:OM:=fun x y θ=>match x,y with
  | .int i,.int j=>.ok (.int (i+j)) θ
  | .str i,.str j=>if i.length+j.length≤BIG then .ok (.str (i++j)) θ else .bad
  | .tup xs,.tup ys=>if xs.isEmpty=false∧xs.length+ys.length≤BIG then .ok (.tup (xs++ys)) θ else .bad
  | x,y=>match Za0 θ x,Za0 θ y with
    | some xs,some ys=>if xs.length+ys.length≤BIG then .ok (.lst (xs++ys)) θ else .bad
    | _,_=>.bad
@[simp] theorem ZrX (i j:Int) (θ:Sto):Z0 (.int i) (.int j) θ=.ok (.int (i+j)) θ:=nr rfl
@[simp] theorem ZrW (xs ys:List D) (θ:Sto):Z0 (.lst xs) (.lst ys) θ=if xs.length+ys.length≤BIG then .ok (.lst (xs++ys)) θ else .bad:=nr rfl
@[simp] theorem Zxr (xs ys:List D) (θ:Sto):Z0 (.tup xs) (.tup ys) θ=if xs.isEmpty=false∧xs.length+ys.length≤BIG then .ok (.tup (xs++ys)) θ else .bad:=nr rfl
theorem ZQ:OpR X (binaryOp .Add) (rM X Z0):=by
  refine OpR.imp (op_add.or (op_add_str.or (op_catT.or Zu3))) fun x y H Q q=>?_
  obtain ⟨σ,B,θ,d,e,G,rd,re,w⟩:=q
  unfold Z0 at w
  split at w
  · exact .inl ⟨_,_,rd,re,ZP G (show RepV B H (.int _) (.int _) from rfl) w⟩
  · split at w
    · rename_i hz
      exact .inr (.inl ⟨_,_,rd,re,Zav hz,ZP G (show RepV B H (.str _) (.str _) from rfl) w⟩)
    · exact w.elim
  · split at w
    · rename_i xs ys hz
      obtain ⟨a,vs,rfl,h1,k1,l1⟩:=rd
      obtain ⟨b,us,rfl,h2,k2,l2⟩:=re
      refine .inr (.inr (.inl ⟨a,b,vs,us,rfl,rfl,SqT.of h1,SqT.of h2,?_,?_,fun z=>?_,fun _=>ZhH G (l1.app l2) w⟩))
      · intro z
        have:=l1.emp
        rw [z,hz.1] at this
        simp at this
      · rw [l1.len,l2.len]; exact Zav hz.2
      · have e0:ys=[]:=by
          have:=l2.emp
          rw [z] at this
          cases ys with
          | nil=>rfl
          | cons _ _=>simp at this
        subst e0
        rw [List.append_nil] at w
        exact ZP G (show RepV B H (.tup xs) (.ref a) from ⟨a,vs,rfl,h1,k1,l1⟩) w
    · exact w.elim
  · split at w
    · rename_i xs ys e1 e2
      split at w
      · rename_i hz
        obtain ⟨a,vs,rfl,h1,l1⟩:=Zaj G rd e1
        obtain ⟨b,us,rfl,h2,l2⟩:=Zaj G re e2
        exact .inr (.inr (.inr ⟨a,b,vs,us,rfl,rfl,h1,h2,by rw [l1.len,l2.len]; exact Zav hz,ZfD G (l1.app l2) w⟩))
      · exact w.elim
    · exact w.elim
def Zfb (i j:Int):Prop:=(-18446744073709551616<i∧i<18446744073709551616)∨(-18446744073709551616<j∧j<18446744073709551616)
instance {i j:Int}:Decidable (Zfb i j):=by unfold Zfb; infer_instance
def ZbY:OM:=fun x y θ=>match x,y with
  | .int i,.int j=>if Zfb i j then .ok (.int (i*j)) θ else .bad
  | .tup xs,.int k=>if xs.isEmpty=false∧0≤k∧k<1000∧(xs.length:Int)*k≤1000 then .ok (.tup (List.replicate k.toNat xs).flatten) θ else .bad
  | x,.int k=>match Za0 θ x with
    | some xs=>if -1000000≤k∧k≤1000000∧xs.length*k.toNat≤BIG then .ok (.lst (List.replicate k.toNat xs).flatten) θ else .bad
    | _=>.bad
  | _,_=>.bad
@[simp] theorem Zq9 (i j:Int) (θ:Sto):ZbY (.int i) (.int j) θ=if Zfb i j then .ok (.int (i*j)) θ else .bad:=nr rfl
@[simp] theorem ZlR (xs:List D) (k:Int) (θ:Sto):ZbY (.lst xs) (.int k) θ=if -1000000≤k∧k≤1000000∧xs.length*k.toNat≤BIG then .ok (.lst (List.replicate k.toNat xs).flatten) θ else .bad:=nr rfl
theorem RepL.rep {B:Bx} {H:Hp} {xs:List D} {vs:List V} (r:RepL B H xs vs):∀k:Nat,RepL B H (List.replicate k xs).flatten (List.replicate k vs).flatten
  | 0=>rfl
  | k+1=>by
    rw [List.replicate_succ,List.replicate_succ,List.flatten_cons,List.flatten_cons]
    exact r.app (RepL.rep r k)
theorem Zcf:OpR X (binaryOp .Mult) (rM X ZbY):=by
  refine OpR.imp (op_mul.or (op_repT.or ZuY)) fun x y H Q q=>?_
  obtain ⟨σ,B,θ,d,e,G,rd,re,w⟩:=q
  unfold ZbY at w
  split at w
  · split at w
    · rename_i hc
      exact .inl ⟨_,_,rd,re,hc.imp (fun h=>⟨by have:=h.1; omega,by have:=h.2; omega⟩) (fun h=>⟨by have:=h.1; omega,by have:=h.2; omega⟩),ZP G (show RepV B H (.int _) (.int _) from rfl) w⟩
    · exact w.elim
  · split at w
    · rename_i xs k hz
      obtain ⟨a,vs,rfl,h1,k1,l1⟩:=rd
      obtain ⟨z1,z2,z3,z4⟩:=hz
      refine .inr (.inl ⟨a,k,vs,rfl,re,SqT.of h1,?_,z2,z3,by rw [l1.len]; exact z4,fun z=>?_,fun _=>ZhH G (l1.rep _) w⟩)
      · intro z
        have:=l1.emp
        rw [z,z1] at this
        simp at this
      · subst z
        have e0:(List.replicate (1:Int).toNat xs).flatten=xs:=by simp
        rw [e0] at w
        exact ZP G (show RepV B H (.tup xs) (.ref a) from ⟨a,vs,rfl,h1,k1,l1⟩) w
    · exact w.elim
  · split at w
    · rename_i xs e1
      split at w
      · rename_i hz
        obtain ⟨a,vs,rfl,h1,l1⟩:=Zaj G rd e1
        exact .inr (.inr ⟨a,_,vs,rfl,re,h1,by have:=hz.1; omega,by have:=hz.2.1; omega,by rw [l1.len]; exact Zav hz.2.2,ZfD G (l1.rep _) w⟩)
      · exact w.elim
    · exact w.elim
  · exact w.elim
def ZAK (f:EM):EM:=fun ρ θ=>(f ρ θ).bind fun x θ=>match x with
  | .int i=>.ok (.int (-i)) θ
  | _=>.bad
mutual
def dat:D→PyData
  | .bl b=>.bool b
  | .int i=>.int i
  | .str x=>.str x
  | .tup xs=>.tuple (ZeR xs)
  | .lst xs=>.list (ZeR xs)
  | _=>.none
def ZeR:List D→List PyData
  | []=>[]
  | d::r=>dat d::ZeR r
end
mutual
def plain:D→Bool
  | .non=>true
  | .bl _=>true
  | .int _=>true
  | .str _=>true
  | .tup xs=>ZbW xs
  | .lst xs=>ZbW xs
  | _=>false
def ZbW:List D→Bool
  | []=>true
  | d::r=>plain d && ZbW r
end
mutual
theorem rdv {B:Bx} {H:Hp} {K:PySem.W.Frag}:∀{d:D} {v:V},plain d=true→RepV B H d v→RdV K H v (dat d)
  | .non,_,_,r=>by cases (show _=V.non from r); exact .non
  | .bl b,_,_,r=>by cases (show _=V.bl b from r); exact .bl b
  | .int i,_,_,r=>by cases (show _=V.int i from r); exact .int i
  | .str x,_,_,r=>by cases (show _=V.str x from r); exact .str x
  | .tup xs,_,p,r=>by
    obtain ⟨a,vs,rfl,h,_,l⟩:=r
    exact .tup (SqT.of h) (Zsv p l)
  | .lst xs,_,p,r=>by
    obtain ⟨a,vs,rfl,h,_,l⟩:=r
    exact .lst (SqL.of h) (Zsv p l)
  | .ty _,_,p,_=>nomatch p
  | .scr _,_,p,_=>nomatch p
  | .ref _,_,p,_=>nomatch p
theorem Zsv {B:Bx} {H:Hp} {K:PySem.W.Frag}:∀{ds:List D} {vs:List V},ZbW ds=true→RepL B H ds vs→RdVs K H vs (ZeR ds)
  | [],_,_,r=>by cases (show _=[] from r); exact .nil
  | d::ds,_,p,r=>by
    obtain ⟨v,q,rfl,hv,hq⟩:=r
    have p':plain d=true∧ZbW ds=true:=by simpa [ZbW] using p
    exact .cons (rdv p'.1 hv) (Zsv p'.2 hq)
end
mutual
theorem ZlD:∀{d e:D},plain d=true→plain e=true→(same (dat d) (dat e)=true↔d=e):=fun {d e} p q=>by
  cases d with
  | ty _=>exact nomatch p
  | scr _=>exact nomatch p
  | ref _=>exact nomatch p
  | non=>cases e<;>simp_all [plain,dat,same]
  | bl _=>cases e<;>simp_all [plain,dat,same]
  | int _=>cases e<;>simp_all [plain,dat,same]
  | str _=>cases e<;>simp_all [plain,dat,same]
  | tup xs=>
    cases e with
    | tup ys=>
      simp only [dat,same,D.tup.injEq]
      exact ZgB p q
    | ty _=>exact nomatch q
    | scr _=>exact nomatch q
    | ref _=>exact nomatch q
    | _=>simp [dat,same]
  | lst xs=>
    cases e with
    | lst ys=>
      simp only [dat,same,D.lst.injEq]
      exact ZgB p q
    | ty _=>exact nomatch q
    | scr _=>exact nomatch q
    | ref _=>exact nomatch q
    | _=>simp [dat,same]
theorem ZgB:∀{ds es:List D},ZbW ds=true→ZbW es=true→(sameAll (ZeR ds) (ZeR es)=true↔ds=es)
  | [],[],_,_=>by simp [ZeR,sameAll]
  | [],_::_,_,_=>by simp [ZeR,sameAll]
  | _::_,[],_,_=>by simp [ZeR,sameAll]
  | d::ds,e::es,p,q=>by
    have p':plain d=true∧ZbW ds=true:=by simpa [ZbW] using p
    have q':plain e=true∧ZbW es=true:=by simpa [ZbW] using q
    simp only [ZeR,sameAll,Bool.and_eq_true,List.cons.injEq]
    rw [ZlD p'.1 q'.1,ZgB p'.2 q'.2]
end
def look (θ:Sto) (d:D):D:=match d with
  | .ref l=>match θ[l]? with
    | some (.lst xs)=>.lst xs
    | _=>.ref l
  | d=>d
theorem Zga {B:Bx} {θ:Sto} {H:Hp} {K:PySem.W.Frag} (G:Good X.cl B θ H) {d:D} {v:V} (r:RepV B H d v) (p:plain (look θ d)=true):RdV K H v (dat (look θ d)):=by
  cases d with
  | ref l=>
    unfold look at p ⊢
    simp only at p ⊢
    split at p
    · rename_i xs e
      obtain ⟨hl,rfl⟩:=r
      obtain ⟨vs,h1,h2⟩:=G.cel l _ e
      exact .lst (SqL.of h1) (Zsv p h2)
    · exact nomatch p
  | _=>exact rdv p r
structure Zjs (x y:D):Prop where
  px:plain x=true
  py:plain y=true
  sx:shaped (dat x)=true
  sy:shaped (dat y)=true
  nm:noMix (dat x) (dat y)=true
open Classical in
def eqM:OM:=fun x y θ=>if Zjs (look θ x) (look θ y) then .ok (.bl (decide (look θ x=look θ y))) θ else .bad
open Classical in
def neM:OM:=fun x y θ=>if Zjs (look θ x) (look θ y) then .ok (.bl (!decide (look θ x=look θ y))) θ else .bad
open Classical in
theorem ZlE {d e:D} (p:plain d=true) (q:plain e=true):same (dat d) (dat e)=decide (d=e):=by
  rw [Bool.eq_iff_iff,ZlD p q,decide_eq_true_iff]
open Classical in
theorem zU (hu:X.A.units+64<cLine):OpR X (compareOp .Eq) (rM X eqM):=by
  refine OpR.imp (Zu2 hu) fun x y H Q q=>?_
  obtain ⟨σ,B,θ,d,e,G,rd,re,w⟩:=q
  unfold eqM at w
  split at w
  · rename_i c
    refine ⟨_,_,Zga G rd c.px,Zga G re c.py,c.sx,c.sy,c.nm,?_⟩
    rw [ZlE c.px c.py]
    exact ZP G (show RepV B H (.bl _) (.bl _) from rfl) w
  · exact w.elim
open Classical in
theorem Zea (hu:X.A.units+64<cLine):OpR X (compareOp .NotEq) (rM X neM):=by
  refine OpR.imp (ZuZ hu) fun x y H Q q=>?_
  obtain ⟨σ,B,θ,d,e,G,rd,re,w⟩:=q
  unfold neM at w
  split at w
  · rename_i c
    refine ⟨_,_,Zga G rd c.px,Zga G re c.py,c.sx,c.sy,c.nm,?_⟩
    rw [ZlE c.px c.py]
    exact ZP G (show RepV B H (.bl _) (.bl _) from rfl) w
  · exact w.elim
def Zj3:List D→Bool
  | []=>true
  | .int _::r=>Zj3 r
  | _=>false
def Ziz:List D→Bool
  | []=>true
  | .str _::r=>Ziz r
  | _=>false
def memI (i:Int):List D→Bool
  | .int j::r=>decide (j=i) || memI i r
  | _=>false
def memS (x:Str):List D→Bool
  | .str y::r=>decide (y=x) || memS x r
  | _=>false
def inD (θ:Sto) (x y:D):Option Bool:=match seqOf θ y with
  | none=>none
  | some ys=>match x with
    | .int i=>if Zj3 ys=true then some (memI i ys) else none
    | .str z=>if Ziz ys=true then some (memS z ys) else none
    | _=>none
def inM:OM:=fun x y θ=>match inD θ x y with
  | some k=>.ok (.bl k) θ
  | none=>.bad
def ZbX:OM:=fun x y θ=>match inD θ x y with
  | some k=>.ok (.bl (!k)) θ
  | none=>.bad
theorem Zhl {B:Bx} {H:Hp}:∀{ys:List D} {vs:List V},Zj3 ys=true→RepL B H ys vs→vs.all Zdx=true∧∀i:Int,inV (.int i) vs=memI i ys
  | [],_,_,r=>by cases (show _=[] from r); exact ⟨rfl,fun _=>rfl⟩
  | d::ys,_,h,r=>by
    cases d with
    | int j=>
      obtain ⟨v,q,rfl,hv,hq⟩:=r
      cases (show v=V.int j from hv)
      obtain ⟨h1,h2⟩:=Zhl (show Zj3 ys=true from h) hq
      refine ⟨by simp [Zdx] at h1 ⊢; exact h1,fun i=>?_⟩
      have:=h2 i
      unfold inV at this ⊢
      rw [List.any_cons,this]
      show (j == i || memI i ys)=(decide (j=i) || memI i ys)
      rw [Bool.beq_eq_decide_eq]
    | _=>exact nomatch h
theorem Zhk {B:Bx} {H:Hp}:∀{ys:List D} {vs:List V},Ziz ys=true→RepL B H ys vs→vs.all Zdx=true∧∀i:Str,inV (.str i) vs=memS i ys
  | [],_,_,r=>by cases (show _=[] from r); exact ⟨rfl,fun _=>rfl⟩
  | d::ys,_,h,r=>by
    cases d with
    | str j=>
      obtain ⟨v,q,rfl,hv,hq⟩:=r
      cases (show v=V.str j from hv)
      obtain ⟨h1,h2⟩:=Zhk (show Ziz ys=true from h) hq
      refine ⟨by simp [Zdx] at h1 ⊢; exact h1,fun i=>?_⟩
      have:=h2 i
      unfold inV at this ⊢
      rw [List.any_cons,this]
      show (j == i || memS i ys)=(decide (j=i) || memS i ys)
      rw [Bool.beq_eq_decide_eq]
    | _=>exact nomatch h
theorem Zrn {cl:Mo} {B:Bx} {θ:Sto} {H:Hp} (G:Good cl B θ H) {d e:D} {x y:V} {k:Bool} (rd:RepV B H d x) (re:RepV B H e y) (h:inD θ d e=some k) :
    ∃p xs,y=.ref p∧(SqL cl.K H p xs∨SqT cl.K H p xs)∧Zdx x=true∧xs.all Zdx=true∧inV x xs=k:=by
  unfold inD at h
  split at h
  · cases h
  · rename_i ys e1
    obtain ⟨a,vs,rfl,h1,h2⟩:=Zc9 G re e1
    split at h
    · split at h
      · rename_i i hz
        cases h
        cases (show x=V.int i from rd)
        obtain ⟨q1,q2⟩:=Zhl hz h2
        exact ⟨a,vs,rfl,h1,rfl,q1,q2 i⟩
      · cases h
    · split at h
      · rename_i i hz
        cases h
        cases (show x=V.str i from rd)
        obtain ⟨q1,q2⟩:=Zhk hz h2
        exact ⟨a,vs,rfl,h1,rfl,q1,q2 i⟩
      · cases h
    · cases h
theorem ZjH:OpR X (compareOp .In) (rM X inM):=by
  refine OpR.imp Zok fun x y H Q q=>?_
  obtain ⟨σ,B,θ,d,e,G,rd,re,w⟩:=q
  unfold inM at w
  split at w
  · rename_i k e1
    obtain ⟨p,xs,h1,h2,h3,h4,h5⟩:=Zrn G rd re e1
    exact ⟨p,xs,h1,h2,h3,h4,by rw [h5]; exact ZP G (show RepV B H (.bl _) (.bl _) from rfl) w⟩
  · exact w.elim
theorem Zf2:OpR X (compareOp .NotIn) (rM X ZbX):=by
  refine OpR.imp ZjG fun x y H Q q=>?_
  obtain ⟨σ,B,θ,d,e,G,rd,re,w⟩:=q
  unfold ZbX at w
  split at w
  · rename_i k e1
    obtain ⟨p,xs,h1,h2,h3,h4,h5⟩:=Zrn G rd re e1
    exact ⟨p,xs,h1,h2,h3,h4,by rw [h5]; exact ZP G (show RepV B H (.bl _) (.bl _) from rfl) w⟩
  · exact w.elim
def ZcF:D→Bool
  | .non=>true
  | _=>false
theorem ZlZ {B:Bx} {H:Hp} {d:D} {v:V} (r:RepV B H d v):ZcF d=decide (v=.non):=by
  cases d with
  | non=>cases (show v=.non from r); simp [ZcF]
  | bl b=>cases (show v=.bl b from r); simp [ZcF]
  | int i=>cases (show v=.int i from r); simp [ZcF]
  | str x=>cases (show v=.str x from r); simp [ZcF]
  | ty n=>cases (show v=.ty n from r); simp [ZcF]
  | scr ns=>obtain ⟨a,rfl,_⟩:=r; simp [ZcF]
  | tup xs=>obtain ⟨a,o,rfl,_⟩:=r; simp [ZcF]
  | lst xs=>obtain ⟨a,o,rfl,_⟩:=r; simp [ZcF]
  | ref l=>obtain ⟨_,rfl⟩:=r; simp [ZcF]
def isM:OM:=fun x y θ=>match y with
  | .non=>.ok (.bl (ZcF x)) θ
  | .bl c=>match x with
    | .bl b=>.ok (.bl (b == c)) θ
    | _=>.bad
  | _=>.bad
def ZjN:OM:=fun x y θ=>match y with
  | .non=>.ok (.bl (!ZcF x)) θ
  | .bl c=>match x with
    | .bl b=>.ok (.bl (!(b == c))) θ
    | _=>.bad
  | _=>.bad
theorem Zu1:OpR X (compareOp .Is) (fun x y H Q=>∃b c:Bool,x=.bl b∧y=.bl c∧Q (.bl (b == c)) H):=by
  intro pins s σ H x y v u Q I rx ry h
  obtain ⟨b,c,rfl,rfl,q⟩:=h
  cases rx
  cases ry
  have e:(Value.bool b == Value.bool c)=(b == c):=by cases b<;>cases c<;>rfl
  exact wpAny_is_plain rfl ⟨.bl _,H,I,rfl,by rw [e]; exact q⟩
theorem ZsT:OpR X (compareOp .Is) (rM X isM):=by
  refine OpR.imp (op_isN.or Zu1) fun x y H Q q=>?_
  obtain ⟨σ,B,θ,d,e,G,rd,re,w⟩:=q
  unfold isM at w
  split at w
  · refine .inl ⟨re,?_⟩
    have q:=ZP G (show RepV B H (.bl _) (.bl _) from rfl) w
    rw [ZlZ rd] at q
    exact q
  · split at w
    · exact .inr ⟨_,_,rd,re,ZP G (show RepV B H (.bl _) (.bl _) from rfl) w⟩
    · exact w.elim
  · exact w.elim
theorem ZsS:OpR X (compareOp .IsNot) (rM X ZjN):=by
  refine OpR.imp (op_notN.or ZsP) fun x y H Q q=>?_
  obtain ⟨σ,B,θ,d,e,G,rd,re,w⟩:=q
  unfold ZjN at w
  split at w
  · refine .inl ⟨re,?_⟩
    have q:=ZP G (show RepV B H (.bl _) (.bl _) from rfl) w
    rw [ZlZ rd] at q
    exact q
  · split at w
    · exact .inr ⟨_,_,rd,re,ZP G (show RepV B H (.bl _) (.bl _) from rfl) w⟩
    · exact w.elim
  · exact w.elim
end
end
end L2.MM
namespace L2.MM
open PySem PySem.Spec PyProof.Rows PySem.SeqAt
noncomputable section
variable {X:Cx}
section
def ixD (θ:Sto) (x:D) (i:Int):Option D:=match x with
  | .str z=>if z.length≤BIG then (atI z.cps.toList i).map fun c=>.str ⟨#[c]⟩ else none
  | x=>(seqOf θ x).bind (atI · i)
def ixM:OM:=fun x y θ=>match y with
  | .int i=>match ixD θ x i with
    | some d=>.ok d θ
    | none=>.bad
  | _=>.bad
theorem RepL.atI {B:Bx} {H:Hp} {xs:List D} {vs:List V} {i:Int} {d:D} (r:RepL B H xs vs) (h:atI xs i=some d):∃v,atI vs i=some v∧RepV B H d v:=by
  unfold L2.atI at h ⊢
  rw [r.len]
  cases e:ixN xs.length i with
  | none=>rw [e] at h; cases h
  | some j=>
    rw [e] at h
    exact r.get h
theorem ZD:IxR X (rM X ixM):=by
  refine IxR.imp Zve fun x y H Q q=>?_
  obtain ⟨σ,B,θ,d,e,G,rd,re,w⟩:=q
  unfold ixM at w
  split at w
  · rename_i i
    split at w
    · rename_i r e1
      have sq:(seqOf θ d).bind (L2.atI · i)=some r→rIx X.K x y H Q:=fun h=>by
        cases e2:seqOf θ d with
        | none=>rw [e2] at h; cases h
        | some xs=>
          rw [e2] at h
          obtain ⟨a,vs,rfl,h1,h2⟩:=Zc9 G rd e2
          obtain ⟨v,h3,h4⟩:=h2.atI h
          have q:=ZP G h4 w
          rcases h1 with h1 | h1
          · exact .inl ⟨a,vs,i,v,rfl,re,h1,h3,q⟩
          · exact .inr (.inl ⟨a,vs,i,v,rfl,re,h1,h3,q⟩)
      cases d with
      | str z=>
        simp only [ixD] at e1
        split at e1
        · rename_i hz
          cases e2:L2.atI z.cps.toList i with
          | none=>rw [e2] at e1; cases e1
          | some c=>
            rw [e2] at e1
            cases e1
            exact .inr (.inr ⟨z,i,c,rd,re,Zav hz,e2,ZP G (show RepV B H (.str _) (.str _) from rfl) w⟩)
        · cases e1
      | non=>exact sq e1
      | bl _=>exact sq e1
      | int _=>exact sq e1
      | ty _=>exact sq e1
      | scr _=>exact sq e1
      | tup _=>exact sq e1
      | lst _=>exact sq e1
      | ref _=>exact sq e1
    · exact w.elim
  · exact w.elim
abbrev PM:=List Sl→Sto→R (Option Int)
def EqO (_:Bx) (_:Hp) (a b:Option Int):Prop:=a=b
def tMO (X:Cx) (f:PM):TO:=fun σ H Q=>∃B θ ρ,Frm X.cl B θ ρ σ H∧wpR X σ EqO B H (f ρ θ) Q
def MO (X:Cx) (e:Option Expr) (f:PM):Prop:=PO X e (tMO X f)
theorem ZeB {f:PM} {σ:St} {H:Hp} {Q Q':Option Int→Hp→Prop} (h:tMO X f σ H Q) (hQ:∀v H',Q v H'→Q' v H'):tMO X f σ H Q':=let ⟨B,θ,ρ,F,w⟩:=h; ⟨B,θ,ρ,F,w.mono hQ⟩
theorem ZlB {σ:St} {H:Hp} {γ δ:Type} {Rel':Bx→Hp→γ→δ→Prop} {B:Bx} {θ:Sto} {ρ:List Sl} {f:PM} {k:Option Int→Sto→R γ} {Q:δ→Hp→Prop} (F:Frm X.cl B θ ρ σ H) (h:wpR X σ Rel' B H ((f ρ θ).bind k) Q) :
    tMO X f σ H (fun c H1=>∃B1 θ1,ExtE B B1 H H1∧Frm X.cl B1 θ1 ρ σ H1∧wpR X σ Rel' B1 H1 (k c θ1) Q):=
  ⟨B,θ,ρ,F,(wpR.bind (Rel:=EqO) h).mono fun v H1 ⟨B1,θ1,d,E,G,r,w⟩=>by cases (show d=v from r); exact ⟨B1,θ1,E,F.ext E G,w⟩⟩
def Za2:PM:=fun _ θ=>.ok none θ
def ZbF (f:EM):PM:=fun ρ θ=>(f ρ θ).bind fun x θ=>match x with
  | .int i=>.ok (some i) θ
  | _=>.bad
theorem PO.imp {e:Option Expr} {t t':TO} (h:PO X e t) (hi:∀σ H Q,t' σ H Q→t σ H Q):PO X e t':=fun pins s σ H Q I q=>h pins s σ H Q I (hi σ H Q q)
theorem ZbZ:MO X none Za2:=PO.imp ZsG fun σ H Q h=>by
  obtain ⟨B,θ,ρ,F,w⟩:=h
  exact ZP (Rel:=EqO) F.good rfl w
theorem Zaq {e:Expr} {f:EM} (h:ME X e f):MO X (some e) (ZbF f):=PO.imp (ZsF h) fun σ H Q h=>by
  obtain ⟨B,θ,ρ,F,w⟩:=h
  refine Z4 (step F w) ?_
  rintro v H1 ⟨B1,θ1,x,E1,F1,rx,w1⟩
  cases x with
  | int i=>exact ⟨i,rx,ZP (Rel:=EqO) F1.good rfl w1⟩
  | _=>exact w1.elim
def Zbg {α:Type} (xs:List α) (lo hi:Option Int):List α:=(xs.drop (HT.sIx xs.length 0 lo)).take (HT.sIx xs.length xs.length hi-HT.sIx xs.length 0 lo)
theorem RepL.cut {B:Bx} {H:Hp} {xs:List D} {vs:List V} (r:RepL B H xs vs) (lo hi:Option Int):RepL B H (Zbg xs lo hi) (Zme vs lo hi):=by
  unfold Zbg Zme
  rw [r.len]
  exact (r.drop _).take _
def ZfF (θ:Sto) (x:D) (lo hi:Option Int):Option D:=match x with
  | .tup xs=>if HT.sIx xs.length 0 lo=0∧HT.sIx xs.length xs.length hi=xs.length then none else some (.tup (Zbg xs lo hi))
  | x=>(Za0 θ x).map fun xs=>.lst (Zbg xs lo hi)
def mSl (f:EM) (lo hi:PM):EM:=fun ρ θ=>(f ρ θ).bind fun x θ=>(lo ρ θ).bind fun l θ=>(hi ρ θ).bind fun h θ=>match ZfF θ x l h with
  | some d=>.ok d θ
  | none=>.bad
theorem Zbk {e:Expr} {lo hi:Option Expr} {f:EM} {fl fh:PM} {pos p2:Pos} (he:ME X e f) (hl:MO X lo fl) (hh:MO X hi fh):ME X (.Subscript e (.Slice lo hi none p2) pos) (mSl f fl fh):=by
  refine PE.imp (ZqM (sl_list.or Zuy) he hl hh) fun σ H Q h=>?_
  obtain ⟨B,θ,ρ,F,w⟩:=h
  refine Z4 (step F w) ?_
  rintro v H1 ⟨B1,θ1,x,E1,F1,rx,w1⟩
  refine ZeB (ZlB F1 w1) ?_
  rintro l H2 ⟨B2,θ2,E2,F2,w2⟩
  refine ZeB (ZlB F2 w2) ?_
  rintro u H3 ⟨B3,θ3,E3,F3,w3⟩
  have rx3:=rx.ext (E2.trans E3).toExtS
  have lst:∀d,(Za0 θ3 x).map (fun xs=>D.lst (Zbg xs l u))=some d→wpR X σ RepV B3 H3 (R.ok d θ3) Q→Zww X.K v l u H3 Q:=fun d h w=>by
    cases e2:Za0 θ3 x with
    | none=>rw [e2] at h; cases h
    | some xs=>
      rw [e2] at h
      cases h
      obtain ⟨a,vs,rfl,h1,h2⟩:=Zaj F3.good rx3 e2
      exact ⟨a,vs,rfl,SqL.of h1,ZfD F3.good (h2.cut l u) w⟩
  split at w3
  · rename_i d e1
    cases x with
    | tup xs=>
      simp only [ZfF] at e1
      split at e1
      · cases e1
      · rename_i hw
        cases e1
        obtain ⟨a,vs,rfl,h1,k1,l1⟩:=rx3
        exact .inr ⟨a,vs,rfl,SqT.of h1,by rw [l1.len]; exact hw,ZhH F3.good (l1.cut l u) w3⟩
    | non=>exact .inl (lst d e1 w3)
    | bl _=>exact .inl (lst d e1 w3)
    | int _=>exact .inl (lst d e1 w3)
    | str _=>exact .inl (lst d e1 w3)
    | ty _=>exact .inl (lst d e1 w3)
    | scr _=>exact .inl (lst d e1 w3)
    | lst _=>exact .inl (lst d e1 w3)
    | ref _=>exact .inl (lst d e1 w3)
  · exact w3.elim
def ZdT {α:Type} (xs:List α) (lo hi st:Option Int):List α:=(sliceRange (sliceBounds lo hi st xs.length).1 (sliceBounds lo hi st xs.length).2.1 (sliceBounds lo hi st xs.length).2.2).filterMap (xs[·]?)
theorem RepL.none_of:∀{B:Bx} {H:Hp} {xs:List D} {vs:List V} {i:Nat},RepL B H xs vs→xs[i]?=none→vs[i]?=none:=fun {B H xs vs i} r e=>by
  have h1:=r.len
  have h2:xs.length≤i:=List.getElem?_eq_none_iff.mp e
  exact List.getElem?_eq_none_iff.mpr (by omega)
theorem RepL.pick {B:Bx} {H:Hp} {xs:List D} {vs:List V} (r:RepL B H xs vs):∀ks:List Nat,RepL B H (ks.filterMap (xs[·]?)) (ks.filterMap (vs[·]?))
  | []=>rfl
  | k::ks=>by
    cases e:xs[k]? with
    | none=>rw [List.filterMap_cons_none e,List.filterMap_cons_none (r.none_of e)]; exact r.pick ks
    | some x=>
      obtain ⟨u,e',q⟩:=r.get e
      rw [List.filterMap_cons_some e,List.filterMap_cons_some e']
      exact ⟨_,_,rfl,q,r.pick ks⟩
def Zs1 (f:EM) (lo hi st:PM):EM:=fun ρ θ=>(f ρ θ).bind fun x θ=>(lo ρ θ).bind fun l θ=>(hi ρ θ).bind fun h θ=>(st ρ θ).bind fun s θ=>match Za0 θ x with
  | some xs=>if s≠some 0∧(ZdT xs l h s).length≤BIG then .ok (.lst (ZdT xs l h s)) θ else .bad
  | none=>.bad
theorem Zi3 {e sp:Expr} {lo hi:Option Expr} {f:EM} {fl fh fs:PM} {pos p2:Pos} (he:ME X e f) (hl:MO X lo fl) (hh:MO X hi fh) (hs:MO X (some sp) fs):ME X (.Subscript e (.Slice lo hi (some sp) p2) pos) (Zs1 f fl fh fs):=by
  refine PE.imp (Zoi he hl hh hs) fun σ H Q h=>?_
  obtain ⟨B,θ,ρ,F,w⟩:=h
  refine Z4 (step F w) ?_
  rintro v H1 ⟨B1,θ1,x,E1,F1,rx,w1⟩
  refine ZeB (ZlB F1 w1) ?_
  rintro l H2 ⟨B2,θ2,E2,F2,w2⟩
  refine ZeB (ZlB F2 w2) ?_
  rintro u H3 ⟨B3,θ3,E3,F3,w3⟩
  refine ZeB (ZlB F3 w3) ?_
  rintro s H4 ⟨B4,θ4,E4,F4,w4⟩
  split at w4
  · rename_i xs e1
    split at w4
    · rename_i hz
      obtain ⟨a,vs,rfl,h1,h2⟩:=Zaj F4.good (rx.ext ((E2.trans E3).trans E4).toExtS) e1
      have p:RepL B4 H4 (ZdT xs l u s) (ZeE vs l u s):=by
        unfold ZdT ZeE
        rw [h2.len]
        exact h2.pick _
      exact ⟨a,vs,rfl,SqL.of h1,hz.1,by rw [p.len]; exact Zav hz.2,ZfD F4.good p w4⟩
    · exact w4.elim
  · exact w4.elim
def Zdr:GM:=fun ds θ=>match ds with
  | [.str z]=>if z.length≤BIG then .ok (.int z.length) θ else .bad
  | [d]=>match seqOf θ d with
    | some xs=>.ok (.int xs.length) θ
    | none=>.bad
  | _=>.bad
theorem RepL.one {B:Bx} {H:Hp} {d:D} {vs:List V} (r:RepL B H [d] vs):∃v,vs=[v]∧RepV B H d v:=by
  obtain ⟨v,q,rfl,hv,hq⟩:=r
  cases (show q=[] from hq)
  exact ⟨v,rfl,hv⟩
theorem RepL.two {B:Bx} {H:Hp} {d e:D} {vs:List V} (r:RepL B H [d,e] vs):∃v u,vs=[v,u]∧RepV B H d v∧RepV B H e u:=by
  obtain ⟨v,q,rfl,hv,hq⟩:=r
  obtain ⟨u,rfl,hu⟩:=hq.one
  exact ⟨v,u,rfl,hv,hu⟩
theorem Zdj:CallR X (.builtin "len") (rC X Zdr):=by
  refine CallR.imp (call_len_str.or ZjW) fun vs H Q q=>?_
  obtain ⟨σ,B,θ,ds,G,r,w⟩:=q
  unfold Zdr at w
  split at w
  · split at w
    · rename_i z hz
      obtain ⟨v,rfl,rv⟩:=r.one
      cases (show v=V.str z from rv)
      exact .inl ⟨z,rfl,Zav hz,ZP G (show RepV B H (.int _) (.int _) from rfl) w⟩
    · exact w.elim
  · split at w
    · rename_i xs e1
      obtain ⟨v,rfl,rv⟩:=r.one
      obtain ⟨a,us,rfl,h1,h2⟩:=Zc9 G rv e1
      exact .inr ⟨a,us,rfl,h1,by rw [h2.len]; exact ZP G (show RepV B H (.int _) (.int _) from rfl) w⟩
    · exact w.elim
  · exact w.elim
def Zge:List D→Option (List Int)
  | []=>some []
  | .int i::r=>(Zge r).map (i::·)
  | _=>none
@[simp] theorem Zrm (ns:List Int):Zge (ns.map D.int)=some ns:=by
  induction ns with
  | nil=>rfl
  | cons n r ih=>simp [Zge,ih]
theorem ZnH:∀{ds:List D} {ns:List Int},Zge ds=some ns→ds=ns.map D.int
  | [],_,h=>by cases h; rfl
  | d::r,ns,h=>by
    cases d with
    | int i=>
      simp only [Zge] at h
      cases e:Zge r with
      | none=>rw [e] at h; cases h
      | some ms=>rw [e] at h; cases h; rw [ZnH e]; rfl
    | _=>cases h
theorem Zl0 {B:Bx} {H:Hp}:∀{ns:List Int} {vs:List V},RepL B H (ns.map D.int) vs→vs=ns.map V.int
  | [],_,r=>r
  | n::ns,_,r=>by
    obtain ⟨v,q,rfl,hv,hq⟩:=r
    cases (show v=V.int n from hv)
    rw [Zl0 hq]; rfl
def ZjZ:List D→Option (List Bool)
  | []=>some []
  | .bl i::r=>(ZjZ r).map (i::·)
  | _=>none
theorem ZrQ:∀{ds:List D} {ns:List Bool},ZjZ ds=some ns→ds=ns.map D.bl
  | [],_,h=>by cases h; rfl
  | d::r,ns,h=>by
    cases d with
    | bl i=>
      simp only [ZjZ] at h
      cases e:ZjZ r with
      | none=>rw [e] at h; cases h
      | some ms=>rw [e] at h; cases h; rw [ZrQ e]; rfl
    | _=>cases h
theorem ZnV {B:Bx} {H:Hp}:∀{ns:List Bool} {vs:List V},RepL B H (ns.map D.bl) vs→vs=ns.map V.bl
  | [],_,r=>r
  | n::ns,_,r=>by
    obtain ⟨v,q,rfl,hv,hq⟩:=r
    cases (show v=V.bl n from hv)
    rw [ZnV hq]; rfl
def Zn8:GM:=fun ds θ=>match ds with
  | [d]=>match (Za0 θ d).bind Zge with
    | some ns=>.ok (.int ns.sum) θ
    | none=>.bad
  | _=>.bad
theorem Zt1 (hc:X.calm=true:=by rfl):CallR X (.builtin "sum") (rC X Zn8):=by
  refine CallR.imp (ZrL hc) fun vs H Q q=>?_
  obtain ⟨σ,B,θ,ds,G,r,w⟩:=q
  unfold Zn8 at w
  split at w
  · rename_i d
    split at w
    · rename_i ns e1
      obtain ⟨v,rfl,rv⟩:=r.one
      cases e2:Za0 θ d with
      | none=>rw [e2] at e1; cases e1
      | some xs=>
        rw [e2] at e1
        obtain ⟨a,us,rfl,h1,h2⟩:=Zaj G rv e2
        rw [ZnH (show Zge xs=some ns from e1)] at h2
        rw [Zl0 h2] at h1
        exact ⟨a,ns,rfl,SqL.of h1,ZP G (show RepV B H (.int _) (.int _) from rfl) w⟩
    · exact w.elim
  · exact w.elim
def ZrV:GM:=fun ds θ=>match ds with
  | [d]=>match (Za0 θ d).bind ZjZ with
    | some ns=>.ok (.bl (ns.all id)) θ
    | none=>.bad
  | _=>.bad
theorem Zxm (hc:X.calm=true:=by rfl):CallR X (.builtin "all") (rC X ZrV):=by
  refine CallR.imp (ZrN hc) fun vs H Q q=>?_
  obtain ⟨σ,B,θ,ds,G,r,w⟩:=q
  unfold ZrV at w
  split at w
  · rename_i d
    split at w
    · rename_i ns e1
      obtain ⟨v,rfl,rv⟩:=r.one
      cases e2:Za0 θ d with
      | none=>rw [e2] at e1; cases e1
      | some xs=>
        rw [e2] at e1
        obtain ⟨a,us,rfl,h1,h2⟩:=Zaj G rv e2
        rw [ZrQ (show ZjZ xs=some ns from e1)] at h2
        rw [ZnV h2] at h1
        exact ⟨a,ns,rfl,SqL.of h1,ZP G (show RepV B H (.bl _) (.bl _) from rfl) w⟩
    · exact w.elim
  · exact w.elim
def ZlU:GM:=fun ds θ=>match ds with
  | [.int i,.int j]=>.ok (.int (if j<i then j else i)) θ
  | [.int i,.int j,.int k]=>.ok (.int (if j<i then (if k<j then k else j) else (if k<i then k else i))) θ
  | _=>.bad
def Zs0:GM:=fun ds θ=>match ds with
  | [.int i,.int j]=>.ok (.int (if j > i then j else i)) θ
  | _=>.bad
theorem RepL.three {B:Bx} {H:Hp} {d e f:D} {vs:List V} (r:RepL B H [d,e,f] vs):∃v u w,vs=[v,u,w]∧RepV B H d v∧RepV B H e u∧RepV B H f w:=by
  obtain ⟨v,q,rfl,hv,hq⟩:=r
  obtain ⟨u,w,rfl,hu,hw⟩:=hq.two
  exact ⟨v,u,w,rfl,hv,hu,hw⟩
theorem ZoG (hc:X.calm=true):CallR X (.builtin "min") (fun xs H Q=>∃i j k,xs=[.int i,.int j,.int k]∧Q (.int (if j<i then (if k<j then k else j) else (if k<i then k else i))) H):=by
  intro pins s σ H xs us Q I r h
  obtain ⟨i,j,k,rfl,q⟩:=h
  cases r with
  | cons r1 rr=>
    obtain ⟨u2,u3,e,r2,r3⟩:=Zqj rr
    subst e
    obtain ⟨t1,rfl⟩:=r1
    obtain ⟨t2,rfl⟩:=r2
    obtain ⟨t3,rfl⟩:=r3
    refine min_three_ints (I.ok.hd hc) fun h' tk kk=>⟨_,H,I.kept kk,?_,q⟩
    by_cases c1:j<i
    · by_cases c2:k<j
      · simp only [c1,c2,if_true]; exact ⟨_,rfl⟩
      · simp only [c1,c2,if_true,if_false]; exact ⟨_,rfl⟩
    · by_cases c2:k<i
      · simp only [c1,c2,if_true,if_false]; exact ⟨_,rfl⟩
      · simp only [c1,c2,if_false]; exact ⟨_,rfl⟩
theorem ZnU (hc:X.calm=true:=by rfl):CallR X (.builtin "min") (rC X ZlU):=by
  refine CallR.imp ((ZoH hc).or (ZoG hc)) fun vs H Q q=>?_
  obtain ⟨σ,B,θ,ds,G,r,w⟩:=q
  unfold ZlU at w
  split at w
  · rename_i i j
    obtain ⟨v,u,rfl,rv,ru⟩:=r.two
    cases (show v=V.int i from rv)
    cases (show u=V.int j from ru)
    exact .inl ⟨i,j,rfl,ZP G (show RepV B H (.int _) (.int _) from rfl) w⟩
  · rename_i i j k
    obtain ⟨v,u,z,rfl,rv,ru,rz⟩:=r.three
    cases (show v=V.int i from rv)
    cases (show u=V.int j from ru)
    cases (show z=V.int k from rz)
    exact .inr ⟨i,j,k,rfl,ZP G (show RepV B H (.int _) (.int _) from rfl) w⟩
  · exact w.elim
theorem Zxl (hc:X.calm=true:=by rfl):CallR X (.builtin "max") (rC X Zs0):=by
  refine CallR.imp (ZoI hc) fun vs H Q q=>?_
  obtain ⟨σ,B,θ,ds,G,r,w⟩:=q
  unfold Zs0 at w
  split at w
  · rename_i i j
    obtain ⟨v,u,rfl,rv,ru⟩:=r.two
    cases (show v=V.int i from rv)
    cases (show u=V.int j from ru)
    exact ⟨i,j,rfl,ZP G (show RepV B H (.int _) (.int _) from rfl) w⟩
  · exact w.elim
def Zib:GM:=fun ds θ=>match ds with
  | [.int i]=>.ok (.int i) θ
  | [.bl k]=>.ok (.int (if k then 1 else 0)) θ
  | _=>.bad
theorem Zmk:CallR X (.type "int") (rC X Zib):=by
  refine CallR.imp ZoJ fun vs H Q q=>?_
  obtain ⟨σ,B,θ,ds,G,r,w⟩:=q
  unfold Zib at w
  split at w
  · rename_i i
    obtain ⟨v,rfl,rv⟩:=r.one
    cases (show v=V.int i from rv)
    exact .inl ⟨i,rfl,ZP G (show RepV B H (.int _) (.int _) from rfl) w⟩
  · rename_i k
    obtain ⟨v,rfl,rv⟩:=r.one
    cases (show v=V.bl k from rv)
    exact .inr ⟨k,rfl,ZP G (show RepV B H (.int _) (.int _) from rfl) w⟩
  · exact w.elim
def ZlX:GM:=fun ds θ=>match ds with
  | [d]=>match seqOf θ d with
    | some xs=>.ok (.lst xs) θ
    | none=>.bad
  | _=>.bad
theorem ZrO:CallR X (.type "list") (rC X ZlX):=by
  refine CallR.imp ZjV fun vs H Q q=>?_
  obtain ⟨σ,B,θ,ds,G,r,w⟩:=q
  unfold ZlX at w
  split at w
  · split at w
    · rename_i xs e1
      obtain ⟨v,rfl,rv⟩:=r.one
      obtain ⟨a,us,rfl,h1,h2⟩:=Zc9 G rv e1
      exact ⟨a,us,rfl,h1,ZfD G h2 w⟩
    · exact w.elim
  · exact w.elim
def ZfE:GM:=fun ds θ=>match ds with
  | [.tup xs]=>.ok (.tup xs) θ
  | [d]=>match Za0 θ d with
    | some xs=>.ok (.tup xs) θ
    | none=>.bad
  | _=>.bad
theorem ZhD:CallR X (.type "tuple") (rC X ZfE):=by
  refine CallR.imp ZiH fun vs H Q q=>?_
  obtain ⟨σ,B,θ,ds,G,r,w⟩:=q
  unfold ZfE at w
  split at w
  · rename_i xs
    obtain ⟨v,rfl,rv⟩:=r.one
    obtain ⟨a,us,rfl,h1,k1,l1⟩:=id rv
    exact ⟨a,us,rfl,.inr ⟨SqT.of h1,ZP G rv w⟩⟩
  · split at w
    · rename_i xs e1
      obtain ⟨v,rfl,rv⟩:=r.one
      obtain ⟨a,us,rfl,h1,h2⟩:=Zaj G rv e1
      exact ⟨a,us,rfl,.inl ⟨SqL.of h1,ZhH G h2 w⟩⟩
    · exact w.elim
  · exact w.elim
inductive Ty | non | bl | int | str | lst | tup
def Ty.nm:Ty→String
  | .non=>"NoneType" | .bl=>"bool" | .int=>"int" | .str=>"str" | .lst=>"list" | .tup=>"tuple"
def tyD (θ:Sto):D→Option Ty
  | .non=>some .non
  | .bl _=>some .bl
  | .int _=>some .int
  | .str _=>some .str
  | .tup _=>some .tup
  | .scr _=>none
  | d=>(Za0 θ d).map fun _=>.lst
def isT:Ty→String→Option Bool
  | .non,"int"=>some false | .non,"bool"=>some false | .non,"list"=>some false | .non,"tuple"=>some false | .non,"str"=>some false
  | .bl,"int"=>some true | .bl,"bool"=>some true | .bl,"list"=>some false | .bl,"tuple"=>some false | .bl,"str"=>some false
  | .int,"int"=>some true | .int,"bool"=>some false | .int,"list"=>some false | .int,"tuple"=>some false | .int,"str"=>some false
  | .str,"int"=>some false | .str,"bool"=>some false | .str,"list"=>some false | .str,"tuple"=>some false | .str,"str"=>some true
  | .lst,"int"=>some false | .lst,"bool"=>some false | .lst,"list"=>some true | .lst,"tuple"=>some false | .lst,"str"=>some false
  | .tup,"int"=>some false | .tup,"bool"=>some false | .tup,"list"=>some false | .tup,"tuple"=>some true | .tup,"str"=>some false
  | _,_=>none
theorem Zvf {K:PySem.W.Frag} {t:Ty} {n:String} {b:Bool} (h:isT t n=some b):PySem.W.kitOne K (.type t.nm) (.type n)=some b:=by
  unfold isT at h
  split at h<;>first | (cases h; with_unfolding_all rfl) | cases h
def Zfw:GM:=fun ds θ=>match ds with
  | [d,.ty n]=>match (tyD θ d).bind (isT · n) with
    | some b=>.ok (.bl b) θ
    | none=>.bad
  | _=>.bad
theorem Zua {B:Bx} {θ:Sto} {H:Hp} {K:PySem.W.Frag} (G:Good X.cl B θ H) {d:D} {v:V} {t:Ty} (r:RepV B H d v) (h:tyD θ d=some t):Zgu K H v (.type t.nm):=by
  cases d with
  | non=>cases (show v=.non from r); cases h; exact .non
  | bl b=>cases (show v=.bl b from r); cases h; exact .bl b
  | int b=>cases (show v=.int b from r); cases h; exact .int b
  | str b=>cases (show v=.str b from r); cases h; exact .str b
  | tup xs=>obtain ⟨a,vs,rfl,h1,_⟩:=r; cases h; exact .tup h1
  | scr xs=>cases h
  | lst xs=>obtain ⟨a,vs,rfl,h1,_⟩:=r; cases h; exact .lst h1
  | ref l=>
    cases e:Za0 θ (.ref l) with
    | none=>simp only [tyD,e] at h; cases h
    | some xs=>
      simp only [tyD,e] at h
      cases h
      obtain ⟨a,us,rfl,h1,h2⟩:=Zaj G r e
      exact .lst h1
  | ty n=>cases h
theorem ZjX:CallR X (.builtin "isinstance") (rC X Zfw):=by
  refine CallR.imp Zmj fun vs H Q q=>?_
  obtain ⟨σ,B,θ,ds,G,r,w⟩:=q
  unfold Zfw at w
  split at w
  · rename_i d n
    split at w
    · rename_i b e1
      obtain ⟨v,u,rfl,rv,ru⟩:=r.two
      cases (show u=V.ty n from ru)
      cases e2:tyD θ d with
      | none=>rw [e2] at e1; cases e1
      | some t=>
        rw [e2] at e1
        exact ⟨v,n,_,b,rfl,Zua G rv e2,Zvf e1,ZP G (show RepV B H (.bl _) (.bl _) from rfl) w⟩
    · exact w.elim
  · exact w.elim
end
end
end L2.MM
namespace L2.MM
open PySem PySem.Spec PyProof.Rows PySem.SeqAt
noncomputable section
variable {X:Cx}
inductive Src where
  | seq (d:D) | rng (lo:Int) (n:Nat)
def Src.items (θ:Sto):Src→Option (List D)
  | .seq d=>seqOf θ d
  | .rng lo n=>some ((List.range n).map fun (i:Nat)=>D.int (lo+(i:Int)))
def SrcRep (K:PySem.W.Frag) (B:Bx) (H:Hp):Src→It→Prop
  | .seq d,J=>∃a,RepV B H d (.ref a)∧J=(match d with | .tup _=>Itt K a | _=>Itl K a)
  | .rng lo n,J=>J=Itr lo n
abbrev IM:=List Sl→Sto→R Src
section
def tMI (X:Cx) (f:IM):TI:=fun σ H Q=>∃B θ ρ,Frm X.cl B θ ρ σ H∧wpR X σ (SrcRep X.K) B H (f ρ θ) Q
def MI (X:Cx) (tg iter:Expr) (f:IM):Prop:=PI X tg iter (tMI X f)
theorem PI.imp {tg iter:Expr} {t t':TI} (h:PI X tg iter t) (hi:∀σ H Q,t' σ H Q→t σ H Q):PI X tg iter t':=fun pins s σ H Q I q=>h pins s σ H Q I (hi σ H Q q)
theorem SrcRep.ext {K:PySem.W.Frag} {B B':Bx} {H H':Hp} {S:Src} {J:It} (r:SrcRep K B H S J) (E:ExtS B B' H H'):SrcRep K B' H' S J:=by
  cases S with
  | seq d=>obtain ⟨a,h,e⟩:=r; exact ⟨a,h.ext E,e⟩
  | rng lo n=>exact r
theorem Zjx {cl:Mo} {B:Bx} {θ:Sto} {H:Hp} {S:Src} {J:It} {xs:List D} (G:Good cl B θ H) (r:SrcRep cl.K B H S J) (h:S.items θ=some xs) :
    (∀i d,xs[i]?=some d→J.go i H∧∀x H',J.yld i H x H'→H'=H∧RepV B H d x)∧J.stop xs.length H:=by
  cases S with
  | rng lo n=>
    cases (show J=Itr lo n from r)
    cases h
    refine ⟨fun i d e=>?_,by show n≤_; simp⟩
    rw [List.getElem?_map] at e
    by_cases hi:i<n
    · rw [List.getElem?_range hi] at e
      cases e
      exact ⟨hi,fun x H' y=>⟨y.1,y.2⟩⟩
    · rw [List.getElem?_eq_none (by simpa using hi)] at e
      cases e
  | seq d=>
    obtain ⟨a,rv,e⟩:=r
    cases d with
    | tup ys=>
      obtain ⟨a',vs,e1,h1,_,h2⟩:=rv
      cases e1
      cases h
      simp only at e
      subst e
      refine ⟨fun i d e=>?_,⟨vs,SqT.of h1,by rw [h2.len]; exact Nat.le_refl _⟩⟩
      obtain ⟨v,q1,q2⟩:=h2.get e
      refine ⟨⟨vs,v,SqT.of h1,q1⟩,fun x H' y=>⟨y.1,?_⟩⟩
      have:=y.2 vs (SqT.of h1)
      rw [q1] at this
      cases this
      exact q2
    | scr ns=>
      cases h
      obtain ⟨a',vs',e1,h1,_⟩:=Zc9 G rv (show seqOf θ (.scr ns)=some (ns.map D.int) from rfl)
      cases e1
      simp only at e
      subst e
      have hS:SqL cl.K H a (ns.map V.int):=by
        obtain ⟨a',e1,h1⟩:=rv
        cases e1
        rcases h1 with ⟨o,h1,_⟩ | h1
        · exact .inl (.inr ⟨o,h1⟩)
        · exact .inr (G.kc a ns h1)
      have h2:RepL B H (ns.map D.int) (ns.map V.int):=RepL.map (f:=D.int) (g:=V.int) (fun _=>rfl) ns
      refine ⟨fun i d e=>?_,⟨ns.map V.int,hS,by simp⟩⟩
      obtain ⟨v,q1,q2⟩:=h2.get e
      refine ⟨⟨_,v,hS,q1⟩,fun x H' y=>⟨y.1,?_⟩⟩
      have:=y.2 _ hS
      rw [q1] at this
      cases this
      exact q2
    | lst ys=>
      obtain ⟨a',vs,e1,h1,h2⟩:=Zaj G rv (show Za0 θ (.lst ys)=some xs from h)
      cases e1
      simp only at e
      subst e
      refine ⟨fun i d e=>?_,⟨vs,SqL.of h1,by rw [h2.len]; exact Nat.le_refl _⟩⟩
      obtain ⟨v,q1,q2⟩:=h2.get e
      refine ⟨⟨vs,v,SqL.of h1,q1⟩,fun x H' y=>⟨y.1,?_⟩⟩
      have:=y.2 vs (SqL.of h1)
      rw [q1] at this
      cases this
      exact q2
    | ref l=>
      obtain ⟨a',vs,e1,h1,h2⟩:=Zaj G rv (show Za0 θ (.ref l)=some xs from h)
      cases e1
      simp only at e
      subst e
      refine ⟨fun i d e=>?_,⟨vs,SqL.of h1,by rw [h2.len]; exact Nat.le_refl _⟩⟩
      obtain ⟨v,q1,q2⟩:=h2.get e
      refine ⟨⟨vs,v,SqL.of h1,q1⟩,fun x H' y=>⟨y.1,?_⟩⟩
      have:=y.2 vs (SqL.of h1)
      rw [q1] at this
      cases this
      exact q2
    | non=>cases h
    | bl _=>cases h
    | int _=>cases h
    | str _=>cases h
    | ty _=>cases h
def ZAS (K:PySem.W.Frag) (tl:TE):TI:=fun σ H R=>tl σ H fun x H1=>∃a,x=.ref a∧(((∃xs,SqL K H1 a xs)∧R (Itl K a) H1)∨((∃xs,SqT K H1 a xs)∧R (Itt K a) H1))
theorem ZuN {tg l:Expr} {tl:TE} (hl:PE X l tl):PI X tg l (ZAS X.K tl):=by
  intro pins s σ H R I h
  refine thn (hl pins s σ H _ I h) fun v s1 ⟨x,H1,I1,r1,q1⟩=>?_
  obtain ⟨a,e,q1⟩:=q1
  subst e
  cases r1
  rcases q1 with ⟨⟨xs,hq⟩,q⟩ | ⟨⟨xs,hq⟩,q⟩
  · obtain ⟨its,rv,p,hz⟩:=I1.list hq
    refine wpAny_pyIter_list p.isList ?_
    refine ⟨s1.heap.objs.size,[s1.heap.objs.size],_,_,H1,rfl,I1.kept (t':=s1.toks) fun b o e=>Heap.get?_push_of_some _ e,Zn4 a _,⟨_,Heap.get?_push_size _ rfl,rfl,rfl⟩,fun b hb=>?_,q⟩
    have e:b=s1.heap.objs.size:=by simpa using hb
    subst e
    exact I1.fpOk (Nat.le_refl _) (I1.hok.fresh (Nat.le_refl _))
  · obtain ⟨its,rv,p,hz⟩:=I1.tuple hq
    refine wpAny_pyIter_tuple (show s1.heap.IsTuple a its.toArray from p) ?_
    refine ⟨s1.heap.objs.size,[s1.heap.objs.size],_,_,H1,rfl,I1.kept (t':=s1.toks) fun b o e=>Heap.get?_push_of_some _ e,Zmv a _,⟨_,Heap.get?_push_size _ rfl,rfl,rfl⟩,fun b hb=>?_,q⟩
    have e:b=s1.heap.objs.size:=by simpa using hb
    subst e
    exact I1.fpOk (Nat.le_refl _) (I1.hok.fresh (Nat.le_refl _))
def mIn (f:EM):IM:=fun ρ θ=>(f ρ θ).bind fun d θ=>match seqOf θ d with
  | some _=>.ok (.seq d) θ
  | none=>.bad
theorem ZjI {tg l:Expr} {f:EM} (h:ME X l f):MI X tg l (mIn f):=by
  refine PI.imp (ZuN h) fun σ H R q=>?_
  obtain ⟨B,θ,ρ,F,w⟩:=q
  refine Z4 (step F w) ?_
  rintro v H1 ⟨B1,θ1,d,E1,F1,rd,w1⟩
  split at w1
  · rename_i xs e
    obtain ⟨a,vs,rfl,h1,h2⟩:=Zc9 F1.good rd e
    refine ⟨a,rfl,?_⟩
    have fin:=fun J (hJ:SrcRep X.K B1 H1 (.seq d) J)=>ZP (Rel:=SrcRep X.K) F1.good hJ w1
    cases d with
    | tup ys=>
      obtain ⟨a',us,e1,g1,_,_⟩:=id rd
      cases e1
      exact .inr ⟨⟨us,SqT.of g1⟩,fin _ ⟨a,rd,rfl⟩⟩
    | scr ns=>
      have hS:SqL X.K H1 a (ns.map V.int):=by
        obtain ⟨a',e1,g1⟩:=id rd
        cases e1
        rcases g1 with ⟨o,g1,_⟩ | g1
        · exact .inl (.inr ⟨o,g1⟩)
        · exact .inr (F1.good.kc a ns g1)
      exact .inl ⟨⟨_,hS⟩,fin _ ⟨a,rd,rfl⟩⟩
    | lst ys=>
      obtain ⟨a',us,e1,g1,_⟩:=Zaj F1.good rd (show Za0 θ1 (.lst ys)=some xs from e)
      cases e1
      exact .inl ⟨⟨us,SqL.of g1⟩,fin _ ⟨a,rd,rfl⟩⟩
    | ref l=>
      obtain ⟨a',us,e1,g1,_⟩:=Zaj F1.good rd (show Za0 θ1 (.ref l)=some xs from e)
      cases e1
      exact .inl ⟨⟨us,SqL.of g1⟩,fin _ ⟨a,rd,rfl⟩⟩
    | non=>cases e
    | bl _=>cases e
    | int _=>cases e
    | str _=>cases e
    | ty _=>cases e
  · exact w1.elim
def ZcW (f:AM):IM:=fun ρ θ=>(f ρ θ).bind fun ds θ=>match ds with
  | [.int j]=>if -1000000≤j∧j≤1000000 then .ok (.rng 0 j.toNat) θ else .bad
  | _=>.bad
theorem Zc5 {tg a:Expr} {f:AM} {p pos:Pos} (hm:X.mg "range"=none) (ha:MA X [a] f) (hg:Gl X "range":=by rfl) (hs:starEach [a] X.env=[(false,eval a X.env)]:=by rfl):MI X tg (.Call (.Name "range" p) [a] [] pos) (ZcW f):=by
  refine PI.imp (Zoh hg hm ha hs) fun σ H R q=>?_
  obtain ⟨B,θ,ρ,F,w⟩:=q
  refine ZbU (ZhO F w) ?_
  rintro vs H1 ⟨B1,θ1,ds,E1,F1,rd,w1⟩
  split at w1
  · rename_i j
    split at w1
    · rename_i hj
      obtain ⟨v,rfl,rv⟩:=rd.one
      cases (show v=V.int j from rv)
      exact ⟨j,rfl,by have:=hj.1; omega,by have:=hj.2; omega,ZP (Rel:=SrcRep X.K) F1.good (show SrcRep X.K B1 H1 (.rng 0 j.toNat) _ from rfl) w1⟩
    · exact w1.elim
  · exact w1.elim
def ZeP (src:List Nat) (ρ:List Sl) (x:D):List Sl:=Sl.val x::src.map fun (j:Nat)=>match ρ[j]? with
  | some (Sl.val d)=>Sl.val d
  | _=>Sl.no
theorem Frm.inner {B:Bx} {θ:Sto} {ρ:List Sl} {σ:St} {H:Hp} (F:Frm X.cl B θ ρ σ H) (src:List Nat) {x:D} {v:V} (r:RepV B H x v):Frm X.cl B θ (ZeP src ρ x) (L2.inner src σ (some v)) H:=by
  have key:∀(i:Nat) (s:Sl),(ZeP src ρ x)[i]?=some s→s=.no∨∃d,s=.val d∧∃v',(L2.inner src σ (some v))[i]?=some (some v')∧RepV B H d v':=fun i s e=>by
    cases i with
    | zero=>simp [ZeP] at e; subst e; exact .inr ⟨x,rfl,v,by simp [L2.inner],r⟩
    | succ i=>
      simp only [ZeP,List.getElem?_cons_succ,List.getElem?_map] at e
      simp only [L2.inner,List.getElem?_cons_succ,List.getElem?_map]
      cases q:src[i]? with
      | none=>rw [q] at e; cases e
      | some j=>
        rw [q] at e
        simp only [Option.map_some,Option.some.injEq] at e
        split at e
        · rename_i d ed
          subst e
          obtain ⟨v',h1,h2⟩:=F.val j d ed
          exact .inr ⟨d,rfl,v',by simp [h1],h2⟩
        · exact .inl e.symm
  refine ⟨F.good,by simp [ZeP,L2.inner],fun i d e=>?_,fun i xs e=>?_,fun i j xs ys a _ e _=>?_⟩
  · rcases key i _ e with z | ⟨d',z,v',h1,h2⟩
    · cases z
    · cases z; exact ⟨v',h1,h2⟩
  · rcases key i _ e with z | ⟨d',z,_⟩<;>cases z
  · rcases key i _ e with z | ⟨d',z,_⟩<;>cases z
open Classical in
def Zg8 (S:Src) (all:List D) (elt:D→Sto→R D):List D→List D→Sto→R D
  | [],acc,θ=>if S.items θ=some all∧acc.length≤BIG then .ok (.lst acc) θ else .bad
  | x::r,acc,θ=>if S.items θ=some all then (elt x θ).bind fun y θ=>Zg8 S all elt r (acc++[y]) θ else .bad
def mComp (fi:IM) (src:List Nat) (elt:EM):EM:=fun ρ θ=>(fi ρ θ).bind fun S θ=>match S.items θ with
  | some xs=>if xs.length≤BIG then Zg8 S xs (fun x θ=>elt (ZeP src ρ x) θ) xs [] θ else .bad
  | none=>.bad
open Classical in
theorem Znd {fi:IM} {src:List Nat} {elt:EM} (σ:St) (H:Hp) (Q:VK) (h:tM X (mComp fi src elt) σ H Q):tLc (tMI X fi) src (tM X elt) σ H Q:=by
  obtain ⟨B,θ,ρ,F,w⟩:=h
  refine ⟨B,θ,ρ,F,(wpR.bind (Rel:=SrcRep X.K) w).mono ?_⟩
  rintro J H1 ⟨B1,θ1,S,E1,G1,rJ,w1⟩
  split at w1
  · rename_i xs e1
    split at w1
    · rename_i hz
      refine ⟨xs.length,fun i ys H'=>∃B' θ' acc,ExtE B1 B' H1 H'∧Good X.cl B' θ' H'∧RepL B' H' acc ys∧wpR X σ RepV B' H' (Zg8 S xs (fun x θ=>elt (ZeP src ρ x) θ) (xs.drop i) acc θ') Q,Zav hz,?_,?_,?_⟩
      · exact ⟨B1,θ1,[],ExtE.refl _ _,G1,rfl,w1⟩
      · rintro i ys H' hi ⟨B2,θ2,acc,E2,G2,racc,w2⟩
        rw [List.drop_eq_getElem_cons hi] at w2
        unfold Zg8 at w2
        split at w2
        · rename_i e2
          obtain ⟨g1,g2⟩:=(Zjx G2 (rJ.ext E2.toExtS) e2).1 i xs[i] (List.getElem?_eq_getElem hi)
          refine ⟨g1,fun y H3 hy=>?_⟩
          obtain ⟨rfl,ry⟩:=g2 y H3 hy
          have F2:=(F.ext (E1.trans E2) G2).inner src ry
          refine ⟨B2,θ2,_,F2,(wpR.bind (Rel:=RepV) w2).mono ?_⟩
          rintro z H4 ⟨B4,θ4,d,E4,G4,rd,w4⟩
          exact ⟨B4,θ4,acc++[d],E2.trans E4,G4,(racc.ext E4.toExtS).app ⟨z,[],rfl,rd,rfl⟩,w4⟩
        · exact w2.elim
      · rintro ys H' ⟨B2,θ2,acc,E2,G2,racc,w2⟩
        rw [List.drop_length] at w2
        unfold Zg8 at w2
        split at w2
        · rename_i e2
          exact ⟨(Zjx G2 (rJ.ext E2.toExtS) e2.1).2,ZfD G2 racc w2⟩
        · exact w2.elim
    · exact w1.elim
  · exact w1.elim
theorem ZtV {x:Str} {px pos:Pos} {iter elt:Expr} {scope:Scope} {N':List Str} {src:List Nat} {sc:Scope} {N:List Str} {fi:IM} {fe:EM} (S:ZaW scope sc x N N' src) (hsc:X.env.scope=sc) (hN:X.N=N) (hi:MI X (.Name x px) iter fi)
    (helt:∀(cl:List (Str×Addr)) (C:Addr) (s₀:Shared) (H₀:Hp) (fp:List Addr),ME (X.comp scope N' cl C s₀ H₀ fp) elt fe) (hcm:X.calm=true:=by rfl) (hs:∀v,foldedSetIterable iter X.env v=pure v:=by intro _; rfl) :
    ME X (.ListComp elt [⟨.Name x px,iter,[],0⟩] scope pos) (mComp fi src fe):=
  PE.imp (ZwK (te:=tM X fe) S hsc hN hi (fun cl C s₀ H₀ fp=>helt cl C s₀ H₀ fp) hcm hs) Znd
inductive Fl where
  | nx | rt (d:D) | bk | ct
abbrev SM:=List Sl→Sto→R (Fl×List Sl)
def Zt0 (Dn:Zfq) (B:Bx) (σ:St) (H:Hp):Fl→Prop
  | .nx=>Dn.nx σ H
  | .bk=>Dn.bk σ H
  | .ct=>Dn.ct σ H
  | .rt d=>∀v,RepV B H d v→Dn.rt v H
def wpS (X:Cx) (σ:St) (B:Bx) (H:Hp) (r:R (Fl×List Sl)) (Dn:Zfq):Prop:=match r with
  | .ok (fl,ρ') θ'=>∀B' H' σ',ExtS B B' H H'→Frm X.cl B' θ' ρ' σ' H'→Zt0 Dn B' σ' H' fl
  | .ex c θ'=>XE X σ B H c θ'
  | .bad=>False
def tMS (X:Cx) (f:SM):TS:=fun Dn σ H=>∃B θ ρ,Frm X.cl B θ ρ σ H∧wpS X σ B H (f ρ θ) Dn
def MS (X:Cx) (st:Stmt) (f:SM):Prop:=PS X st (tMS X f)
def MSs (X:Cx) (sts:List Stmt) (f:SM):Prop:=PSs X sts (tMS X f)
theorem PS.imp {st:Stmt} {t t':TS} (h:PS X st t) (hi:∀D σ H,t' D σ H→t D σ H):PS X st t':=fun pins s σ H D I q=>h pins s σ H D I (hi D σ H q)
theorem PSs.imp {st:List Stmt} {t t':TS} (h:PSs X st t) (hi:∀D σ H,t' D σ H→t D σ H):PSs X st t':=fun pins s σ H D I q=>h pins s σ H D I (hi D σ H q)
theorem wpS.trans {σ σ':St} {B B':Bx} {H H':Hp} {r:R (Fl×List Sl)} {Dn:Zfq} (h:wpS X σ B H r Dn) (E:ExtS B B' H H'):wpS X σ' B' H' r Dn:=by
  cases r with
  | ok a θ'=>exact fun B2 H2 σ2 e g=>h B2 H2 σ2 (E.trans e) g
  | ex c θ'=>exact h
  | bad=>exact h
theorem wpS.bind {α β:Type} {Rel:Bx→Hp→α→β→Prop} {σ:St} {B:Bx} {H:Hp} {r:R α} {k:α→Sto→R (Fl×List Sl)} {Dn:Zfq} (h:wpS X σ B H (r.bind k) Dn) :
    wpR X σ Rel B H r (fun b H1=>∃B1 θ1 a,ExtE B B1 H H1∧Good X.cl B1 θ1 H1∧Rel B1 H1 a b∧wpS X σ B1 H1 (k a θ1) Dn):=by
  cases r with
  | ok a θ'=>exact fun B1 H1 b E g q=>⟨B1,θ',a,E,g,q,wpS.trans h E.toExtS⟩
  | ex c θ'=>exact h
  | bad=>exact h
theorem ZhN {σ:St} {H:Hp} {B:Bx} {θ:Sto} {ρ:List Sl} {f:EM} {k:D→Sto→R (Fl×List Sl)} {Dn:Zfq} (F:Frm X.cl B θ ρ σ H) (h:wpS X σ B H ((f ρ θ).bind k) Dn) :
    tM X f σ H (fun v H1=>∃B1 θ1 d,ExtE B B1 H H1∧Frm X.cl B1 θ1 ρ σ H1∧RepV B1 H1 d v∧wpS X σ B1 H1 (k d θ1) Dn):=
  ⟨B,θ,ρ,F,(wpS.bind (Rel:=RepV) h).mono fun v H1 ⟨B1,θ1,d,E,G,r,w⟩=>⟨B1,θ1,d,E,F.ext E G,r,w⟩⟩
theorem Zqt {σ:St} {H:Hp} {B:Bx} {θ:Sto} {ρ:List Sl} {f:TMr} {k:Bool→Sto→R (Fl×List Sl)} {Dn:Zfq} (F:Frm X.cl B θ ρ σ H) (h:wpS X σ B H ((f ρ θ).bind k) Dn) :
    tMT X f σ H (fun c H1=>∃B1 θ1,ExtE B B1 H H1∧Frm X.cl B1 θ1 ρ σ H1∧wpS X σ B1 H1 (k c θ1) Dn):=
  ⟨B,θ,ρ,F,(wpS.bind (Rel:=EqB) h).mono fun v H1 ⟨B1,θ1,d,E,G,r,w⟩=>by cases (show d=v from r); exact ⟨B1,θ1,E,F.ext E G,w⟩⟩
theorem Zd4 {σ:St} {B:Bx} {H:Hp} {θ:Sto} {ρ:List Sl} {fl:Fl} {Dn:Zfq} (F:Frm X.cl B θ ρ σ H) (h:wpS X σ B H (.ok (fl,ρ) θ) Dn):Zt0 Dn B σ H fl:=h B H σ (ExtS.refl B H) F
def ZM:SM:=fun ρ θ=>.ok (.nx,ρ) θ
def ZhK (r:R (Fl×List Sl)) (k:SM):R (Fl×List Sl):=r.bind fun p θ=>match p with
  | (.nx,ρ)=>k ρ θ
  | p=>.ok p θ
def Zs (f g:SM):SM:=fun ρ θ=>ZhK (f ρ θ) g
theorem ZA:MSs X [] ZM:=PSs.imp ZsB fun D σ H h=>by
  obtain ⟨B,θ,ρ,F,w⟩:=h
  exact Zd4 F w
theorem wpS.seq {σ:St} {B:Bx} {H:Hp} {r:R (Fl×List Sl)} {g:SM} {Dn:Zfq} (w:wpS X σ B H (ZhK r g) Dn):wpS X σ B H r { Dn with nx:=tMS X g Dn }:=by
  cases r with
  | ex c θ'=>exact w
  | bad=>exact w
  | ok p θ'=>
    obtain ⟨fl,ρ'⟩:=p
    intro B' H' σ' E F
    cases fl with
    | nx=>exact ⟨B',θ',ρ',F,wpS.trans w E⟩
    | bk=>exact w B' H' σ' E F
    | ct=>exact w B' H' σ' E F
    | rt d=>exact w B' H' σ' E F
theorem Ze {st:Stmt} {rest:List Stmt} {f g:SM} (h1:MS X st f) (h2:MSs X rest g):MSs X (st::rest) (Zs f g):=PSs.imp (ZqD h1 h2) fun D σ H h=>by
  obtain ⟨B,θ,ρ,F,w⟩:=h
  exact ⟨B,θ,ρ,F,wpS.seq w⟩
theorem Zi {st:Stmt} {f:SM} (h1:MS X st f):MSs X [st] f:=ZsA h1
def Zs2:SM:=fun _ _=>.bad
theorem Zrb {st:Stmt}:MS X st Zs2:=fun _ _ _ _ _ _ h=>by obtain ⟨_,_,_,_,w⟩:=h; exact w.elim
def zG (f:EM):SM:=fun ρ θ=>(f ρ θ).bind fun _ θ=>.ok (.nx,ρ) θ
theorem ZW {e:Expr} {f:EM} {pos:Pos} (he:ME X e f) (hs:swapsWith e none pos.line X.env=pure false:=by rfl):MS X (.Expr e pos) (zG f):=PS.imp (Znm he hs) fun D σ H h=>by
  obtain ⟨B,θ,ρ,F,w⟩:=h
  refine Z4 (ZhN F w) ?_
  rintro v H1 ⟨B1,θ1,d,E1,F1,rd,w1⟩
  exact Zd4 F1 w1
def ZL (f:EM):SM:=fun ρ θ=>(f ρ θ).bind fun d θ=>.ok (.rt d,ρ) θ
theorem Zu {e:Expr} {f:EM} {pos:Pos} (he:ME X e f):MS X (.Return (some e) pos) (ZL f):=PS.imp (ZuK he) fun D σ H h=>by
  obtain ⟨B,θ,ρ,F,w⟩:=h
  refine Z4 (ZhN F w) ?_
  rintro v H1 ⟨B1,θ1,d,E1,F1,rd,w1⟩
  exact Zd4 F1 w1 v rd
def Zf8:SM:=fun ρ θ=>.ok (.rt .non,ρ) θ
theorem Zec {pos:Pos}:MS X (.Return none pos) Zf8:=PS.imp ZsC fun D σ H h=>by
  obtain ⟨B,θ,ρ,F,w⟩:=h
  exact Zd4 F w .non rfl
def mIf (t:TMr) (f g:SM):SM:=fun ρ θ=>(t ρ θ).bind fun k θ=>if k=true then f ρ θ else g ρ θ
theorem ZJ {c:Expr} {a b:List Stmt} {t:TMr} {f g:SM} {pos:Pos} (hc:MT X c t) (ha:MSs X a f) (hb:MSs X b g):MS X (.If c a b pos) (mIf t f g):=PS.imp (ZwE hc ha hb) fun D σ H h=>by
  obtain ⟨B,θ,ρ,F,w⟩:=h
  refine ZdP (Zqt F w) ?_
  rintro k H1 ⟨B1,θ1,E1,F1,w1⟩
  cases k with
  | true=>rw [if_pos rfl] at w1 ⊢; exact ⟨B1,θ1,ρ,F1,w1⟩
  | false=>rw [if_neg Bool.false_ne_true] at w1 ⊢; exact ⟨B1,θ1,ρ,F1,w1⟩
theorem Frm.set {B:Bx} {θ:Sto} {ρ:List Sl} {σ:St} {H:Hp} (F:Frm X.cl B θ ρ σ H) (i:Nat) {d:D} {v:V} (r:RepV B H d v):Frm X.cl B θ (ρ.set i (.val d)) (σ.set i (some v)) H:=by
  have oth:∀(j:Nat) (s:Sl),(ρ.set i (Sl.val d))[j]?=some s→(j=i∧s=.val d∧j < σ.length)∨(j≠i∧ρ[j]?=some s):=fun j s e=>by
    by_cases q:j=i
    · subst q
      have hl:j < ρ.length:=by
        have:=(List.getElem?_eq_some_iff.mp e).1
        simpa using this
      rw [List.getElem?_set_self hl] at e
      cases e
      exact .inl ⟨rfl,rfl,by rw [←F.len]; exact hl⟩
    · rw [List.getElem?_set_ne (Ne.symm q)] at e
      exact .inr ⟨q,e⟩
  refine ⟨F.good,by simp [F.len],fun j e h=>?_,fun j xs h=>?_,fun j k xs ys a hne h1 h2 h3=>?_⟩
  · rcases oth j _ h with ⟨rfl,z,hl⟩ | ⟨q,z⟩
    · cases z; exact ⟨v,by rw [List.getElem?_set_self hl],r⟩
    · rw [List.getElem?_set_ne (Ne.symm q)]; exact F.val j e z
  · rcases oth j _ h with ⟨rfl,z,hl⟩ | ⟨q,z⟩
    · cases z
    · rw [List.getElem?_set_ne (Ne.symm q)]; exact F.own j xs z
  · rcases oth j _ h1 with ⟨_,z,_⟩ | ⟨q1,z1⟩
    · cases z
    · rcases oth k _ h2 with ⟨_,z,_⟩ | ⟨q2,z2⟩
      · cases z
      · rw [List.getElem?_set_ne (Ne.symm q1)] at h3
        rw [List.getElem?_set_ne (Ne.symm q2)]
        exact F.ne j k xs ys a hne z1 z2 h3
def ZX (i:Nat) (f:EM):SM:=fun ρ θ=>(f ρ θ).bind fun d θ=>.ok (.nx,ρ.set i (.val d)) θ
theorem ZG (i:Nat) {x:Str} {e:Expr} {f:EM} {pos pos':Pos} (hN:X.N.Nodup) (he:ME X e f) (hi:X.N[i]?=some x:=by rfl) (hx:Loc X.env.scope x:=by first | exact Or.inl rfl | exact Or.inr rfl)
    (hs:swapsWith e (some (.Name x pos')) pos.line X.env=pure false:=by rfl) (hf:X.fn x=true∨X.env.scope.names.lookup x=some .local:=by first | exact .inl rfl | exact .inr rfl):MS X (.Assign [.Name x pos'] e pos) (ZX i f):=
  PS.imp (ZqF hN hi hx he hs hf) fun D σ H h=>by
  obtain ⟨B,θ,ρ,F,w⟩:=h
  refine Z4 (ZhN F w) ?_
  rintro v H1 ⟨B1,θ1,d,E1,F1,rd,w1⟩
  exact w1 B1 H1 _ (ExtS.refl _ _) (F1.set i rd)
theorem Zh1 (i:Nat) {x y:Str} {px py pos spos:Pos} {iter elt:Expr} {scope:Scope} {N':List Str} {src:List Nat} {sc:Scope} {N:List Str} {fi:IM} {fe:EM} (hnd:X.N.Nodup) (S:ZaW scope sc x N N' src) (hsc:X.env.scope=sc) (hN:X.N=N) (hi:MI X (.Name x px) iter fi)
    (helt:∀(cl:List (Str×Addr)) (C:Addr) (s₀:Shared) (H₀:Hp) (fp:List Addr),ME (X.comp scope N' cl C s₀ H₀ fp) elt fe) (hi':X.N[i]?=some y:=by rfl)
    (hsw:swapsWith (.ListComp elt [⟨.Name x px,iter,[],0⟩] scope pos) (some (.Name y py)) spos.line X.env=pure true:=by rfl)
    (hy:X.env.scope.names.lookup y=some .local:=by rfl) (hcm:X.calm=true:=by rfl) (hs:∀v,foldedSetIterable iter X.env v=pure v:=by intro _; rfl) :
    MS X (.Assign [.Name y py] (.ListComp elt [⟨.Name x px,iter,[],0⟩] scope pos) spos) (ZX i (mComp fi src fe)):=
  PS.imp (ZwD (te:=tM X fe) hnd hi' S hsc hN hi (fun cl C s₀ H₀ fp=>helt cl C s₀ H₀ fp) hsw hy hcm hs) fun D σ H h=>by
  obtain ⟨B,θ,ρ,F,w⟩:=h
  refine Znd σ H _ (Z4 (ZhN F w) ?_)
  rintro v H1 ⟨B1,θ1,d,E1,F1,rd,w1⟩
  exact w1 B1 H1 _ (ExtS.refl _ _) (F1.set i rd)
end
end
end L2.MM
namespace L2.MM
open PySem PySem.Spec PyProof.Rows PySem.SeqAt
noncomputable section
variable {X:Cx}
def Zfu (k:SM):Fl×List Sl→Sto→R (Fl×List Sl)
  | (.nx,ρ),θ=>k ρ θ
  | (.ct,ρ),θ=>k ρ θ
  | (.bk,ρ),θ=>.ok (.nx,ρ) θ
  | (.rt d,ρ),θ=>.ok (.rt d,ρ) θ
theorem wpS.loop {σ:St} {B:Bx} {H:Hp} {r:R (Fl×List Sl)} {k:SM} {Dn:Zfq} (w:wpS X σ B H (r.bind (Zfu k)) Dn) :
    wpS X σ B H r { Dn with nx:=fun σ' H'=>∃B' θ' ρ',ExtS B B' H H'∧Frm X.cl B' θ' ρ' σ' H'∧wpS X σ' B' H' (k ρ' θ') Dn,ct:=fun σ' H'=>∃B' θ' ρ',ExtS B B' H H'∧Frm X.cl B' θ' ρ' σ' H'∧wpS X σ' B' H' (k ρ' θ') Dn,bk:=Dn.nx }:=by
  cases r with
  | ex c θ'=>exact w
  | bad=>exact w
  | ok p θ'=>
    obtain ⟨fl,ρ'⟩:=p
    intro B' H' σ' E F
    cases fl with
    | nx=>exact ⟨B',θ',ρ',E,F,wpS.trans w E⟩
    | ct=>exact ⟨B',θ',ρ',E,F,wpS.trans w E⟩
    | bk=>exact w B' H' σ' E F
    | rt d=>exact w B' H' σ' E F
abbrev TgM:=D→List Sl→Option (List Sl)
def tMG (X:Cx) (g:TgM):TG:=fun v σ H Q=>∃B θ ρ d ρ',Frm X.cl B θ ρ σ H∧RepV B H d v∧g d ρ=some ρ'∧∀σ',Frm X.cl B θ ρ' σ' H→Q σ' H
def MG (X:Cx) (tg:Expr) (g:TgM):Prop:=PG X tg (tMG X g)
theorem PG.imp {tg:Expr} {t t':TG} (h:PG X tg t) (hi:∀v σ H Q,t' v σ H Q→t v σ H Q):PG X tg t':=fun pins s σ H v u Q I r q=>h pins s σ H v u Q I r (hi v σ H Q q)
def gNm (i:Nat):TgM:=fun d ρ=>some (ρ.set i (.val d))
theorem Zf5 (i:Nat) {x:Str} {pos:Pos} (hN:X.N.Nodup) (hi:X.N[i]?=some x:=by rfl) (hx:Loc X.env.scope x:=by first | exact Or.inl rfl | exact Or.inr rfl) (hf:X.fn x=true∨X.env.scope.names.lookup x=some .local:=by first | exact .inl rfl | exact .inr rfl):MG X (.Name x pos) (gNm i):=
  PG.imp (ZfW hN hi hx hf) fun v σ H Q h=>by
  obtain ⟨B,θ,ρ,d,ρ',F,r,e,q⟩:=h
  cases e
  exact q _ (F.set i r)
open Classical in
def ZcP (S:Src) (all:List D) (tg:TgM) (body:SM):List D→SM
  | []=>fun ρ θ=>if S.items θ=some all then .ok (.nx,ρ) θ else .bad
  | x::r=>fun ρ θ=>if S.items θ=some all then (match tg x ρ with
    | none=>.bad
    | some ρ1=>(body ρ1 θ).bind (Zfu (ZcP S all tg body r))) else .bad
def ZeA (fi:IM) (tg:TgM) (body:SM):SM:=fun ρ θ=>(fi ρ θ).bind fun S θ=>match S.items θ with
  | some xs=>ZcP S xs tg body xs ρ θ
  | none=>.bad
open Classical in
theorem Zh2 {tg iter:Expr} {body:List Stmt} {fi:IM} {g:TgM} {fb:SM} {pos:Pos} (hp:PassesOwn (model X.prog X.w) X.A X.env X.xe) (hi:MI X tg iter fi) (hg:MG X tg g) (hb:MSs X body fb) (hc:X.calm=true:=by rfl)
    (hs:∀x,foldedSetIterable iter X.env x=pure x:=by intro _; rfl):MS X (.For tg iter body [] pos) (ZeA fi g fb):=
  PS.imp (ZqG hp hc hi hg hb hs) fun Dn σ H h=>by
  obtain ⟨B,θ,ρ,F,w⟩:=h
  refine ⟨B,θ,ρ,F,(wpS.bind (Rel:=SrcRep X.K) w).mono ?_⟩
  rintro J H1 ⟨B1,θ1,S,E1,G1,rJ,w1⟩
  split at w1
  · rename_i xs e1
    refine ⟨fun i m σ H=>∃B θ ρ,Frm X.cl B θ ρ σ H∧SrcRep X.K B H S J∧m=xs.length-i∧i≤xs.length∧wpS X σ B H (ZcP S xs g fb (xs.drop i) ρ θ) Dn,⟨xs.length,B1,θ1,ρ,F.ext E1 G1,rJ,rfl,Nat.zero_le _,w1⟩,?_⟩
    rintro i m σ2 H2 ⟨B2,θ2,ρ2,F2,rJ2,rfl,hi2,w2⟩
    by_cases hlt:i<xs.length
    · rw [List.drop_eq_getElem_cons hlt] at w2
      unfold ZcP at w2
      split at w2
      · rename_i e2
        obtain ⟨g1,g2⟩:=(Zjx F2.good rJ2 e2).1 i xs[i] (List.getElem?_eq_getElem hlt)
        split at w2
        · exact w2.elim
        · rename_i ρ3 e3
          refine .inr ⟨g1,fun σ' H'=>∃B' θ' ρ',ExtS B2 B' H2 H'∧Frm X.cl B' θ' ρ' σ' H'∧wpS X σ' B' H' (ZcP S xs g fb (xs.drop (i+1)) ρ' θ') Dn,?_,fun x H' hy=>?_⟩
          · rintro σ' H' ⟨B',θ',ρ',E',F',w'⟩
            exact ⟨xs.length-(i+1),by omega,B',θ',ρ',F',rJ2.ext E',rfl,hlt,w'⟩
          · obtain ⟨rfl,rx⟩:=g2 x H' hy
            refine ⟨B2,θ2,ρ2,xs[i],ρ3,F2,rx,e3,fun σ' F'=>⟨B2,θ2,ρ3,F',?_⟩⟩
            have w3:=wpS.loop w2
            exact wpS.trans w3 (ExtS.refl _ _)
      · exact w2.elim
    · have e:i=xs.length:=by omega
      subst e
      rw [List.drop_length] at w2
      unfold ZcP at w2
      split at w2
      · rename_i e2
        exact .inl ⟨(Zjx F2.good rJ2 e2).2,Zd4 F2 w2⟩
      · exact w2.elim
  · exact w1.elim
def ZcJ (t:TMr) (body:SM):Nat→SM
  | 0=>Zs2
  | n+1=>fun ρ θ=>(t ρ θ).bind fun k θ=>if k=true then (body ρ θ).bind (Zfu (ZcJ t body n)) else .ok (.nx,ρ) θ
theorem Zh0 (n:Nat) {c:Expr} {body:List Stmt} {t:TMr} {fb:SM} {pos:Pos} (hp:PassesOwn (model X.prog X.w) X.A X.env X.xe) (hc:MT X c t) (hb:MSs X body fb):MS X (.While c body [] pos) (ZcJ t fb n):=
  PS.imp (ZqE hp hc hb) fun Dn σ H h=>by
  obtain ⟨B,θ,ρ,F,w⟩:=h
  refine ⟨fun m σ H=>∃B θ ρ,Frm X.cl B θ ρ σ H∧wpS X σ B H (ZcJ t fb m ρ θ) Dn,⟨n,B,θ,ρ,F,w⟩,?_⟩
  rintro m σ2 H2 ⟨B2,θ2,ρ2,F2,w2⟩
  cases m with
  | zero=>exact w2.elim
  | succ m=>
    refine ZdP (Zqt F2 w2) ?_
    rintro k H3 ⟨B3,θ3,E3,F3,w3⟩
    cases k with
    | true=>
      rw [if_pos rfl] at w3 ⊢
      refine ⟨_,?_,⟨B3,θ3,ρ2,F3,wpS.loop w3⟩⟩
      rintro σ' H' ⟨B',θ',ρ',E',F',w'⟩
      exact ⟨m,Nat.lt_succ_self _,B',θ',ρ',F',w'⟩
    | false=>
      rw [if_neg Bool.false_ne_true] at w3 ⊢
      exact Zd4 F3 w3
theorem Frm.setOwn {cl:Mo} {B:Bx} {θ:Sto} {ρ:List Sl} {σ:St} {H:Hp} (F:Frm cl B θ ρ σ H) (i:Nat) {p:Addr} (hp:H p=none) {xs:List D} {vs:List V} (r:RepL B H xs vs) :
    ExtS B { B with os:=p::B.os } H (upd H p (.lst vs))∧Frm cl { B with os:=p::B.os } θ (ρ.set i (.own xs)) (σ.set i (some (.ref p))) (upd H p (.lst vs)):=by
  have E0:=Zb5 F.good hp (.lst vs)
  have G0:=Zdh F.good hp (.lst vs)
  have ok:=F.good.okNone hp
  have E:ExtS B { B with os:=p::B.os } H (upd H p (.lst vs)):=⟨E0.n,E0.m,E0.fr,E0.keep,E0.sm,fun a h=>by
    rcases List.mem_cons.mp h with rfl | h
    · exact .inr hp
    · exact .inl h,rfl,rfl⟩
  refine ⟨E,?_⟩
  have E1:ExtS B { B with os:=p::B.os } H (upd H p (.lst vs)):=E
  have G:Good cl { B with os:=p::B.os } θ (upd H p (.lst vs)):=⟨G0.len,G0.inj,fun j c e=>(F.good.cel j c e).ext E fun u q=>by rw [ZS (zm q hp)]; exact q,fun j hj=>⟨(G0.cF j hj).1,fun z=>by
      rcases List.mem_cons.mp z with z | z
      · exact ok.1 j hj z
      · exact (G0.cF j hj).2 z⟩,G0.Fs,fun a z=>by
      rcases List.mem_cons.mp z with rfl | z
      · rw [zi]; simp
      · exact G0.oS a z,fun a z=>by
      rcases List.mem_cons.mp z with rfl | z
      · exact ok.2.1
      · exact G0.oF a z,G0.kc⟩
  have oth:∀(j:Nat) (s:Sl),(ρ.set i (Sl.own xs))[j]?=some s→(j=i∧s=.own xs∧j < σ.length)∨(j≠i∧ρ[j]?=some s):=fun j s e=>by
    by_cases q:j=i
    · subst q
      have hl:j < ρ.length:=by
        have:=(List.getElem?_eq_some_iff.mp e).1
        simpa using this
      rw [List.getElem?_set_self hl] at e
      cases e
      exact .inl ⟨rfl,rfl,by rw [←F.len]; exact hl⟩
    · rw [List.getElem?_set_ne (Ne.symm q)] at e
      exact .inr ⟨q,e⟩
  have old:∀j ys,ρ[j]?=some (Sl.own ys)→∀a,σ[j]?=some (some (V.ref a))→a≠p:=fun j ys h a e z=>by
    obtain ⟨a',us,q1,q2,q3,q4⟩:=F.own j ys h
    rw [e] at q1
    cases q1
    rw [z,hp] at q3
    cases q3
  refine ⟨G,by simp [F.len],fun j d h=>?_,fun j ys h=>?_,fun j k ys zs a hne h1 h2 h3=>?_⟩
  · rcases oth j _ h with ⟨_,z,_⟩ | ⟨q,z⟩
    · cases z
    · rw [List.getElem?_set_ne (Ne.symm q)]
      obtain ⟨v,q1,q2⟩:=F.val j d z
      exact ⟨v,q1,q2.ext E⟩
  · rcases oth j _ h with ⟨rfl,z,hl⟩ | ⟨q,z⟩
    · cases z
      exact ⟨p,vs,by rw [List.getElem?_set_self hl],List.mem_cons_self,zi,r.ext E⟩
    · rw [List.getElem?_set_ne (Ne.symm q)]
      obtain ⟨a,us,q1,q2,q3,q4⟩:=F.own j ys z
      exact ⟨a,us,q1,List.mem_cons_of_mem _ q2,by rw [ZS (zm q3 hp)]; exact q3,q4.ext E⟩
  · rcases oth j _ h1 with ⟨rfl,z1,hl⟩ | ⟨q1,z1⟩
    · rcases oth k _ h2 with ⟨rfl,z2,_⟩ | ⟨q2,z2⟩
      · exact absurd rfl hne
      · rw [List.getElem?_set_self hl] at h3
        cases h3
        rw [List.getElem?_set_ne (Ne.symm q2)]
        exact fun z=>old k zs z2 _ z rfl
    · rw [List.getElem?_set_ne (Ne.symm q1)] at h3
      rcases oth k _ h2 with ⟨rfl,z2,hl⟩ | ⟨q2,z2⟩
      · rw [List.getElem?_set_self hl]
        intro z
        cases z
        exact old j ys z1 _ h3 rfl
      · rw [List.getElem?_set_ne (Ne.symm q2)]
        exact F.ne j k ys zs a hne z1 z2 h3
def Zhy (i:Nat) (f:AM):SM:=fun ρ θ=>(f ρ θ).bind fun xs θ=>if xs.length≤BIG then .ok (.nx,ρ.set i (.own xs)) θ else .bad
theorem Zqu {σ:St} {H:Hp} {B:Bx} {θ:Sto} {ρ:List Sl} {f:AM} {k:List D→Sto→R (Fl×List Sl)} {Dn:Zfq} (F:Frm X.cl B θ ρ σ H) (h:wpS X σ B H ((f ρ θ).bind k) Dn) :
    tMA X f σ H (fun v H1=>∃B1 θ1 d,ExtE B B1 H H1∧Frm X.cl B1 θ1 ρ σ H1∧RepL B1 H1 d v∧wpS X σ B1 H1 (k d θ1) Dn):=
  ⟨B,θ,ρ,F,(wpS.bind (Rel:=RepL) h).mono fun v H1 ⟨B1,θ1,d,E,G,r,w⟩=>⟨B1,θ1,d,E,F.ext E G,r,w⟩⟩
theorem Zi0 (i:Nat) {x:Str} {es:List Expr} {f:AM} {pos pos' lpos:Pos} (hN:X.N.Nodup) (he:MA X es f) (hi:X.N[i]?=some x:=by rfl) (hx:Loc X.env.scope x:=by first | exact Or.inl rfl | exact Or.inr rfl)
    (hs:swapsWith (.List es lpos) (some (.Name x pos')) pos.line X.env=pure false:=by rfl) (hf:X.fn x=true∨X.env.scope.names.lookup x=some .local:=by first | exact .inl rfl | exact .inr rfl):MS X (.Assign [.Name x pos'] (.List es lpos) pos) (Zhy i f):=
  PS.imp (ZqF hN hi hx (ZqO he) hs hf) fun D σ H h=>by
  obtain ⟨B,θ,ρ,F,w⟩:=h
  refine ZbU (Zqu F w) ?_
  rintro vs H1 ⟨B1,θ1,xs,E1,F1,rd,w1⟩
  split at w1
  · rename_i hz
    refine ⟨by rw [rd.len]; exact Zav hz,fun p hp=>?_⟩
    obtain ⟨E2,F2⟩:=F1.setOwn i hp rd
    exact w1 _ _ _ E2 F2
  · exact w1.elim
theorem Frm.updOwn {cl:Mo} {B:Bx} {θ:Sto} {ρ:List Sl} {σ:St} {H:Hp} (F:Frm cl B θ ρ σ H) {i:Nat} {xs ys:List D} {us:List V} {a:Addr} (h:ρ[i]?=some (Sl.own xs)) (ha:σ[i]?=some (some (.ref a))) (r:RepL B H ys us) :
    ExtS B B H (upd H a (.lst us))∧Frm cl B θ (ρ.set i (.own ys)) σ (upd H a (.lst us)):=by
  obtain ⟨a',vs,q1,q2,q3,q4⟩:=F.own i xs h
  rw [ha] at q1
  cases q1
  have hc:∀j,j<B.n→B.m j≠a:=fun j hj z=>(F.good.cF j hj).2 (by rw [z]; exact q2)
  have E:ExtS B B H (upd H a (.lst us)):=⟨Nat.le_refl _,fun _ _=>rfl,fun i h h'=>absurd h' (Nat.not_lt.mpr h),fun b o e _ hb=>by rw [ZS (fun z=>hb (by rw [z]; exact q2))]; exact e,fun b e=>by
    by_cases q:b=a
    · rw [q,zi]; simp
    · rw [ZS q]; exact e,fun _ h=>.inl h,rfl,rfl⟩
  have hl:i < ρ.length:=(List.getElem?_eq_some_iff.mp h).1
  have oth:∀(j:Nat) (s:Sl),(ρ.set i (Sl.own ys))[j]?=some s→(j=i∧s=.own ys)∨(j≠i∧ρ[j]?=some s):=fun j s e=>by
    by_cases q:j=i
    · subst q
      rw [List.getElem?_set_self hl] at e
      cases e
      exact .inl ⟨rfl,rfl⟩
    · rw [List.getElem?_set_ne (Ne.symm q)] at e
      exact .inr ⟨q,e⟩
  refine ⟨E,⟨⟨F.good.len,F.good.inj,fun j c e=>(F.good.cel j c e).ext E fun u q=>by
      have hj:j<B.n:=by rw [←F.good.len]; exact (List.getElem?_eq_some_iff.mp e).1
      rw [ZS (hc j hj)]; exact q,F.good.cF,fun b z=>E.sm b (F.good.Fs b z),fun b z=>E.sm b (F.good.oS b z),F.good.oF,F.good.kc⟩,by simp [F.len],fun j d e=>?_,fun j zs e=>?_,fun j k zs ws b hne h1 h2 h3=>?_⟩⟩
  · rcases oth j _ e with ⟨_,z⟩ | ⟨_,z⟩
    · cases z
    · obtain ⟨v,p1,p2⟩:=F.val j d z
      exact ⟨v,p1,p2.ext E⟩
  · rcases oth j _ e with ⟨rfl,z⟩ | ⟨q,z⟩
    · cases z
      exact ⟨a,us,ha,q2,zi,r.ext E⟩
    · obtain ⟨b,ws,p1,p2,p3,p4⟩:=F.own j zs z
      refine ⟨b,ws,p1,p2,?_,p4.ext E⟩
      rw [ZS (fun z'=>F.ne i j xs zs a (Ne.symm q) h z ha (by rw [←z']; exact p1))]
      exact p3
  · have o1:∃zs',ρ[j]?=some (Sl.own zs'):=by
      rcases oth j _ h1 with ⟨rfl,_⟩ | ⟨_,z⟩
      · exact ⟨xs,h⟩
      · exact ⟨_,z⟩
    have o2:∃ws',ρ[k]?=some (Sl.own ws'):=by
      rcases oth k _ h2 with ⟨rfl,_⟩ | ⟨_,z⟩
      · exact ⟨xs,h⟩
      · exact ⟨_,z⟩
    obtain ⟨zs',o1⟩:=o1
    obtain ⟨ws',o2⟩:=o2
    exact F.ne j k zs' ws' b hne o1 o2 h3
def Zeg (i:Nat) (f:EM):SM:=fun ρ θ=>(f ρ θ).bind fun d θ=>match ρ[i]? with
  | some (Sl.own xs)=>if xs.length<BIG then .ok (.nx,ρ.set i (.own (xs++[d]))) θ else .bad
  | _=>.bad
theorem Zi1 (i:Nat) {x:Str} {e:Expr} {f:EM} {p apos pos pos':Pos} (he:ME X e f) (hN:X.N[i]?=some x:=by rfl) (hv:Vis X.env.scope x:=by first | exact Or.inl rfl | exact Or.inr (Or.inl rfl) | exact Or.inr (Or.inr rfl))
    (hd:(x == ("__debug__":Str))=false:=by decide) (hcd:(x == ("__classdict__":Str))=false:=by decide)
    (hpe:∀{to:TE},PE X (.Name x p) to→PE X (.Call (.Attribute (.Name x p) "append" apos) [e] [] pos) (tBM X.K "list" Znj to (ZtI (tM X f) Zut)))
    (hs:swapsWith (.Call (.Attribute (.Name x p) "append" apos) [e] [] pos) none pos'.line X.env=pure false:=by rfl):MS X (.Expr (.Call (.Attribute (.Name x p) "append" apos) [e] [] pos) pos') (Zeg i f):=
  PS.imp (Znm (hpe (ZqL hN hv hd hcd)) hs) fun D σ H h=>by
  obtain ⟨B,θ,ρ,F,w⟩:=h
  have own:∃xs,ρ[i]?=some (Sl.own xs):=by
    unfold Zeg at w
    cases q:f ρ θ with
    | bad=>rw [q] at w; exact w.elim
    | ex c θ'=>rw [q] at w; exact False.elim w
    | ok d θ'=>
      rw [q] at w
      simp only [R.bind_ok] at w
      split at w
      · rename_i xs e; exact ⟨xs,e⟩
      · exact w.elim
  obtain ⟨xs,hx⟩:=own
  obtain ⟨a,vs,q1,q2,q3,q4⟩:=F.own i xs hx
  refine ⟨.ref a,q1,.inl ⟨rfl,vs,SqL.of q3⟩,?_⟩
  refine Z4 (ZhN F w) ?_
  rintro y H1 ⟨B1,θ1,d,E1,F1,rd,w1⟩
  rw [hx] at w1
  simp only at w1
  split at w1
  · rename_i hz
    obtain ⟨a',us,p1,p2,p3,p4⟩:=F1.own i xs hx
    rw [q1] at p1
    cases p1
    refine ⟨a,us,y,rfl,rfl,p3,by rw [p4.len]; exact Nat.lt_of_lt_of_le hz (Zav (Nat.le_refl _)),?_⟩
    obtain ⟨E2,F2⟩:=F1.updOwn hx q1 (p4.app (show RepL B1 H1 [d] [y] from ⟨y,[],rfl,rd,rfl⟩))
    exact w1 _ _ _ E2 F2
  · exact w1.elim
def Zee (i:Nat) (f:SM):SM:=fun ρ θ=>match ρ[i]? with
  | some (Sl.own xs)=>f (ρ.set i (.val (.lst xs))) θ
  | _=>f ρ θ
theorem Zmz {i:Nat} {f:SM} {D:Zfq} {σ:St} {H:Hp} (h:tMS X (Zee i f) D σ H):tMS X f D σ H:=by
  obtain ⟨B,θ,ρ,F,w⟩:=h
  unfold Zee at w
  split at w
  · rename_i xs hx
    obtain ⟨a,vs,q1,q2,q3,q4⟩:=F.own i xs hx
    let B':Bx:={ B with os:=B.os.filter fun b=>decide (b≠a) }
    have sub:∀b,b∈B'.os→b∈B.os∧b≠a:=fun b hb=>by
      have:=List.mem_filter.mp hb
      exact ⟨this.1,of_decide_eq_true this.2⟩
    have E:ExtS B B' H H:=⟨Nat.le_refl _,fun _ _=>rfl,fun i h h'=>absurd h' (Nat.not_lt.mpr h),fun _ _ e _ _=>e,fun _ e=>e,fun b hb=>.inl (sub b hb).1,rfl,rfl⟩
    have hc:∀j,j<B.n→B.m j≠a:=fun j hj z=>(F.good.cF j hj).2 (by rw [z]; exact q2)
    have G:Good X.cl B' θ H:=⟨F.good.len,F.good.inj,fun j c e=>(F.good.cel j c e).ext E fun _ q=>q,fun j hj=>⟨(F.good.cF j hj).1,fun z=>(F.good.cF j hj).2 (sub _ z).1⟩,F.good.Fs,fun b z=>F.good.oS b (sub b z).1,fun b z=>F.good.oF b (sub b z).1,F.good.kc⟩
    have rv:RepV B' H (.lst xs) (.ref a):=⟨a,vs,rfl,q3,⟨hc,F.good.oF a q2,fun z=>(sub a z).2 rfl⟩,q4.ext E⟩
    have hl:i < ρ.length:=(List.getElem?_eq_some_iff.mp hx).1
    have oth:∀(j:Nat) (s:Sl),(ρ.set i (Sl.val (.lst xs)))[j]?=some s→(j=i∧s=.val (.lst xs))∨(j≠i∧ρ[j]?=some s):=fun j s e=>by
      by_cases q:j=i
      · subst q
        rw [List.getElem?_set_self hl] at e
        cases e
        exact .inl ⟨rfl,rfl⟩
      · rw [List.getElem?_set_ne (Ne.symm q)] at e
        exact .inr ⟨q,e⟩
    refine ⟨B',θ,_,⟨G,by simp [F.len],fun j d e=>?_,fun j ys e=>?_,fun j k ys zs b hne h1 h2 h3=>?_⟩,wpS.trans w E⟩
    · rcases oth j _ e with ⟨rfl,z⟩ | ⟨_,z⟩
      · cases z; exact ⟨_,q1,rv⟩
      · obtain ⟨v,p1,p2⟩:=F.val j d z
        exact ⟨v,p1,p2.ext E⟩
    · rcases oth j _ e with ⟨_,z⟩ | ⟨q,z⟩
      · cases z
      · obtain ⟨b,ws,p1,p2,p3,p4⟩:=F.own j ys z
        refine ⟨b,ws,p1,List.mem_filter.mpr ⟨p2,decide_eq_true fun z'=>?_⟩,p3,p4.ext E⟩
        subst z'
        exact F.ne i j xs ys b (Ne.symm q) hx z q1 p1
    · rcases oth j _ h1 with ⟨_,z⟩ | ⟨_,z1⟩
      · cases z
      · rcases oth k _ h2 with ⟨_,z⟩ | ⟨_,z2⟩
        · cases z
        · exact F.ne j k ys zs b hne z1 z2 h3
  · exact ⟨B,θ,ρ,F,w⟩
theorem ZgG (i:Nat) {st:Stmt} {f:SM} (h:MS X st f):MS X st (Zee i f):=PS.imp h fun _ _ _ q=>Zmz q
def Zd5 (n:Nat) (ds:List D):List Sl:=ds.map Sl.val++List.replicate (n-ds.length) Sl.no
def ZO (np nn:Nat) (fb:SM):GM:=fun ds θ=>if ds.length=np then (fb (Zd5 nn ds) θ).bind fun p θ=>match p.1 with
  | .nx=>.ok .non θ
  | .rt d=>.ok d θ
  | _=>.bad
  else .bad
def spM (X:Mo) (f:GM):Sp:=fun vs H Q E=>∃B θ ds,B.os=[]∧Good X B θ H∧RepL B H ds vs∧(match f ds θ with
  | .ok d θ'=>∀B' H' v,ExtE B B' H H'→Good X B' θ' H'→RepV B' H' d v→Q v H'
  | .ex c θ'=>False
  | .bad=>False)
def Zo (P:Program) (w:World) (K:PySem.W.Frag) (mg:Str→Option Value) (base:Heap) (k:Nat) (x:Str) (f:GM):Prop:=∃ps,Def P w K mg base k x ps (spM ⟨z9 mg,K⟩ f)
theorem Zoa {cl:Mo} {B:Bx} {θ:Sto} {H:Hp} {ds:List D} {vs:List V} {N:List Str} {nn:Nat} (G:Good cl B θ H) (r:RepL B H ds vs) (hn:N.length=nn):Frm cl B θ (Zd5 nn ds) (start N vs) H:=by
  subst hn
  have hl:=r.len
  have key:∀(i:Nat) (s:Sl),(Zd5 N.length ds)[i]?=some s→s=.no∨∃d,s=.val d∧∃v,(start N vs)[i]?=some (some v)∧RepV B H d v:=fun i s e=>by
    unfold Zd5 at e
    by_cases q:i<ds.length
    · rw [List.getElem?_append_left (by simpa using q),List.getElem?_map,List.getElem?_eq_getElem q] at e
      cases e
      obtain ⟨v,h1,h2⟩:=r.get (List.getElem?_eq_getElem q)
      refine .inr ⟨_,rfl,v,?_,h2⟩
      unfold start
      rw [List.getElem?_append_left (by simpa [hl] using q),List.getElem?_map,h1]
      rfl
    · rw [List.getElem?_append_right (by simpa using q)] at e
      exact .inl (List.eq_of_mem_replicate (List.mem_of_getElem? e))
  refine ⟨G,by simp [Zd5,start,hl],fun i d e=>?_,fun i xs e=>?_,fun i j xs ys a _ e _=>?_⟩
  · rcases key i _ e with z | ⟨d',z,v',h1,h2⟩
    · cases z
    · cases z; exact ⟨v',h1,h2⟩
  · rcases key i _ e with z | ⟨d',z,_⟩<;>cases z
  · rcases key i _ e with z | ⟨d',z,_⟩<;>cases z
theorem mfn {P:Program} {w:World} {K:PySem.W.Frag} {mg:Str→Option Value} {base:Heap} {x qual:Str} {st:Stmt} {N ps:List Str} {k:Nat} {fb:SM} {f:Addr} {fd:FuncData} (F:Fun K x qual st f fd) (S:Zq N ps (Zg st)) (np nn:Nat) (hp:ps.length=np) (hn:N.length=nn)
    (hbody:∀(cdv:Value) (A:Around) (outer:List Env) (s:Shared) (H:Hp) (E:XK),Room k (A.deeper (envOfC qual (Zg st) s.heap.objs.size f cdv))→MSs (Zig CX0 P w K mg base N qual (Zg st) f cdv A outer s H E).nox (Zn st) fb) :
    FnOk P w K mg base CX0 (k+1) f fd ps (spM ⟨z9 mg,K⟩ (ZO np nn fb)):=by
  refine F.ok S ?_ ?_
  · rintro vs H Q E ⟨B,θ,ds,_,_,r,q⟩
    unfold ZO at q
    split at q
    · rename_i h
      split at h
      · rename_i hl; rw [r.len,hl,hp]
      · cases h
    · exact q.elim
    · exact q.elim
  · intro cdv A outer s H vs Q E hr h
    obtain ⟨B,θ,ds,hos,G,r,q⟩:=h
    refine ⟨tMS (Zig CX0 P w K mg base N qual (Zg st) f cdv A outer s H E).nox fb,hbody cdv A outer s H E hr,B,θ,Zd5 nn ds,Zoa G r hn,?_⟩
    unfold ZO at q
    by_cases hl:ds.length=np
    · rw [if_pos hl] at q
      cases e:fb (Zd5 nn ds) θ with
      | bad=>rw [e] at q; exact q.elim
      | ex c θ'=>rw [e] at q; exact q.elim
      | ok p θ'=>
        rw [e] at q
        obtain ⟨fl,ρ'⟩:=p
        intro B' H' σ' E' F'
        have hos':∀a,a∈B.os→False:=fun a ha=>by rw [hos] at ha; cases ha
        let B2:Bx:={ B' with os:=[] }
        have E2:ExtE B B2 H H':=⟨⟨E'.n,E'.m,E'.fr,E'.keep,E'.sm,fun a ha=>(nomatch ha),E'.F,E'.ks⟩,hos.symm,fun a o ha=>(hos' a ha).elim⟩
        have E3:ExtS B' B2 H' H':=⟨Nat.le_refl _,fun _ _=>rfl,fun i h h'=>absurd h' (Nat.not_lt.mpr h),fun _ _ e _ _=>e,fun _ e=>e,fun b hb=>(nomatch hb),rfl,rfl⟩
        have G2:Good ⟨z9 mg,K⟩ B2 θ' H':=⟨F'.good.len,F'.good.inj,fun j c e=>(F'.good.cel j c e).ext E3 fun _ q=>q,fun j hj=>⟨(F'.good.cF j hj).1,fun z=>nomatch z⟩,F'.good.Fs,fun b z=>(nomatch z),fun b z=>(nomatch z),F'.good.kc⟩
        cases fl with
        | nx=>exact q B2 H' .non E2 G2 rfl
        | rt d=>exact fun v rv=>q B2 H' v E2 G2 (rv.ext E3)
        | bk=>exact q.elim
        | ct=>exact q.elim
    · rw [if_neg hl] at q
      exact q.elim
theorem ZV {P:Program} {w:World} {K:PySem.W.Frag} {mg:Str→Option Value} {base:Heap} {x:Str} {st:Stmt} {N ps:List Str} {k:Nat} {fb:SM} (D0:Zl K mg x st ps) (S:Zq N ps (Zg st)) (np nn:Nat) (hp:ps.length=np) (hn:N.length=nn)
    (hbody:∀(f:Addr) (cdv:Value) (A:Around) (outer:List Env) (s:Shared) (H:Hp) (E:XK),Room k (A.deeper (envOfC x (Zg st) s.heap.objs.size f cdv))→MSs (Zig CX0 P w K mg base N x (Zg st) f cdv A outer s H E).nox (Zn st) fb):Zo P w K mg base (k+1) x (ZO np nn fb):=by
  obtain ⟨f,fd,F,b,m⟩:=D0
  exact ⟨ps,f,fd,mfn F S np nn hp hn (hbody f),b,F.kp,m⟩
def Bx.inC (B:Bx):Bx:={ B with F:=fun a=>B.F a∨a∈B.os,os:=[] }
theorem inC_ok {B:Bx} {a:Addr}:B.inC.ok a↔B.ok a:=by
  constructor
  · rintro ⟨h1,h2,h3⟩
    exact ⟨h1,fun z=>h2 (.inl z),fun z=>h2 (.inr z)⟩
  · rintro ⟨h1,h2,h3⟩
    exact ⟨h1,fun z=>z.elim h2 h3,fun z=>nomatch z⟩
mutual
theorem RepV.same {B B':Bx} {H:Hp} (hn:B'.n=B.n) (hm:B'.m=B.m) (hk:B'.ks=B.ks) (ho:∀a,B.ok a→B'.ok a):∀{d:D} {v:V},RepV B H d v→RepV B' H d v
  | .non,_,h=>h
  | .bl _,_,h=>h
  | .int _,_,h=>h
  | .str _,_,h=>h
  | .ty _,_,h=>h
  | .scr _,_,h=>by
    obtain ⟨a,e,h⟩:=h
    refine ⟨a,e,?_⟩
    rcases h with ⟨o,h,k⟩ | h
    · exact .inl ⟨o,h,ho a k⟩
    · exact .inr (by rw [hk]; exact h)
  | .tup _,_,h=>by obtain ⟨a,vs,e,h,k,l⟩:=h; exact ⟨a,vs,e,h,ho a k,RepL.same hn hm hk ho l⟩
  | .lst _,_,h=>by obtain ⟨a,vs,e,h,k,l⟩:=h; exact ⟨a,vs,e,h,ho a k,RepL.same hn hm hk ho l⟩
  | .ref l,_,h=>⟨by rw [hn]; exact h.1,by rw [hm]; exact h.2⟩
theorem RepL.same {B B':Bx} {H:Hp} (hn:B'.n=B.n) (hm:B'.m=B.m) (hk:B'.ks=B.ks) (ho:∀a,B.ok a→B'.ok a):∀{ds:List D} {vs:List V},RepL B H ds vs→RepL B' H ds vs
  | [],_,h=>h
  | _::_,_,h=>by obtain ⟨v,r,e,hv,hr⟩:=h; exact ⟨v,r,e,RepV.same hn hm hk ho hv,RepL.same hn hm hk ho hr⟩
end
theorem RepKV.same {κ:Type} {B B':Bx} {H:Hp} (hn:B'.n=B.n) (hm:B'.m=B.m) (hk:B'.ks=B.ks) (ho:∀a,B.ok a→B'.ok a):∀{ks:List (κ×D)} {vs:List (κ×V)},RepKV B H ks vs→RepKV B' H ks vs
  | _,_,.nil=>.nil
  | _,_,.cons h t=>.cons ⟨h.1,RepV.same hn hm hk ho h.2⟩ (RepKV.same hn hm hk ho t)
theorem CellOk.same {cl:Mo} {B B':Bx} {H:Hp} {a:Addr} {c:Cell} (hn:B'.n=B.n) (hm:B'.m=B.m) (hk:B'.ks=B.ks) (ho:∀a,B.ok a→B'.ok a) (k:CellOk cl B H a c):CellOk cl B' H a c:=by
  cases c with
  | lst xs=>obtain ⟨vs,e,r⟩:=k; exact ⟨vs,e,r.same hn hm hk ho⟩
  | dK kvs=>obtain ⟨vs,e,r⟩:=k; exact ⟨vs,e,r.same hn hm hk ho⟩
  | dT kvs=>obtain ⟨vs,e,r⟩:=k; exact ⟨vs,e,r.same hn hm hk ho⟩
  | ins C fs=>obtain ⟨dx,vs,e,r⟩:=k; exact ⟨dx,vs,e,r.same hn hm hk ho⟩
theorem Zrq {cl:Mo} {B:Bx} {θ:Sto} {H:Hp} (G:Good cl B θ H):Good cl B.inC θ H:=
  ⟨G.len,G.inj,fun i c e=>CellOk.same (B:=B) (B':=B.inC) rfl rfl rfl (fun a=>inC_ok.mpr) (G.cel i c e),fun i hi=>⟨fun z=>z.elim (G.cF i hi).1 (G.cF i hi).2,fun z=>nomatch z⟩,fun a z=>z.elim (G.Fs a) (G.oS a),fun a z=>(nomatch z),fun a z=>(nomatch z),G.kc⟩
theorem ZwN {cl:Mo} {B B':Bx} {θ θ':Sto} {H H':Hp} (G:Good cl B θ H) (E:ExtE B.inC B' H H') (G':Good cl B' θ' H') :
    ExtE B { B' with F:=B.F,os:=B.os } H H'∧Good cl { B' with F:=B.F,os:=B.os } θ' H'∧∀d v,RepV B' H' d v→RepV { B' with F:=B.F,os:=B.os } H' d v:=by
  have hF:B'.F=fun a=>B.F a∨a∈B.os:=E.F
  have ho:∀a,B'.ok a→Bx.ok { B' with F:=B.F,os:=B.os } a:=fun a ⟨h1,h2,h3⟩=>by
    rw [hF] at h2
    exact ⟨h1,fun z=>h2 (.inl z),fun z=>h2 (.inr z)⟩
  have keep:∀a o,H a=some o→(∀i,i<B.n→B.m i≠a)→H' a=some o:=fun a o h k=>E.keep a o h k (fun z=>nomatch z)
  refine ⟨⟨⟨E.n,E.m,E.fr,fun a o h k _=>keep a o h k,E.sm,fun a h=>.inl h,rfl,E.ks⟩,rfl,fun a o _ k h=>keep a o h k⟩,⟨G'.len,G'.inj,fun i c e=>CellOk.same (B:=B') (B':={ B' with F:=B.F,os:=B.os }) rfl rfl rfl ho (G'.cel i c e),fun i hi=>?_,fun a z=>E.sm a (G.Fs a z),fun a z=>E.sm a (G.oS a z),G.oF,G'.kc⟩,fun d v r=>RepV.same (B:=B') (B':={ B' with F:=B.F,os:=B.os }) rfl rfl rfl ho r⟩
  have:=(G'.cF i hi).1
  rw [hF] at this
  exact ⟨fun z=>this (.inl z),fun z=>this (.inr z)⟩
theorem ZnT {f:GM} {σ:St} {B:Bx} {θ:Sto} {H:Hp} {ds:List D} {vs:List V} {Q:VK} {E:XK} (G:Good X.cl B θ H) (r:RepL B H ds vs) (w:wpR X σ RepV B H (f ds θ) Q):spM X.cl f vs H Q E:=by
  refine ⟨B.inC,θ,ds,rfl,Zrq G,RepL.same (B:=B) (B':=B.inC) rfl rfl rfl (fun a=>inC_ok.mpr) r,?_⟩
  cases e:f ds θ with
  | bad=>rw [e] at w; exact w
  | ex c θ'=>rw [e] at w; exact w
  | ok d θ'=>
    rw [e] at w
    intro B' H' v E' G' rv
    obtain ⟨h1,h2,h3⟩:=ZwN G E' G'
    exact w _ H' v h1 h2 (h3 d v rv)
theorem Zh {k j:Nat} {x:Str} {f:GM} {p pos:Pos} {e:Expr} {es:List Expr} {fs:AM} (D0:Zo X.prog X.w X.K X.mg X.base k x f) (hr:Room j X.A) (hj:k≤j) (ha:MA X (e::es) fs) (hg:Gl X x:=by rfl) (hdb:(x == ("__debug__":Str))=false:=by decide)
    (he:starEach (e::es) X.env=(false,eval e X.env)::starEach es X.env:=by rfl) (hpl:(backTo pos (starEach es X.env)).any (·.1)=false:=by rfl):ME X (.Call (.Name x p) (e::es) [] pos) (mCB f fs):=by
  obtain ⟨ps,D0⟩:=D0
  refine PE.imp (ZqV D0 hr hj ha hg hdb he hpl) fun σ H Q h=>?_
  obtain ⟨B,θ,ρ,F,w⟩:=h
  refine ZbU (ZhO F w) ?_
  rintro vs H1 ⟨B1,θ1,ds,E1,F1,rd,w1⟩
  rw [List.append_nil]
  exact ZnT F1.good rd w1
end
end L2.MM
namespace L2.MM
open PySem PySem.Spec PyProof.Rows PySem.SeqAt
noncomputable section
def Znf (K:PySem.W.Frag):Sp:=fun vs H Q _=>∃(a:Addr) (ns:List Int),vs=[.ref a]∧Ztt H∧SqL K H a (ns.map V.int)∧ns.length≤63∧∀H',Q (.bl true) H'
theorem Zs3 {P:Program} {w:World} {K:PySem.W.Frag} {mg:Str→Option Value} {base:Heap} {k:Nat} {f:Addr} {fd:FuncData} {ps:List Str} {g:GM} (h:∀ns:List Int,ns.length≤63→∃θ',g [.scr ns] []=.ok (.bl true) θ')
    (F:FnOk P w K mg base CX0 k f fd ps (spM ⟨z9 mg,K⟩ g)):FnOk P w K mg base CX0 k f fd ps (Znf K):=by
  refine F.imp ?_
  rintro vs H Q E ⟨a,ns,rfl,hO,hS,hl,q⟩
  obtain ⟨θ',e⟩:=h ns hl
  refine ⟨⟨0,fun _=>0,fun _=>False,[],KL K⟩,[],[.scr ns],rfl,⟨rfl,fun i j hi=>absurd hi (Nat.not_lt_zero _),fun i c h=>by simp at h,fun i hi=>absurd hi (Nat.not_lt_zero _),fun a h=>h.elim,fun a h=>(nomatch h),fun a h=>(nomatch h),fun a ns h=>h⟩,?_,?_⟩
  · refine ⟨.ref a,[],rfl,⟨a,rfl,?_⟩,rfl⟩
    rcases hS with (h1 | ⟨o,h1⟩) | h1
    · rcases hO a with z | ⟨o,xs,z⟩
      · rw [z] at h1; cases h1
      · rw [z] at h1; cases h1
    · exact .inl ⟨o,h1,fun i hi=>absurd hi (Nat.not_lt_zero _),fun z=>z,fun z=>(nomatch z)⟩
    · exact .inr h1
  · rw [e]
    intro B' H' v _ _ rv
    cases (show v=V.bl true from rv)
    exact q H'
end
end L2.MM
namespace L2.MM
open PySem PySem.Spec PyProof.Rows PySem.SeqAt
noncomputable section
section
variable {i j k:Nat} {ρ:List Sl} {θ:Sto} {f g h:EM} {fs:AM} {t u:TMr}
@[simp] theorem Ztu:Zd i ρ θ=match ρ[i]? with | some (Sl.val d)=>.ok d θ | _=>.bad:=nr rfl
@[simp] theorem x_c {d:D}:mC d ρ θ=.ok d θ:=nr rfl
@[simp] theorem Zv2 {o:OM}:mOp o f g ρ θ=(f ρ θ).bind fun x θ=>(g ρ θ).bind fun y θ=>o x y θ:=nr rfl
@[simp] theorem ZzX:ZK f ρ θ=(f ρ θ).bind fun x θ=>match x with | .bl k=>.ok k θ | _=>.bad:=nr rfl
@[simp] theorem ZBi:zL f ρ θ=(f ρ θ).bind fun x θ=>match Zhn θ x with | some k=>.ok k θ | none=>.bad:=nr rfl
@[simp] theorem ZBv:ZfI t u ρ θ=(t ρ θ).bind fun k θ=>if k=true then u ρ θ else .ok false θ:=nr rfl
@[simp] theorem ZBU:mOr t u ρ θ=(t ρ θ).bind fun k θ=>if k=true then .ok true θ else u ρ θ:=nr rfl
@[simp] theorem ZBl:Zdg t ρ θ=(t ρ θ).bind fun k θ=>.ok (!k) θ:=nr rfl
def Zvu (g:Sto→R D):D→Sto→R D
  | .bl true,θ=>g θ
  | .bl false,θ=>.ok (.bl false) θ
  | _,_=>.bad
def orK (g:Sto→R D):D→Sto→R D
  | .bl true,θ=>.ok (.bl true) θ
  | .bl false,θ=>g θ
  | _,_=>.bad
@[simp] theorem ZxY {g:Sto→R D} {k:Bool}:Zvu g (.bl k) θ=if k=true then g θ else .ok (.bl false) θ:=by cases k<;>rfl
@[simp] theorem ZAF {g:Sto→R D} {k:Bool}:orK g (.bl k) θ=if k=true then .ok (.bl true) θ else g θ:=by cases k<;>rfl
@[simp] theorem ZAa:Zcg f g ρ θ=(f ρ θ).bind (Zvu (g ρ)):=by
  show (f ρ θ).bind _=_
  congr 1
  funext x θ
  cases x<;>first | rfl | (rename_i b; cases b<;>rfl)
@[simp] theorem ZBk:ZmO f g ρ θ=(f ρ θ).bind (orK (g ρ)):=by
  show (f ρ θ).bind _=_
  congr 1
  funext x θ
  cases x<;>first | rfl | (rename_i b; cases b<;>rfl)
@[simp] theorem Zw4 {p:Prop} [Decidable p] {m:Bool}:(if p then R.ok (D.bl m) θ else R.ok (D.bl false) θ)=R.ok (D.bl (decide p && m)) θ:=by by_cases h:p<;>simp [h]
@[simp] theorem ZxP {p:Prop} [Decidable p] {m:Bool}:(if p then R.ok (D.bl true) θ else R.ok (D.bl m) θ)=R.ok (D.bl (decide p || m)) θ:=by by_cases h:p<;>simp [h]
@[simp] theorem ZvS {p:Prop} [Decidable p] {m:Bool}:(if p then R.ok m θ else R.ok false θ)=R.ok (decide p && m) θ:=by by_cases h:p<;>simp [h]
@[simp] theorem Zw3 {p:Prop} [Decidable p] {m:Bool}:(if p then R.ok true θ else R.ok m θ)=R.ok (decide p || m) θ:=by by_cases h:p<;>simp [h]
@[simp] theorem Zz4:ZnE f ρ θ=(f ρ θ).bind fun x θ=>match Zhn θ x with | some k=>.ok (.bl (!k)) θ | none=>.bad:=nr rfl
@[simp] theorem ZBm:ZAK f ρ θ=(f ρ θ).bind fun x θ=>match x with | .int i=>.ok (.int (-i)) θ | _=>.bad:=nr rfl
@[simp] theorem ZBp:Zf9 t f g ρ θ=(t ρ θ).bind fun k θ=>if k=true then f ρ θ else g ρ θ:=nr rfl
@[simp] theorem ZxB {o o':OM}:Zef o o' f g h ρ θ=(f ρ θ).bind fun x θ=>(g ρ θ).bind fun y θ=>(o x y θ).bind (Zvu fun θ=>(h ρ θ).bind fun w θ=>o' y w θ):=by
  show (f ρ θ).bind _=_
  congr 1
  funext x θ
  congr 1
  funext y θ
  congr 1
  funext z θ
  cases z<;>first | rfl | (rename_i b; cases b<;>rfl)
@[simp] theorem Ztw:Zk ρ θ=.ok [] θ:=nr rfl
@[simp] theorem Zqi:Zc f fs ρ θ=(f ρ θ).bind fun x θ=>(fs ρ θ).bind fun xs θ=>.ok (x::xs) θ:=nr rfl
@[simp] theorem ZBh:ZaO fs ρ θ=(fs ρ θ).bind fun xs θ=>if xs.length≤BIG then .ok (.tup xs) θ else .bad:=nr rfl
@[simp] theorem Zv3:Zb0 fs ρ θ=(fs ρ θ).bind fun xs θ=>if xs.length≤BIG then .ok (.lst xs) θ else .bad:=nr rfl
@[simp] theorem ZAb {o:GM}:mCB o fs ρ θ=(fs ρ θ).bind fun xs θ=>o xs θ:=nr rfl
@[simp] theorem Zqg:Za2 ρ θ=.ok none θ:=nr rfl
@[simp] theorem Zt4:ZbF f ρ θ=(f ρ θ).bind fun x θ=>match x with | .int i=>.ok (some i) θ | _=>.bad:=nr rfl
@[simp] theorem ZzY {lo hi:PM}:mSl f lo hi ρ θ=(f ρ θ).bind fun x θ=>(lo ρ θ).bind fun l θ=>(hi ρ θ).bind fun h θ=>match ZfF θ x l h with
  | some d=>.ok d θ
  | none=>.bad:=nr rfl
@[simp] theorem ZBj {lo hi st:PM}:Zs1 f lo hi st ρ θ=(f ρ θ).bind fun x θ=>(lo ρ θ).bind fun l θ=>(hi ρ θ).bind fun h θ=>(st ρ θ).bind fun s θ=>match Za0 θ x with
  | some xs=>if s≠some 0∧(ZdT xs l h s).length≤BIG then .ok (.lst (ZdT xs l h s)) θ else .bad
  | none=>.bad:=nr rfl
@[simp] theorem ZBW:mIn f ρ θ=(f ρ θ).bind fun d θ=>match seqOf θ d with | some _=>.ok (.seq d) θ | none=>.bad:=nr rfl
@[simp] theorem Zz1:ZcW fs ρ θ=(fs ρ θ).bind fun ds θ=>match ds with
  | [.int j]=>if -1000000≤j∧j≤1000000 then .ok (.rng 0 j.toNat) θ else .bad
  | _=>.bad:=by
  unfold ZcW; exact nr rfl
variable {a b:SM} {Fl':Fl×List Sl}
@[simp] theorem ZzZ:ZM ρ θ=.ok (.nx,ρ) θ:=nr rfl
@[simp] theorem ZBu:Zs2 ρ θ=.bad:=nr rfl
@[simp] theorem Zba {ρ':List Sl}:ZhK (.ok (.nx,ρ') θ) a=a ρ' θ:=nr rfl
@[simp] theorem ZvA {ρ':List Sl} {d:D}:ZhK (.ok (.rt d,ρ') θ) a=.ok (.rt d,ρ') θ:=nr rfl
@[simp] theorem Zfr:Zs a b ρ θ=ZhK (a ρ θ) b:=nr rfl
@[simp] theorem Zz8:zG f ρ θ=(f ρ θ).bind fun _ θ=>.ok (.nx,ρ) θ:=nr rfl
@[simp] theorem Zqf:ZL f ρ θ=(f ρ θ).bind fun d θ=>.ok (.rt d,ρ) θ:=nr rfl
@[simp] theorem Zz2:Zf8 ρ θ=.ok (.rt .non,ρ) θ:=nr rfl
@[simp] theorem ZBX:mIf t a b ρ θ=(t ρ θ).bind fun k θ=>if k=true then a ρ θ else b ρ θ:=nr rfl
@[simp] theorem Zv1:ZX i f ρ θ=(f ρ θ).bind fun d θ=>.ok (.nx,ρ.set i (.val d)) θ:=nr rfl
@[simp] theorem Zv0:Zhy i fs ρ θ=(fs ρ θ).bind fun xs θ=>if xs.length≤BIG then .ok (.nx,ρ.set i (.own xs)) θ else .bad:=nr rfl
@[simp] theorem Zv7:Zeg i f ρ θ=(f ρ θ).bind fun d θ=>match ρ[i]? with
  | some (Sl.own xs)=>if xs.length<BIG then .ok (.nx,ρ.set i (.own (xs++[d]))) θ else .bad
  | _=>.bad:=nr rfl
@[simp] theorem Zv6:Zee i a ρ θ=match ρ[i]? with | some (Sl.own xs)=>a (ρ.set i (.val (.lst xs))) θ | _=>a ρ θ:=nr rfl
@[simp] theorem ZdM {ρ':List Sl}:Zfu a (.nx,ρ') θ=a ρ' θ:=nr rfl
@[simp] theorem ZBq {d:D}:gNm i d ρ=some (ρ.set i (.val d)):=nr rfl
@[simp] theorem ZBt {np nn:Nat} {ds:List D}:ZO np nn a ds θ=if ds.length=np then (a (Zd5 nn ds) θ).bind fun p θ=>match p.1 with | .nx=>.ok .non θ | .rt d=>.ok d θ | _=>.bad else .bad:=nr rfl
@[simp] theorem Zxv {n:Nat} {ds:List D}:Zd5 n ds=ds.map Sl.val++List.replicate (n-ds.length) Sl.no:=nr rfl
@[simp] theorem Ztv {xs:List D}:seqOf θ (.lst xs)=some xs:=nr rfl
@[simp] theorem ZgX {xs:List D}:seqOf θ (.tup xs)=some xs:=nr rfl
@[simp] theorem Zvz {b:Bool}:Zhn θ (.bl b)=some b:=nr rfl
@[simp] theorem Zt3 {ns:List Int}:Zhn θ (.scr ns)=some (!(ns.map D.int).isEmpty):=nr rfl
@[simp] theorem Zt6 {xs:List D}:look θ (.lst xs)=.lst xs:=nr rfl
@[simp] theorem Zt7 {n:Int}:look θ (.int n)=.int n:=nr rfl
@[simp] theorem ZvB {n:Bool}:look θ (.bl n)=.bl n:=nr rfl
@[simp] theorem Zt5 {n:Str}:look θ (.str n)=.str n:=nr rfl
@[simp] theorem Zqh {xs:List D} {n:Int}:ixM (.lst xs) (.int n) θ=match atI xs n with | some d=>.ok d θ | none=>.bad:=nr rfl
@[simp] theorem ZhE {xs:List D} {n:Int}:ixM (.tup xs) (.int n) θ=match atI xs n with | some d=>.ok d θ | none=>.bad:=nr rfl
@[simp] theorem Zv5 {xs:List Int} {n:Int}:ixM (.scr xs) (.int n) θ=match atI (xs.map D.int) n with | some d=>.ok d θ | none=>.bad:=nr rfl
@[simp] theorem Zv4 {xs:List D}:Zdr [.lst xs] θ=.ok (.int xs.length) θ:=nr rfl
@[simp] theorem Zn3 {xs:List D}:Zdr [.tup xs] θ=.ok (.int xs.length) θ:=nr rfl
@[simp] theorem ZvC {xs:List Int}:Zdr [.scr xs] θ=.ok (.int (xs.map D.int).length) θ:=nr rfl
@[simp] theorem ZvZ {xs:List D}:Zn8 [.lst xs] θ=match Zge xs with | some ns=>.ok (.int ns.sum) θ | none=>.bad:=nr rfl
@[simp] theorem Zv8 {xs:List D}:ZrV [.lst xs] θ=match ZjZ xs with | some ns=>.ok (.bl (ns.all id)) θ | none=>.bad:=nr rfl
@[simp] theorem ZBn {m n:Int}:ZlU [.int m,.int n] θ=.ok (.int (if n<m then n else m)) θ:=nr rfl
@[simp] theorem Zz5 {m n k:Int}:ZlU [.int m,.int n,.int k] θ=.ok (.int (if n<m then (if k<n then k else n) else (if k<m then k else m))) θ:=nr rfl
@[simp] theorem ZBo {m n:Int}:Zs0 [.int m,.int n] θ=.ok (.int (if n > m then n else m)) θ:=nr rfl
@[simp] theorem Zz7 {k:Bool}:Zib [.bl k] θ=.ok (.int (if k then 1 else 0)) θ:=nr rfl
@[simp] theorem Zxy {m:Bool} {n:String}:Zfw [.bl m,.ty n] θ=match isT .bl n with | some b=>.ok (.bl b) θ | none=>.bad:=nr rfl
@[simp] theorem Zqe {xs:List D} {lo hi:Option Int}:ZfF θ (.lst xs) lo hi=some (.lst (Zbg xs lo hi)):=nr rfl
@[simp] theorem ZBV {x:D}:isM x .non θ=.ok (.bl (ZcF x)) θ:=nr rfl
@[simp] theorem Zxx {x:D}:ZjN x .non θ=.ok (.bl (!ZcF x)) θ:=nr rfl
end
mutual
def pl:Nat→D→Bool
  | _,.non=>true
  | _,.bl _=>true
  | _,.int _=>true
  | _,.str x=>PyData.strOk x
  | k+1,.tup xs=>pls k xs
  | k+1,.lst xs=>pls k xs
  | _,_=>false
def pls:Nat→List D→Bool
  | _,[]=>true
  | k,d::r=>pl k d && pls k r
end
mutual
def noB:D→Bool
  | .bl _=>false
  | .tup xs=>ZhW xs
  | .lst xs=>ZhW xs
  | _=>true
def ZhW:List D→Bool
  | []=>true
  | d::r=>noB d && ZhW r
end
mutual
theorem Znn:∀(k:Nat) (d:D),pl k d=true→plain d=true∧(dat d).canLay0=true∧(dat d).depth≤k
  | _,.non,_=>⟨rfl,rfl,Nat.zero_le _⟩
  | _,.bl _,_=>⟨rfl,rfl,Nat.zero_le _⟩
  | _,.int _,_=>⟨rfl,rfl,Nat.zero_le _⟩
  | k,.str x,h=>⟨rfl,by cases k<;>simpa [pl,dat,PyData.canLay0] using h,Nat.zero_le _⟩
  | k+1,.tup xs,h=>by
    obtain ⟨a,b,c⟩:=ZmE k xs (by simpa [pl] using h)
    exact ⟨a,b,by simp only [dat,PyData.depth]; omega⟩
  | k+1,.lst xs,h=>by
    obtain ⟨a,b,c⟩:=ZmE k xs (by simpa [pl] using h)
    exact ⟨a,b,by simp only [dat,PyData.depth]; omega⟩
  | 0,.tup xs,h=>by simp [pl] at h
  | 0,.lst xs,h=>by simp [pl] at h
  | 0,.ty _,h=>by simp [pl] at h
  | 0,.scr _,h=>by simp [pl] at h
  | 0,.ref _,h=>by simp [pl] at h
  | _+1,.ty _,h=>by simp [pl] at h
  | _+1,.scr _,h=>by simp [pl] at h
  | _+1,.ref _,h=>by simp [pl] at h
theorem ZmE:∀(k:Nat) (ds:List D),pls k ds=true→ZbW ds=true∧PyData.canLayAll0 (ZeR ds)=true∧PyData.depthAll (ZeR ds)≤k
  | _,[],_=>⟨rfl,rfl,Nat.zero_le _⟩
  | k,d::r,h=>by
    have h':pl k d=true∧pls k r=true:=by simpa [pls] using h
    obtain ⟨a,b,c⟩:=Znn k d h'.1
    obtain ⟨a',b',c'⟩:=ZmE k r h'.2
    exact ⟨by simp [ZbW,a,a'],by simp [ZeR,PyData.canLayAll0,b,b'],by simp only [ZeR,PyData.depthAll]; omega⟩
end
mutual
theorem Zny:∀(d e:D),noB d=true→noB e=true→noMix (dat d) (dat e)=true:=fun d e p q=>by
  cases d with
  | bl _=>simp [noB] at p
  | tup xs=>
    cases e with
    | bl _=>simp [noB] at q
    | tup ys=>simp only [dat,noMix]; exact ZhV xs ys p q
    | _=>simp [dat,noMix]
  | lst xs=>
    cases e with
    | bl _=>simp [noB] at q
    | lst ys=>simp only [dat,noMix]; exact ZhV xs ys p q
    | _=>simp [dat,noMix]
  | _=>cases e<;>simp_all [noB,dat,noMix]
theorem ZhV:∀(ds es:List D),ZhW ds=true→ZhW es=true→noMixAll (ZeR ds) (ZeR es)=true
  | [],[],_,_=>rfl
  | [],_::_,_,_=>rfl
  | _::_,[],_,_=>rfl
  | d::ds,e::es,p,q=>by
    have p':noB d=true∧ZhW ds=true:=by simpa [ZhW] using p
    have q':noB e=true∧ZhW es=true:=by simpa [ZhW] using q
    simp only [ZeR,noMixAll,Bool.and_eq_true]
    exact ⟨Zny d e p'.1 q'.1,ZhV ds es p'.2 q'.2⟩
end
theorem ZiQ {k:Nat} {d:D} (h:pl k d=true) (hk:k≤64):shaped (dat d)=true:=by
  obtain ⟨_,b,c⟩:=Znn k d h
  unfold shaped
  rw [b,decide_eq_true (by omega)]
  rfl
theorem ZdH {x y:D} (h1:pl 9 x=true) (h2:pl 9 y=true) (h3:noB x=true) (h4:noB y=true):Zjs x y:=
  ⟨(Znn _ _ h1).1,(Znn _ _ h2).1,ZiQ h1 (by decide),ZiQ h2 (by decide),Zny x y h3 h4⟩
theorem Zvo {a b:Bool}:Zjs (.bl a) (.bl b):=⟨rfl,rfl,rfl,rfl,rfl⟩
section
open Classical
theorem ZgO {x y:D} {θ:Sto} (h:Zjs (look θ x) (look θ y)):eqM x y θ=.ok (.bl (decide (look θ x=look θ y))) θ:=if_pos h
theorem ZhY {x y:D} {θ:Sto} (h:Zjs (look θ x) (look θ y)):neM x y θ=.ok (.bl (!decide (look θ x=look θ y))) θ:=if_pos h
end
@[simp] theorem ZwG (k:Nat) (ns:List Int):pls k (ns.map D.int)=true:=by
  induction ns with
  | nil=>rfl
  | cons n r ih=>simp only [List.map_cons,pls,ih,Bool.and_true]; cases k<;>rfl
@[simp] theorem ZvQ (ns:List Int):ZhW (ns.map D.int)=true:=by
  induction ns with
  | nil=>rfl
  | cons n r ih=>simp only [List.map_cons,ZhW,ih,Bool.and_true]; rfl
@[simp] theorem ZtW (ns ms:List Int):(ns.map D.int=ms.map D.int)↔ns=ms:=by
  constructor
  · intro h
    have:∀(ns ms:List Int),ns.map D.int=ms.map D.int→ns=ms:=fun ns=>by
      induction ns with
      | nil=>intro ms h; cases ms with
        | nil=>rfl
        | cons _ _=>cases h
      | cons n r ih=>intro ms h; cases ms with
        | nil=>cases h
        | cons m s=>simp at h; rw [h.1,ih s h.2]
    exact this ns ms h
  · intro h; rw [h]
@[simp] theorem ZA3 (a b:Int) (θ:Sto):eqM (.int a) (.int b) θ=.ok (.bl (decide (a=b))) θ:=by
  rw [ZgO (ZdH rfl rfl rfl rfl)]
  simp
@[simp] theorem ZAH (a b:Int) (θ:Sto):neM (.int a) (.int b) θ=.ok (.bl (!decide (a=b))) θ:=by
  rw [ZhY (ZdH rfl rfl rfl rfl)]
  simp
@[simp] theorem ZBP (a b:Bool) (θ:Sto):eqM (.bl a) (.bl b) θ=.ok (.bl (decide (a=b))) θ:=by
  rw [ZgO (x:=.bl a) (y:=.bl b) Zvo]
  simp
@[simp] theorem Zte (a b:List Int) (θ:Sto):eqM (.lst (a.map D.int)) (.lst (b.map D.int)) θ=.ok (.bl (decide (a=b))) θ:=by
  rw [ZgO (ZdH (by simp [pl]) (by simp [pl]) (by simp [noB]) (by simp [noB]))]
  simp
@[simp] theorem ZsW (a b:List Int) (θ:Sto):neM (.lst (a.map D.int)) (.lst (b.map D.int)) θ=.ok (.bl (!decide (a=b))) θ:=by
  rw [ZhY (ZdH (by simp [pl]) (by simp [pl]) (by simp [noB]) (by simp [noB]))]
  simp
end
end L2.MM
namespace L2.MM
open PySem PySem.Spec PyProof.Rows PySem.SeqAt My
noncomputable section
@[simp] theorem Zvy:BIG=100000:=nr rfl
def il (ns:List Int):D:=.lst (ns.map D.int)
def itp (ns:List Int):D:=.tup (ns.map D.int)
section
variable {θ:Sto} {a b ns ms:List Int} {i j:Int}
@[simp] theorem ZBO:D.lst (ns.map D.int)=il ns:=nr rfl
theorem Zb3:D.lst []=il []:=rfl
@[simp] theorem ZBN (x:Int):D.lst [.int x]=il [x]:=nr rfl
@[simp] theorem Zxh (x y:Int):D.lst [.int x,.int y]=il [x,y]:=nr rfl
@[simp] theorem ZBM (x y z w:Int):D.lst [.int x,.int y,.int z,.int w]=il [x,y,z,w]:=nr rfl
@[simp] theorem Zw8:Za0 θ (il a)=some (a.map D.int):=nr rfl
@[simp] theorem Zw7:seqOf θ (il a)=some (a.map D.int):=nr rfl
@[simp] theorem Zro:Z0 (il a) (il b) θ=if a.length+b.length≤BIG then .ok (il (a++b)) θ else .bad:=by
  unfold il
  rw [ZrW]
  simp [il]
theorem ZjP (h:a.length+b.length≤100000):Z0 (il a) (il b) θ=.ok (il (a++b)) θ:=by
  rw [Zro,if_pos h]
@[simp] theorem ZAP:Zdr [il a] θ=.ok (.int a.length) θ:=by
  unfold il; rw [Zv4]; simp
@[simp] theorem ZAM:Zdr [itp a] θ=.ok (.int a.length) θ:=by
  unfold itp; rw [Zn3]; simp
theorem Ztp {α β:Type} (f:α→β) (xs:List α) (n:Int):atI (xs.map f) n=(atI xs n).map f:=by
  unfold L2.atI
  rw [List.length_map]
  cases ixN xs.length n with
  | none=>rfl
  | some k=>simp
theorem Zw9:ixM (il a) (.int i) θ=match atI a i with | some z=>.ok (.int z) θ | none=>.bad:=by
  unfold il
  rw [Zqh,Ztp]
  cases atI a i<;>rfl
theorem ZrS {xs:List Int} {i:Int} (h0:0≤i) (h:i<xs.length):atI xs i=some (xs.getD i.toNat 0):=by
  have c:i=((i.toNat:Nat):Int):=by omega
  rw [c]
  refine Zgs ?_
  have d:i.toNat<xs.length:=by omega
  rw [List.getD_eq_getElem?_getD,Int.toNat_natCast,List.getElem?_eq_getElem d]
  rfl
def gt (a:List Int) (i:Nat):Int:=a.getD i 0
theorem Zcp (h0:0≤i) (h:i<a.length):ixM (il a) (.int i) θ=.ok (.int (gt a i.toNat)) θ:=by rw [Zw9,ZrS h0 h]; rfl
@[simp] theorem ZAR {x:Int} {r:List Int}:ixM (il (x::r)) (.int 0) θ=.ok (.int x) θ:=Zcp (a:=x::r) (i:=0) (by decide) (by rw [List.length_cons]; omega)
@[simp] theorem ZAQ {x y:Int} {r:List Int}:ixM (il (x::y::r)) (.int 1) θ=.ok (.int y) θ:=Zcp (a:=x::y::r) (i:=1) (by decide) (by rw [List.length_cons,List.length_cons]; omega)
@[simp high] theorem ZB0 {x:D} {r:List D}:ixM (.tup (x::r)) (.int 0) θ=.ok x θ:=by
  rw [ZhE,show (0:Int)=((0:Nat):Int) from rfl,Zgs (j:=0) (v:=x) rfl]
@[simp high] theorem ZBZ {x y:D} {r:List D}:ixM (.tup (x::y::r)) (.int 1) θ=.ok y θ:=by
  rw [ZhE,show (1:Int)=((1:Nat):Int) from rfl,Zgs (j:=1) (v:=y) rfl]
@[simp high] theorem ZBY {x y z:D} {r:List D}:ixM (.tup (x::y::z::r)) (.int 2) θ=.ok z θ:=by
  rw [ZhE,show (2:Int)=((2:Nat):Int) from rfl,Zgs (j:=2) (v:=z) rfl]
theorem ZrF {α β:Type} (f:α→β) (xs:List α) (lo hi:Option Int):Zbg (xs.map f) lo hi=(Zbg xs lo hi).map f:=by
  unfold Zbg
  rw [List.length_map,List.map_take,List.map_drop]
@[simp] theorem ZnJ {lo hi:Option Int}:ZfF θ (il a) lo hi=some (il (Zbg a lo hi)):=by
  unfold il; rw [Zqe,ZrF]
@[simp] theorem ZxQ:ZlX [itp a] θ=.ok (il a) θ:=nr rfl
@[simp] theorem Zw6:ZfE [il a] θ=.ok (itp a) θ:=nr rfl
@[simp] theorem ZAN:Zn8 [il a] θ=.ok (.int a.sum) θ:=by unfold il; rw [ZvZ,Zrm]
@[simp] theorem ZBG {n:String}:Zfw [il a,.ty n] θ=match isT .lst n with | some b=>.ok (.bl b) θ | none=>.bad:=nr rfl
@[simp] theorem ZBH:eqM (il a) (il b) θ=.ok (.bl (decide (a=b))) θ:=Zte a b θ
@[simp] theorem ZBF:neM (il a) (il b) θ=.ok (.bl (!decide (a=b))) θ:=ZsW a b θ
@[simp] theorem ZAO {k:Int}:ZbY (il a) (.int k) θ=if -1000000≤k∧k≤1000000∧a.length*k.toNat≤BIG then .ok (il (List.replicate k.toNat a).flatten) θ else .bad:=by
  unfold il
  rw [ZlR,List.length_map]
  have:(List.replicate k.toNat (a.map D.int)).flatten=(List.replicate k.toNat a).flatten.map D.int:=by
    rw [List.map_flatten,List.map_replicate]
  rw [this]
theorem ZgC {α β:Type} (f:α→β) (xs:List α) (lo hi st:Option Int):ZdT (xs.map f) lo hi st=(ZdT xs lo hi st).map f:=by
  unfold ZdT
  rw [List.length_map,List.map_filterMap]
  congr
  funext k
  simp
theorem Zh3:∀{ns ms:List Int},ns.map V.int=ms.map V.int→ns=ms
  | [],[],_=>rfl
  | [],_::_,h=>by cases h
  | _::_,[],h=>by cases h
  | _::_,_::_,h=>by simp at h; rw [h.1,Zh3 h.2]
@[simp] theorem ZtP (ns:List Int):ZdT ns none none (some 2)=Zet ns:=Zh3 (by
  have:=ZoC ns
  rw [show ZeE (ns.map V.int) none none (some 2)=ZdT (ns.map V.int) none none (some 2) from rfl,ZgC] at this
  exact this)
@[simp] theorem ZuM (ns:List Int):ZdT ns (some 1) none (some 2)=ZhS ns:=Zh3 (by
  have:=ZrE ns
  rw [show ZeE (ns.map V.int) (some 1) none (some 2)=ZdT (ns.map V.int) (some 1) none (some 2) from rfl,ZgC] at this
  exact this)
end
theorem ZjB {n d:Nat} {k:Int} (h:0≤k):HT.sIx n d (some k)=min k.toNat n:=by
  have c:k=((k.toNat:Nat):Int):=by omega
  rw [c]
  exact HT.sIx_nat n d k.toNat
theorem Zeh {α:Type} (xs:List α) {k:Int} (h:0≤k):Zbg xs none (some k)=xs.take k.toNat:=by
  unfold Zbg
  rw [HT.sIx_none,ZjB h,List.drop_zero,Nat.sub_zero,←List.take_take,List.take_length]
theorem Zb6 {α:Type} (xs:List α) {k:Int} (h:0≤k):Zbg xs (some k) none=xs.drop k.toNat:=by
  unfold Zbg
  rw [HT.sIx_none,ZjB h]
  by_cases q:k.toNat≤xs.length
  · rw [Nat.min_eq_left q,List.take_of_length_le]
    rw [List.length_drop]
    exact Nat.le_refl _
  · rw [Nat.min_eq_right (by omega),List.drop_length,List.drop_eq_nil_of_le (by omega)]
    simp
theorem ZnO {α:Type} (xs:List α) {k l:Int} (h:0≤k) (h':0≤l):Zbg xs (some k) (some l)=(xs.drop k.toNat).take (l.toNat-k.toNat):=by
  unfold Zbg
  rw [ZjB h,ZjB h']
  by_cases q:k.toNat≤xs.length
  · rw [Nat.min_eq_left q]
    by_cases r:l.toNat≤xs.length
    · rw [Nat.min_eq_left r]
    · rw [Nat.min_eq_right (by omega),List.take_of_length_le (by rw [List.length_drop]; exact Nat.le_refl _),List.take_of_length_le (by rw [List.length_drop]; omega)]
  · rw [Nat.min_eq_right (a:=k.toNat) (by omega),List.drop_length,List.drop_eq_nil_of_le (i:=k.toNat) (by omega)]
    simp
section
variable {θ:Sto} {ρ:List Sl}
@[simp] theorem Zc2 {lo:Int} {n:Nat}:(Src.rng lo n).items θ=some ((List.range n).map fun (i:Nat)=>D.int (lo+(i:Int))):=nr rfl
@[simp] theorem Zob {d:D}:(Src.seq d).items θ=seqOf θ d:=nr rfl
open Classical in
theorem ZgQ {S:Src} {all:List D} {elt:D→Sto→R D} {θ:Sto} (f:D→D) (hS:S.items θ=some all):∀(xs acc:List D),(∀x∈xs,elt x θ=.ok (f x) θ)→(acc.length+xs.length≤BIG)→Zg8 S all elt xs acc θ=.ok (.lst (acc++xs.map f)) θ
  | [],acc,_,hl=>by
    unfold Zg8
    rw [if_pos ⟨hS,by simpa using hl⟩]
    simp
  | x::r,acc,h,hl=>by
    unfold Zg8
    rw [if_pos hS,h x List.mem_cons_self]
    rw [R.bind_ok,ZgQ f hS r (acc++[f x]) (fun y hy=>h y (List.mem_cons_of_mem _ hy)) (by simp at hl ⊢; omega)]
    simp
theorem Zi5 {fi:IM} {src:List Nat} {elt:EM} {lo:Int} {n:Nat} {θ':Sto} (f:Int→D) (hi:fi ρ θ=.ok (.rng lo n) θ') (hn:n≤BIG) (he:∀i:Nat,i<n→elt (ZeP src ρ (.int (lo+i))) θ'=.ok (f (lo+i)) θ') :
    mComp fi src elt ρ θ=.ok (.lst ((List.range n).map fun (i:Nat)=>f (lo+i))) θ':=by
  unfold mComp
  rw [hi,R.bind_ok]
  simp only [Zc2]
  rw [if_pos (by simpa using hn),ZgQ (fun d=>match d with | .int k=>f k | d=>d) rfl]
  · simp
  · intro x hx
    obtain ⟨i,hi,rfl⟩:=List.mem_map.mp hx
    exact he i (List.mem_range.mp hi)
  · simpa using hn
theorem Zi4 {fi:IM} {src:List Nat} {elt:EM} {d:D} {xs:List D} {θ':Sto} (f:D→D) (hi:fi ρ θ=.ok (.seq d) θ') (hd:seqOf θ' d=some xs) (hn:xs.length≤BIG) (he:∀x∈xs,elt (ZeP src ρ x) θ'=.ok (f x) θ') :
    mComp fi src elt ρ θ=.ok (.lst (xs.map f)) θ':=by
  unfold mComp
  rw [hi,R.bind_ok]
  simp only [Zob,hd]
  rw [if_pos hn,ZgQ (S:=.seq d) f hd xs [] he (by simpa using hn)]
  simp
@[simp] theorem Zw5 {src:List Nat} {x:D}:ZeP src ρ x=Sl.val x::src.map fun (j:Nat)=>match ρ[j]? with | some (Sl.val d)=>Sl.val d | _=>Sl.no:=nr rfl
open Classical in
theorem Ztb {lo:Int} {n:Nat} {all:List D} {tg:TgM} {body:SM} (st:Nat→List Sl) (hs:∀i ρ1,i<n→tg (.int (lo+i)) (st i)=some ρ1→body ρ1 θ=.ok (.nx,st (i+1)) θ) (ht:∀i,i<n→∃ρ1,tg (.int (lo+i)) (st i)=some ρ1) (hall:all=(List.range n).map fun (i:Nat)=>D.int (lo+(i:Int))) :
    ZcP (.rng lo n) all tg body all (st 0) θ=.ok (.nx,st n) θ:=by
  subst hall
  have key:∀m,m≤n→ZcP (.rng lo n) ((List.range n).map fun (i:Nat)=>D.int (lo+(i:Int))) tg body (((List.range n).map fun (i:Nat)=>D.int (lo+(i:Int))).drop (n-m)) (st (n-m)) θ=.ok (.nx,st n) θ:=fun m=>by
    induction m with
    | zero=>
      intro _
      rw [Nat.sub_zero,List.drop_eq_nil_of_le (by simp)]
      simp [ZcP]
    | succ m ih=>
      intro hm
      have hlt:n-(m+1)<n:=by omega
      rw [List.drop_eq_getElem_cons (by simpa using hlt)]
      obtain ⟨ρ1,h1⟩:=ht (n-(m+1)) hlt
      have h2:=hs (n-(m+1)) ρ1 hlt h1
      have e:n-(m+1)+1=n-m:=by omega
      simp only [List.getElem_map,List.getElem_range,ZcP,Zc2,if_true,h1]
      rw [h2,R.bind_ok,ZdM,e]
      exact ih (by omega)
  have:=key n (Nat.le_refl _)
  rw [Nat.sub_self,List.drop_zero] at this
  exact this
end
end
end L2.MM
namespace L2.MM
open PySem PySem.Spec PyProof.Rows PySem.SeqAt
noncomputable section
variable {X:Cx}
def Zap (f:Str) (v:D):List (Str×D)→List (Str×D)
  | []=>[(f,v)]
  | (g,x)::r=>if g=f then (g,v)::r else (g,x)::Zap f v r
theorem RepKV.put {B:Bx} {H:Hp} {f:Str} {d:D} {v:V} (q:RepV B H d v):∀{fs:List (Str×D)} {vs:List (Str×V)},RepKV B H fs vs→RepKV B H (Zap f d fs) (ZdR f v vs)
  | _,_,.nil=>.cons ⟨rfl,q⟩ .nil
  | (g,x)::fs,(g',y)::vs,.cons h t=>by
    obtain ⟨h1,h2⟩:=h
    cases (show g=g' from h1)
    unfold Zap ZdR
    by_cases e:g=f
    · rw [if_pos e,if_pos e]; exact .cons ⟨rfl,q⟩ t
    · rw [if_neg e,if_neg e]; exact .cons ⟨rfl,h2⟩ (RepKV.put q t)
theorem RepKV.len {κ:Type} {B:Bx} {H:Hp}:∀{fs:List (κ×D)} {vs:List (κ×V)},RepKV B H fs vs→vs.length=fs.length
  | _,_,.nil=>rfl
  | _,_,.cons _ t=>by rw [List.length_cons,List.length_cons,RepKV.len t]
theorem RepKV.get {B:Bx} {H:Hp} {f:Str} {d:D}:∀{fs:List (Str×D)} {vs:List (Str×V)},RepKV B H fs vs→fs.lookup f=some d→∃v,vs.lookup f=some v∧RepV B H d v
  | _,_,.nil,h=>by cases h
  | (g,x)::fs,(g',y)::vs,.cons h t,e=>by
    obtain ⟨h1,h2⟩:=h
    cases (show g=g' from h1)
    rw [List.lookup_cons] at e ⊢
    cases q:f == g with
    | true=>rw [q] at e; cases e; exact ⟨y,rfl,h2⟩
    | false=>rw [q] at e; exact RepKV.get t e
def ZeO (θ:Sto):D→Option (Nat×Str×List (Str×D))
  | .ref l=>match θ[l]? with
    | some (.ins C fs)=>some (l,C,fs)
    | _=>none
  | _=>none
theorem Zl1 {cl:Mo} {B:Bx} {θ:Sto} {H:Hp} (G:Good cl B θ H) {d:D} {v:V} {l:Nat} {C:Str} {fs:List (Str×D)} (r:RepV B H d v) (h:ZeO θ d=some (l,C,fs)) :
    l<B.n∧v=.ref (B.m l)∧∃dx vs,H (B.m l)=some (.ins (cl.cl C) dx vs)∧RepKV B H fs vs:=by
  cases d with
  | ref k=>
    simp only [ZeO] at h
    split at h
    · rename_i C' fs' e
      cases h
      obtain ⟨hl,rfl⟩:=r
      obtain ⟨dx,vs,h1,h2⟩:=G.cel _ _ e
      exact ⟨hl,rfl,dx,vs,h1,h2⟩
    · cases h
  | _=>cases h
def zI (cs:List Str) (f:Str):D→Sto→R D:=fun d θ=>match ZeO θ d with
  | some (_,C,fs)=>if cs.contains C=true then (match fs.lookup f with
    | some v=>.ok v θ
    | none=>.bad) else .bad
  | none=>.bad
def ZI (cs:List Str) (f:Str) (fe:EM):EM:=fun ρ θ=>(fe ρ θ).bind (zI cs f)
def Zt2 (X:Cx) (f:Str) (C:Str):Prop:=Cls X.K (X.cl.cl C)∧NoAttr X.K (X.cl.cl C) f
theorem Zt {P:Str→Prop} {a:Str} (h:P a):∀C,[a].contains C=true→P C:=fun C hc=>by
  have:C=a:=by simpa using hc
  rw [this]; exact h
theorem Zp {cs:List Str} {f:Str} {e:Expr} {fe:EM} {pos:Pos} (hc:∀C,cs.contains C=true→Zt2 X f C) (he:ME X e fe) (hb:attributeBase e f X.env (eval e X.env)=eval e X.env:=by rfl):ME X (.Attribute e f pos) (ZI cs f fe):=by
  refine PE.imp (ZuU he hb) fun σ H Q h=>?_
  obtain ⟨B,θ,ρ,F,w⟩:=h
  refine Z4 (step F w) ?_
  rintro v H1 ⟨B1,θ1,d,E1,F1,rd,w1⟩
  unfold zI at w1
  split at w1
  · rename_i l C fs e1
    split at w1
    · rename_i hC
      split at w1
      · rename_i y ey
        obtain ⟨hl,rfl,dx,vs,h1,h2⟩:=Zl1 F1.good rd e1
        obtain ⟨u,h3,h4⟩:=h2.get ey
        exact ⟨_,_,dx,vs,u,rfl,h1,(hc C hC).1,(hc C hC).2,h3,ZP F1.good h4 w1⟩
      · exact w1.elim
    · exact w1.elim
  · exact w1.elim
def za (cs:List Str) (f:Str) (y d:D) (θ:Sto):Option Sto:=match ZeO θ d with
  | some (l,C,fs)=>if cs.contains C=true∧fs.length<1000 then some (θ.set l (.ins C (Zap f y fs))) else none
  | none=>none
def ZH (cs:List Str) (f:Str) (fe fv:EM):SM:=fun ρ θ=>(fv ρ θ).bind fun y θ=>(fe ρ θ).bind fun d θ=>match za cs f y d θ with
  | some θ'=>.ok (.nx,ρ) θ'
  | none=>.bad
theorem Zz {cs:List Str} {f:Str} {o value:Expr} {fe fv:EM} {pos pos':Pos} (hc:∀C,cs.contains C=true→Zt2 X f C) (he:ME X o fe) (hv:ME X value fv) (hs:swapsWith value (some (.Attribute o f pos')) pos.line X.env=pure false:=by rfl) :
    MS X (.Assign [.Attribute o f pos'] value pos) (ZH cs f fe fv):=
  PS.imp (ZuL he hv hs) fun D σ H h=>by
  obtain ⟨B,θ,ρ,F,w⟩:=h
  refine Z4 (ZhN F w) ?_
  rintro y H1 ⟨B1,θ1,dy,E1,F1,ry,w1⟩
  refine Z4 (ZhN F1 w1) ?_
  rintro v H2 ⟨B2,θ2,d,E2,F2,rd,w2⟩
  unfold za at w2
  cases e1:ZeO θ2 d with
  | none=>rw [e1] at w2; exact w2.elim
  | some q=>
    obtain ⟨l,C,fs⟩:=q
    rw [e1] at w2
    simp only at w2
    by_cases hC:cs.contains C=true∧fs.length<1000
    · rw [if_pos hC] at w2
      obtain ⟨hl,rfl,dx,vs,h1,h2⟩:=Zl1 F2.good rd e1
      refine ⟨_,_,dx,vs,rfl,h1,(hc C hC.1).1,(hc C hC.1).2,by rw [h2.len]; exact hC.2,?_⟩
      have E3:=ZhB F2.good hl (.ins (X.cl.cl C) dx (ZdR f y vs))
      have G3:=Zic F2.good hl (o:=.ins (X.cl.cl C) dx (ZdR f y vs)) (c:=.ins C (Zap f dy fs)) ⟨dx,_,zi,(h2.put (ry.ext E2.toExtS)).ext E3.toExtS⟩
      exact w2 _ _ _ E3.toExtS (F2.ext E3 G3)
    · rw [if_neg hC] at w2
      exact w2.elim
structure MMk (P:Program) (w:World) (K:PySem.W.Frag) (mg:Str→Option Value) (base:Heap) (k:Nat) (C:Str) (f:GM):Prop where
  ex:∃(fI:Addr) (fd:FuncData) (ps:List Str),Mk K (z9 mg C) fI∧FnOk P w K mg base CX0 k fI fd ps (spM ⟨z9 mg,K⟩ f)∧Binds K fd ps []
  mg:mg C=some (.ref (z9 mg C))
def mkG (C:Str) (f:GM):GM:=fun vs θ=>(f (.ref θ.length::vs) (θ++[.ins C []])).bind fun v θ'=>match v with
  | .non=>.ok (.ref θ.length) θ'
  | _=>.bad
theorem wpR.made {σ:St} {B:Bx} {θ:Sto} {H:Hp} {C:Str} {f:GM} {ds:List D} {vs:List V} {Q:VK} {E:XK} (G:Good X.cl B θ H) (r:RepL B H ds vs) (w:wpR X σ RepV B H (mkG C f ds θ) Q) :
    ∀x dx,H x=none→H dx=none→dx≠x→spM X.cl f (.ref x::(vs++[])) (upd (upd H dx (.own x)) x (.ins (X.cl.cl C) dx [])) (fun v H2=>v=.non∧Q (.ref x) H2) E:=by
  intro x dx hx hdx ne
  have E1:=Zb5 G hdx (.own x)
  have G1:=Zdh G hdx (.own x)
  have hx1:upd H dx (.own x) x=none:=by rw [ZS (Ne.symm ne)]; exact hx
  have E2:=Zie G1 hx1 (.ins (X.cl.cl C) dx [])
  have G2:Good X.cl (B.push x) (θ++[.ins C []]) _:=Zi9 G1 hx1 (o:=.ins (X.cl.cl C) dx []) (c:=.ins C []) ⟨dx,[],zi,.nil⟩
  have rx:RepV (B.push x) (upd (upd H dx (.own x)) x (.ins (X.cl.cl C) dx [])) (.ref θ.length) (.ref x):=⟨by rw [G.len]; exact Nat.lt_succ_self _,by rw [G.len]; show V.ref x=V.ref (if B.n=B.n then x else B.m B.n); rw [if_pos rfl]⟩
  rw [List.append_nil]
  refine ZnT (σ:=σ) G2 (show RepL _ _ (.ref θ.length::ds) (.ref x::vs) from ⟨_,_,rfl,rx,r.ext (E1.trans E2).toExtS⟩) ?_
  have w1:=wpR.trans w (E1.trans E2)
  refine (wpR.bind (Rel:=RepV) w1).mono ?_
  rintro v H3 ⟨B3,θ3,d,E3,G3,rd,w3⟩
  cases d with
  | non=>exact ⟨rd,ZP G3 (rx.ext E3.toExtS) w3⟩
  | _=>exact w3.elim
theorem ZsZ {k j:Nat} {x:Str} {f:GM} {p pos:Pos} {e:Expr} {es:List Expr} {fs:AM} (M:MMk X.prog X.w X.K X.mg X.base k x f) (hr:Room j X.A) (hj:k+1≤j) (ha:MA X (e::es) fs) (hg:Gl X x:=by rfl) (hdb:(x == ("__debug__":Str))=false:=by decide)
    (he:starEach (e::es) X.env=(false,eval e X.env)::starEach es X.env:=by rfl) (hpl:(backTo pos (starEach es X.env)).any (·.1)=false:=by rfl):ME X (.Call (.Name x p) (e::es) [] pos) (mCB (mkG x f) fs):=by
  obtain ⟨fI,fd,ps,m,F0,b⟩:=M.ex
  refine PE.imp (ZsJ m F0 (hr.mono hj) hg M.mg b .nil ZqY ha hdb he hpl) fun σ H Q h=>?_
  obtain ⟨B,θ,ρ,F,w⟩:=h
  refine ZbU (ZhO F w) ?_
  rintro vs H1 ⟨B1,θ1,ds,E1,F1,rd,w1⟩
  exact wpR.made F1.good rd w1
theorem ZlW {k j:Nat} {x:Str} {f:GM} {p pos:Pos} (M:MMk X.prog X.w X.K X.mg X.base k x f) (hr:Room j X.A) (hj:k+1≤j) (hg:Gl X x:=by rfl) (hdb:(x == ("__debug__":Str))=false:=by decide):ME X (.Call (.Name x p) [] [] pos) (mCB (mkG x f) Zk):=by
  obtain ⟨fI,fd,ps,m,F0,b⟩:=M.ex
  refine PE.imp (ZqN m F0 (hr.mono hj) hg M.mg b .nil ZqY hdb) fun σ H Q h=>?_
  obtain ⟨B,θ,ρ,F,w⟩:=h
  exact wpR.made (ds:=[]) (vs:=[]) F.good (show RepL B H [] [] from rfl) w
structure ZBT (P:Program) (w:World) (K:PySem.W.Frag) (mg:Str→Option Value) (base:Heap) (k:Nat) (C m:Str) (f:GM):Prop where
  ex:∃(fa:Addr) (fd:FuncData) (ps:List Str),ZBe K (z9 mg C) m fa∧FnOk P w K mg base CX0 k fa fd ps (spM ⟨z9 mg,K⟩ f)∧Binds K fd ps []
  cl:Cls K (z9 mg C)
instance {C C':Str} {gs:List (Str×D)} {m:Str}:Decidable (C'=C∧gs.lookup m=none):=by
  cases h:gs.lookup m with
  | none=>exact if e:C'=C then isTrue ⟨e,rfl⟩ else isFalse fun z=>e z.1
  | some _=>exact isFalse fun z=>nomatch z.2
theorem mmk {P:Program} {w:World} {K:PySem.W.Frag} {mg:Str→Option Value} {base:Heap} {x qual:Str} {st:Stmt} {N ps:List Str} {k:Nat} {fb:SM} {f:Addr} {fd:FuncData} {C:Str} (F:Fun K x qual st f fd) (S:Zq N ps (Zg st)) (np nn:Nat) (hp:ps.length=np) (hn:N.length=nn) (b:Binds K fd ps []) (M:Mk K (z9 mg C) f) (hm:mg C=some (.ref (z9 mg C)))
    (hbody:∀(cdv:Value) (A:Around) (outer:List Env) (s:Shared) (H:Hp) (E:XK),Room k (A.deeper (envOfC qual (Zg st) s.heap.objs.size f cdv))→MSs (Zig CX0 P w K mg base N qual (Zg st) f cdv A outer s H E).nox (Zn st) fb):MMk P w K mg base (k+1) C (ZO np nn fb):=
  ⟨⟨f,fd,ps,M,mfn F S np nn hp hn hbody,b⟩,hm⟩
def ZmP:EM:=fun _ θ=>.ok (.ref θ.length) (θ++[.dK []])
theorem Zrg {pos:Pos}:ME X (.Dict [] [] pos) ZmP:=by
  refine PE.imp ZqS fun σ H Q h=>?_
  obtain ⟨B,θ,ρ,F,w⟩:=h
  intro p hp
  have G:=F.good
  exact w (B.push p) _ _ (Zie G hp _) (Zi9 G hp ⟨[],zi,.nil⟩) ⟨by rw [G.len]; exact Nat.lt_succ_self _,by rw [G.len]; show V.ref p=V.ref (if B.n=B.n then p else B.m B.n); rw [if_pos rfl]⟩
section
variable {ρ:List Sl} {θ:Sto} {fe fv fo:EM} {cs:List Str} {f:Str}
@[simp] theorem ZBr:ZI cs f fe ρ θ=(fe ρ θ).bind (zI cs f):=nr rfl
@[simp] theorem Zz0:ZH cs f fe fv ρ θ=(fv ρ θ).bind fun y θ=>(fe ρ θ).bind fun d θ=>match za cs f y d θ with
  | some θ'=>.ok (.nx,ρ) θ'
  | none=>.bad:=nr rfl
@[simp] theorem ZxA:ZmP ρ θ=.ok (.ref θ.length) (θ++[.dK []]):=nr rfl
end
end
end L2.MM
namespace L2.MM
open PySem PySem.Spec PyProof.Rows PySem.SeqAt
def Mk0 (K:PySem.W.Frag) (mg:Str→Option Value) (C qual:Str) (st:Stmt) (ps:List Str):Prop:=
  ∃(f:Addr) (fd:FuncData),Fun K "__init__" qual st f fd∧Binds K fd ps []∧Mk K (z9 mg C) f∧mg C=some (.ref (z9 mg C))
theorem ZnS {mg:Str→Option Value} {x:Str} {a:Addr} (h:mg x=some (.ref a)):z9 mg x=a:=by unfold z9; rw [h]
theorem mk0 {P:Program} {w:World} {K:PySem.W.Frag} {mg:Str→Option Value} {base:Heap} {qual:Str} {st:Stmt} {N ps:List Str} {k:Nat} {fb:SM} {C:Str} (D:Mk0 K mg C qual st ps) (S:Zq N ps (Zg st)) (np nn:Nat) (hp:ps.length=np) (hn:N.length=nn)
    (hbody:∀(f:Addr) (cdv:Value) (A:Around) (outer:List Env) (s:Shared) (H:Hp) (E:XK),Room k (A.deeper (envOfC qual (Zg st) s.heap.objs.size f cdv))→MSs (Zig CX0 P w K mg base N qual (Zg st) f cdv A outer s H E).nox (Zn st) fb):MMk P w K mg base (k+1) C (ZO np nn fb):=by
  obtain ⟨f,fd,F,b,M,hm⟩:=D
  exact mmk F S np nn hp hn b M hm (hbody f)
end L2.MM
namespace My
open PySem L2 L2.MM
noncomputable section
def Zgp:SM:=(ZcJ (ZK (mOp gtM (Zd 1) (mC (.int 65535)))) (ZX 1 (mOp Z0 (mOp Zbq (Zd 1) (mC (.int 65536))) (mOp ZfK (Zd 1) (mC (.int 65536))))) 200)
def Zit:SM:=(Zs (ZX 1 (mOp Z0 (mOp ZbY (mC (.int 256)) (mCB Zn8 (Zc (Zs1 (Zd 0) Za2 Za2 (ZbF (mC (.int 2)))) Zk))) (mCB Zn8 (Zc (Zs1 (Zd 0) (ZbF (mC (.int 1))) Za2 (ZbF (mC (.int 2)))) Zk))))
  (Zs Zgp
  (ZL (Zd 1))))
def Zde:GM:=ZO 1 2 Zit
def Zil:SM:=(ZL (mOp Zgz (mC (.int 65535)) (mCB Zde (Zc (Zd 0) Zk))))
def ZeF:GM:=ZO 1 1 Zil
def ZnX:SM:=(ZL (Zf9 (ZK (mOp neM (mOp Zxq (Zd 0) (Zd 1)) (mC (.int 0)))) (mC (.int 1)) (mC (.int 0))))
def Zfs:GM:=ZO 2 2 ZnX
def Ziq:SM:=(Zs (ZX 1 (mOp ixM (Zd 0) (mC (.int 4))))
  (ZL (mOp Z0 (mOp Z0 (mCB Zdr (Zc (mOp ixM (Zd 0) (mC (.int 7))) Zk)) (mCB Zfs (Zc (Zd 1) (Zc (mC (.int 2)) Zk)))) (mCB Zfs (Zc (Zd 1) (Zc (mC (.int 1)) Zk))))))
def ZcB:GM:=ZO 1 2 Ziq
def Zd1:SM:=(ZL (mOp ZbY (mC (.int 16)) (mOp ZfK (Zd 0) (mC (.int 4)))))
def zT:GM:=ZO 1 1 Zd1
def Zfz:SM:=(ZL (Zb0 (Zc (mOp Zbq (mOp ZfK (Zd 0) (mC (.int 256))) (mC (.int 256))) (Zc (mOp Zbq (Zd 0) (mC (.int 256))) Zk))))
def zn:GM:=ZO 1 1 Zfz
def Ze5:SM:=(ZL (mOp Z0 (mCB zn (Zc (mOp ZfK (Zd 0) (mC (.int 65536))) Zk)) (mCB zn (Zc (Zd 0) Zk))))
def Zbp:GM:=ZO 1 1 Ze5
def Zcb:SM:=(Zs (ZX 1 (mOp Z0 (mCB zn (Zc (mOp ixM (Zd 0) (mC (.int 0))) Zk)) (mCB zn (Zc (mOp ixM (Zd 0) (mC (.int 1))) Zk))))
  (Zs (ZX 2 (mOp Z0 (mCB Zbp (Zc (mOp ixM (Zd 0) (mC (.int 2))) Zk)) (mCB Zbp (Zc (mOp ixM (Zd 0) (mC (.int 3))) Zk))))
  (Zs (ZX 3 (Zf9 (ZK (mOp eqM (mOp ixM (Zd 0) (mC (.int 6))) (mC (.int 0)))) (mC (.int 20)) (mC (.int 24))))
  (ZL (mOp Z0 (mOp Z0 (mOp Z0 (Zd 1) (Zd 2)) (Zb0 (Zc (mCB zT (Zc (Zd 3) Zk)) (Zc (mOp ixM (Zd 0) (mC (.int 4))) Zk)))) (mCB zn (Zc (mOp ixM (Zd 0) (mC (.int 5))) Zk)))))))
def zS:GM:=ZO 1 4 Zcb
def ZdD:SM:=(ZL (Zf9 (ZK (mOp eqM (Zd 0) (mC (.int 0)))) (Zb0 Zk) (mOp Z0 (Zb0 (Zc (mC (.int 2)) (Zc (mC (.int 4)) Zk))) (mCB zn (Zc (Zd 0) Zk)))))
def Za5:GM:=ZO 1 1 ZdD
def ZnW:SM:=(Zs (ZX 1 (mCB zS (Zc (Zd 0) Zk)))
  (Zs (ZX 2 (mOp Z0 (mOp Z0 (Zb0 (Zc (mC (.int 0)) (Zc (mC (.int 0)) Zk))) (mCB Za5 (Zc (mOp ixM (Zd 0) (mC (.int 6))) Zk))) (mCB ZlX (Zc (mOp ixM (Zd 0) (mC (.int 7))) Zk))))
  (ZL (mOp Z0 (mOp Z0 (Zd 1) (mCB zn (Zc (mCB ZeF (Zc (mOp Z0 (mOp Z0 (Zd 1) (Zb0 (Zc (mC (.int 0)) (Zc (mC (.int 0)) Zk)))) (Zd 2)) Zk)) Zk))) (Zd 2)))))
def ZlJ:GM:=ZO 1 3 ZnW
def Zha:SM:=(ZL (mOp ZbY (mOp ZfK (mOp ixM (Zd 0) (mC (.int 12))) (mC (.int 16))) (mC (.int 4))))
def Zbo:GM:=ZO 1 1 Zha
def Zik:SM:=(ZL (mOp Z0 (mOp ZbY (mC (.int 256)) (mOp ixM (Zd 0) (Zd 1))) (mOp ixM (Zd 0) (mOp Z0 (Zd 1) (mC (.int 1))))))
def Zaf:GM:=ZO 2 2 Zik
def Zb8:SM:=(ZL (Zcg (mOp eqM (mCB Zfs (Zc (mOp ixM (Zd 0) (mC (.int 13))) (Zc (mC (.int 2)) Zk))) (mC (.int 1))) (Zcg (mOp eqM (mOp ixM (Zd 0) (mC (.int 20))) (mC (.int 2))) (Zcg (mOp eqM (mOp ixM (Zd 0) (mC (.int 21))) (mC (.int 4))) (mOp geM (mCB Zaf (Zc (Zd 0) (Zc (mC (.int 22)) Zk))) (mC (.int 4)))))))
def zR:GM:=ZO 1 1 Zb8
def Zbt:SM:=(ZL (Zcg (mOp geM (mCB Zdr (Zc (Zd 0) Zk)) (mC (.int 20))) (Zcg (mOp inM (mOp ixM (Zd 0) (mC (.int 12))) (ZaO (Zc (mCB zT (Zc (mC (.int 20)) Zk)) (Zc (mCB zT (Zc (mC (.int 24)) Zk)) Zk)))) (Zcg (mOp leM (mOp ixM (Zd 0) (mC (.int 13))) (mC (.int 31))) (Zcg (Zef leM leM (mC (.int 0)) (mOp Zgz (mCB Zdr (Zc (Zd 0) Zk)) (mCB Zbo (Zc (Zd 0) Zk))) (mC (.int 16))) (Zcg (mOp eqM (mCB Zaf (Zc (Zd 0) (Zc (mC (.int 18)) Zk))) (mC (.int 0))) (Zcg (ZmO (mOp eqM (mCB Zbo (Zc (Zd 0) Zk)) (mC (.int 20))) (mCB zR (Zc (Zd 0) Zk))) (mOp eqM (mCB Zde (Zc (Zd 0) Zk)) (mC (.int 65535))))))))))
def Zah:GM:=ZO 1 1 Zbt
def Zhb:SM:=(ZL (mOp Z0 (mOp ZbY (mC (.int 65536)) (mCB Zaf (Zc (Zd 0) (Zc (Zd 1) Zk)))) (mCB Zaf (Zc (Zd 0) (Zc (mOp Z0 (Zd 1) (mC (.int 2))) Zk)))))
def Zc4:GM:=ZO 2 2 Zhb
def ZgR:SM:=(mIf (Zdg (zL (mCB Zah (Zc (Zd 0) Zk)))) Zs2 ZM)
def Zj1:SM:=(Zs ZgR
  (Zs (ZX 1 (mCB Zbo (Zc (Zd 0) Zk)))
  (Zs (ZX 2 (Zf9 (ZK (mOp eqM (Zd 1) (mC (.int 24)))) (mCB Zaf (Zc (Zd 0) (Zc (mC (.int 22)) Zk))) (mC (.int 0))))
  (Zs (ZX 3 (ZaO (Zc (mCB Zaf (Zc (Zd 0) (Zc (mC (.int 0)) Zk))) (Zc (mCB Zaf (Zc (Zd 0) (Zc (mC (.int 2)) Zk))) Zk))))
  (Zs (ZX 4 (ZaO (Zc (mCB Zc4 (Zc (Zd 0) (Zc (mC (.int 4)) Zk))) (Zc (mCB Zc4 (Zc (Zd 0) (Zc (mC (.int 8)) Zk))) Zk))))
  (ZL (mOp Z0 (mOp Z0 (Zd 3) (Zd 4)) (ZaO (Zc (mOp ixM (Zd 0) (mC (.int 13))) (Zc (mCB Zaf (Zc (Zd 0) (Zc (mC (.int 14)) Zk))) (Zc (Zd 2) (Zc (mCB ZfE (Zc (mSl (Zd 0) (ZbF (Zd 1)) Za2) Zk)) Zk))))))))))))
def ZiW:GM:=ZO 1 5 Zj1
def ZfN:SM:=(mIf (zL (Zd 0)) (ZL (mOp ixM (Zd 0) (mOp Zbq (Zd 1) (mCB Zdr (Zc (Zd 0) Zk))))) ZM)
def Ziy:SM:=(Zs ZfN
  (ZL (mC (.int 0))))
def ZgK:GM:=ZO 2 2 Ziy
def ZnZ:SM:=(Zs (ZX 2 (mOp Zbq (mOp Z0 (mCB ZgK (Zc (Zd 0) (Zc (Zd 1) Zk))) (mOp ZbY (mC (.int 104729)) (mOp Z0 (Zd 1) (mC (.int 1))))) (mC (.int 4294967291))))
  (Zs (ZX 2 (mOp Zbq (mOp ZbY (Zd 2) (mC (.int 48271))) (mC (.int 4294967279))))
  (ZL (mOp Zbq (mOp Z0 (mOp ZbY (mOp ZfK (Zd 2) (mC (.int 64))) (mC (.int 69621))) (Zd 2)) (mC (.int 4294967231))))))
def Zb1:GM:=ZO 2 3 ZnZ
def ZnY:SM:=(ZL (Zb0 (Zc (mOp ZfK (Zd 0) (mC (.int 256))) (Zc (mOp Zbq (Zd 0) (mC (.int 256))) Zk))))
def Zes:GM:=ZO 1 1 ZnY
def Zgr:SM:=(ZeA (ZcW (Zc (mCB Zdr (Zc (Zd 0) Zk)) Zk)) (gNm 2) (ZX 1 (mOp Z0 (Zd 1) (mOp ZbY (mOp ixM (Zd 0) (Zd 2)) (mOp ixM (Zb0 (Zc (mC (.int 256)) (Zc (mC (.int 1)) Zk))) (mOp Zbq (Zd 2) (mC (.int 2))))))))
def Zgq:SM:=(ZcJ (ZK (mOp gtM (Zd 1) (mC (.int 65535)))) (ZX 1 (mOp Z0 (mOp Zbq (Zd 1) (mC (.int 65536))) (mOp ZfK (Zd 1) (mC (.int 65536))))) 200)
def Zix:SM:=(Zs (ZX 1 (mC (.int 0)))
  (Zs Zgr
  (Zs Zgq
  (ZL (Zd 1)))))
def ZcD:GM:=ZO 1 3 Zix
def Zfa:SM:=(ZeA (mIn (mSl (Zd 0) (ZbF (mC (.int 2))) (ZbF (mC (.int 4))))) (gNm 2) (ZX 1 (mOp Z0 (mOp Z0 (Zd 1) (mCB Zes (Zc (mOp ZfK (Zd 2) (mC (.int 65536))) Zk))) (mCB Zes (Zc (mOp Zbq (Zd 2) (mC (.int 65536))) Zk)))))
def Ze9:SM:=(mIf (ZK (mOp gtM (mOp ixM (Zd 0) (mC (.int 6))) (mC (.int 0)))) (ZX 1 (mOp Z0 (mOp Z0 (Zd 1) (Zb0 (Zc (mC (.int 2)) (Zc (mC (.int 4)) Zk)))) (mCB Zes (Zc (mOp ixM (Zd 0) (mC (.int 6))) Zk)))) ZM)
def ZgU:SM:=(Zs (ZX 1 (mOp Z0 (mCB Zes (Zc (mOp ixM (Zd 0) (mC (.int 0))) Zk)) (mCB Zes (Zc (mOp ixM (Zd 0) (mC (.int 1))) Zk))))
  (Zs Zfa
  (Zs (ZX 1 (mOp Z0 (mOp Z0 (mOp Z0 (Zd 1) (Zb0 (Zc (mOp ixM (Zb0 (Zc (mC (.int 80)) (Zc (mC (.int 96)) Zk))) (mCB Zib (Zc (mOp gtM (mOp ixM (Zd 0) (mC (.int 6))) (mC (.int 0))) Zk))) (Zc (mOp ixM (Zd 0) (mC (.int 4))) Zk)))) (mCB Zes (Zc (mOp ixM (Zd 0) (mC (.int 5))) Zk))) (Zb0 (Zc (mC (.int 0)) (Zc (mC (.int 0)) (Zc (mC (.int 0)) (Zc (mC (.int 0)) Zk)))))))
  (Zs Ze9
  (Zs (ZX 1 (mOp Z0 (Zd 1) (mCB ZlX (Zc (mOp ixM (Zd 0) (mC (.int 7))) Zk))))
  (ZL (mOp Z0 (mOp Z0 (mSl (Zd 1) Za2 (ZbF (mC (.int 16)))) (mCB Zes (Zc (mOp Zgz (mC (.int 65535)) (mCB ZcD (Zc (Zd 1) Zk))) Zk))) (mSl (Zd 1) (ZbF (mC (.int 18))) Za2))))))))
def Zcw:GM:=ZO 1 3 ZgU
end
end My
namespace My
open PySem L2 L2.MM
noncomputable section
def cell (ns:List Int) (k:Int):Int:=if ns.length=0 then 0 else ns.getD (k % (ns.length:Int)).toNat 0
def mix (ns:List Int) (k:Int):Int:=
  ((cell ns k+104729*(k+1)) % 4294967291*48271 % 4294967279/64*69621+(cell ns k+104729*(k+1)) % 4294967291*48271 % 4294967279) % 4294967231
theorem Zrc (ns:List Int) (k:Int):0≤mix ns k∧mix ns k<4294967231:=by
  unfold mix; omega
theorem Zto {ns:List Int} {k:Int} (h:0<ns.length):atI (ns.map D.int) (k % (ns.length:Int))=some (.int (cell ns k)):=by
  have a:=Int.emod_nonneg k (show (ns.length:Int)≠0 by omega)
  have b:=Int.emod_lt_of_pos k (show (0:Int)<ns.length by omega)
  have c:(k % (ns.length:Int))=(((k % (ns.length:Int)).toNat:Nat):Int):=by omega
  rw [c]
  refine Zgs ?_
  have d:(k % (ns.length:Int)).toNat<ns.length:=by omega
  rw [List.getElem?_map,List.getElem?_eq_getElem d]
  unfold cell
  rw [if_neg (by omega),List.getD_eq_getElem?_getD,List.getElem?_eq_getElem d]
  rfl
@[simp] theorem ZAj (ns:List Int) (k:Int) (θ:Sto):ZgK [.scr ns,.int k] θ=.ok (.int (cell ns k)) θ:=by
  by_cases h:ns.length=0
  · have:ns=[]:=List.eq_nil_of_length_eq_zero h
    subst this
    simp [ZgK,Ziy,ZfN,cell]
  · have h1:ns.isEmpty=false:=by cases ns with
      | nil=>exact absurd rfl h
      | cons _ _=>rfl
    have h2:0<ns.length:=by omega
    simp [ZgK,Ziy,ZfN,h1,h2,Zto (k:=k) h2]
@[simp] theorem ZBw (ns:List Int) (k:Int) (θ:Sto):Zb1 [.scr ns,.int k] θ=.ok (.int (mix ns k)) θ:=by
  simp [Zb1,ZnZ,Zfb,mix]
@[simp] theorem Zwc (k:Int) (θ:Sto):Zes [.int k] θ=.ok (il [k/256,k % 256]) θ:=by
  simp [Zes,ZnY]
theorem Zhw {t:TMr} {body:SM} {n:Nat} {ρ:List Sl} {θ:Sto}:ZcJ t body (n+1) ρ θ=(t ρ θ).bind fun k θ=>if k=true then (body ρ θ).bind (Zfu (ZcJ t body n)) else .ok (.nx,ρ) θ:=rfl
abbrev ZtY:TMr:=ZK (mOp gtM (Zd 1) (mC (.int 65535)))
abbrev ZtZ:SM:=ZX 1 (mOp Z0 (mOp Zbq (Zd 1) (mC (.int 65536))) (mOp ZfK (Zd 1) (mC (.int 65536))))
theorem ZmV (t:Int) (x:Sl) (r:List Sl) (θ:Sto):ZtY (x::.val (.int t)::r) θ=.ok (decide (65535<t)) θ:=by simp
theorem Zrv (t:Int) (x:Sl) (r:List Sl) (θ:Sto):ZtZ (x::.val (.int t)::r) θ=.ok (.nx,x::.val (.int (t % 65536+t/65536))::r) θ:=by simp
theorem Zsj {t:Int} (n:Nat) (h0:0≤t) (h1:t<4294967296) (x:Sl) (r:List Sl) (θ:Sto):ZcJ ZtY ZtZ (n+3) (x::.val (.int t)::r) θ=.ok (.nx,x::.val (.int (ZaX t))::r) θ:=by
  rw [Zhw,ZmV,R.bind_ok]
  by_cases c1:65535<t
  · have s1:=Zjb c1
    rw [if_pos (by simpa using c1),Zrv,R.bind_ok,ZdM]
    have hu:t % 65536+t/65536≤131070:=by omega
    generalize t % 65536+t/65536=u at s1 hu
    rw [Zhw,ZmV,R.bind_ok]
    by_cases c2:65535<u
    · have s2:=Zjb c2
      rw [if_pos (by simpa using c2),Zrv,R.bind_ok,ZdM]
      have hv:u % 65536+u/65536≤65535:=by omega
      generalize u % 65536+u/65536=v at s2 hv
      rw [Zhw,ZmV,R.bind_ok,if_neg (by simp; omega),←s1.1,←s2.1,ZfJ s2.2.1 hv]
    · rw [if_neg (by simpa using c2),←s1.1,ZfJ s1.2.1 (by omega)]
  · rw [if_neg (by simpa using c1),ZfJ h0 (by omega)]
theorem ZiP {t:Int} (h0:0≤t) (h1:t<4294967296) (x:Sl) (r:List Sl) (θ:Sto):ZcJ (ZK (mOp gtM (Zd 1) (mC (.int 65535)))) (ZX 1 (mOp Z0 (mOp Zbq (Zd 1) (mC (.int 65536))) (mOp ZfK (Zd 1) (mC (.int 65536))))) 200 (x::.val (.int t)::r) θ=.ok (.nx,x::.val (.int (ZaX t))::r) θ:=Zsj 197 h0 h1 x r θ
def Byt (ns:List Int):Prop:=(∀z∈ns,0≤z∧z≤255)∧ns.length≤1000
theorem Zm3:∀{ns:List Int} {m:Nat},(∀z∈ns,0≤z∧z≤255)→ns.length≤2*m→zz ns≤65535*m
  | [],m,_,_=>by simp [zz]; omega
  | [a],m,h,hl=>by
    have:=h a (by simp)
    simp [zz] at hl ⊢
    omega
  | a::b::r,m,h,hl=>by
    have h1:=h a (by simp)
    have h2:=h b (by simp)
    obtain ⟨m,rfl⟩:∃k,m=k+1:=⟨m-1,by simp at hl; omega⟩
    have:=Zm3 (ns:=r) (m:=m) (fun z hz=>h z (by simp [hz])) (by simp at hl; omega)
    simp [zz]
    omega
theorem Byt.sum {ns:List Int} (h:Byt ns):0≤zz ns∧zz ns<4294967296:=by
  refine ⟨Zm2 fun z hz=>(h.1 z hz).1,?_⟩
  have:=Zm3 (m:=500) h.1 (by have:=h.2; omega)
  omega
theorem Zly {ns:List Int} (h:Byt ns) (θ:Sto):Zde [il ns] θ=.ok (.int (ZaX (zz ns))) θ:=by
  have l1:=Zjc ns
  have l2:=ZlK ns
  have l3:=h.2
  have hs:=h.sum
  have e:=Zm4 ns
  simp [Zde,Zit,Zgp,ZgC,Zfb,show (Zet ns).length≤100000 by omega,show (ZhS ns).length≤100000 by omega,e]
  rw [ZiP hs.1 hs.2]
  simp
theorem Zqm {ns:List Int} (h:Byt ns) (θ:Sto):ZeF [il ns] θ=.ok (.int (65535-ZaX (zz ns))) θ:=by
  simp [ZeF,Zil,Zly h]
theorem ZiL {ns:List Int} (h:Byt ns) (θ:Sto):ZcD [il ns] θ=.ok (.int (ZaX (zz ns))) θ:=by
  have hs:=h.sum
  have l3:=h.2
  let st:Nat→List Sl:=fun i=>[.val (il ns),.val (.int (wpre ns i)),if i=0 then .no else .val (.int ((i:Int)-1))]
  have loop:=Ztb (θ:=θ) (lo:=0) (n:=ns.length) (tg:=gNm 2) (body:=ZX 1 (mOp Z0 (Zd 1) (mOp ZbY (mOp ixM (Zd 0) (Zd 2)) (mOp ixM (Zb0 (Zc (mC (.int 256)) (Zc (mC (.int 1)) Zk))) (mOp Zbq (Zd 2) (mC (.int 2))))))) st ?_ (fun i hi=>⟨_,rfl⟩) rfl
  · have b1:(ns.length:Int)≤1000000:=by omega
    have b2 : -1000000≤(ns.length:Int):=by omega
    have b3:ns.length≤1000000:=by omega
    have l0:st 0=[.val (il ns),.val (.int 0),.no]:=rfl
    rw [l0] at loop
    simp [ZcD,Zix,Zgr,Zgq,ZeA,b1,b2,b3]
    simp at loop
    rw [loop]
    simp [st]
    rw [Zls,ZiP hs.1 hs.2]
    simp
  · intro i ρ1 hi e
    have e':ρ1=[.val (il ns),.val (.int (wpre ns i)),.val (.int (0+(i:Int)))]:=by
      simp [st] at e
      simp [←e]
    subst e'
    have g1:ixM (il ns) (.int (0+(i:Int))) θ=.ok (.int (ns.getD i 0)) θ:=by
      rw [Zcp (by omega) (by omega)]
      simp [gt]
    have g2:ixM (il [256,1]) (.int ((0+(i:Int)) % 2)) θ=.ok (.int (if i % 2=0 then 256 else 1)) θ:=by
      rw [Zcp (by omega) (by simp; omega)]
      by_cases q:i % 2=0
      · rw [show ((0+(i:Int)) % 2).toNat=0 by omega,if_pos q]; rfl
      · rw [show ((0+(i:Int)) % 2).toNat=1 by omega,if_neg q]; rfl
    have cm:Zfb (ns.getD i 0) (if i % 2=0 then 256 else 1):=.inr (by split<;>decide)
    simp only [Zv1,Zv2,Ztu,Zv3,Zqi,x_c,Ztw,List.getElem?_cons_succ,List.getElem?_cons_zero,R.bind_ok,g1]
    simp only [List.length_cons,List.length_nil,Zxh,Zvy,Znq,if_pos (show (0:Int)<2 by decide),R.bind_ok,g2,Zq9,if_pos cm,ZrX,if_pos (show 0+1+1≤100000 by decide)]
    simp [st,wpre]
end
end My
namespace My
open PySem L2 L2.MM
noncomputable section
structure Seg where
  src:Int
  goal:Int
  num:Int
  ans:Int
  flags:Int
  win:Int
  most:Int
  data:List Int
def Seg.d (s:Seg):D:=.tup [.int s.src,.int s.goal,.int s.num,.int s.ans,.int s.flags,.int s.win,.int s.most,itp s.data]
structure Seg.Ok (s:Seg):Prop where
  src:0≤s.src∧s.src≤65535
  goal:0≤s.goal∧s.goal≤65535
  num:0≤s.num∧s.num≤4294967295
  ans:0≤s.ans∧s.ans≤4294967295
  flags:0≤s.flags∧s.flags≤31
  win:0≤s.win∧s.win≤65535
  most:s.most=0∨(4≤s.most∧s.most≤65535∧s.flags/2 % 2=1)
  data:(∀z∈s.data,0≤z∧z≤255)∧s.data.length≤16
section
variable {s:Seg} {θ:Sto}
@[simp] theorem d0:ixM s.d (.int 0) θ=.ok (.int s.src) θ:=nr rfl
@[simp] theorem d1:ixM s.d (.int 1) θ=.ok (.int s.goal) θ:=nr rfl
@[simp] theorem d2:ixM s.d (.int 2) θ=.ok (.int s.num) θ:=nr rfl
@[simp] theorem d3:ixM s.d (.int 3) θ=.ok (.int s.ans) θ:=nr rfl
@[simp] theorem d4:ixM s.d (.int 4) θ=.ok (.int s.flags) θ:=nr rfl
@[simp] theorem d5:ixM s.d (.int 5) θ=.ok (.int s.win) θ:=nr rfl
@[simp] theorem d6:ixM s.d (.int 6) θ=.ok (.int s.most) θ:=nr rfl
@[simp] theorem d7:ixM s.d (.int 7) θ=.ok (itp s.data) θ:=nr rfl
end
def two (k:Int):List Int:=[k/256 % 256,k % 256]
def Zl4 (k:Int):List Int:=two (k/65536)++two k
def hd (s:Seg):Int:=if s.most=0 then 80 else 96
def Za1 (s:Seg):List Int:=two s.src++two s.goal++(Zl4 s.num++Zl4 s.ans)++[hd s,s.flags]++two s.win
def ZcV (m:Int):List Int:=if m=0 then [] else [2,4]++two m
def behind (s:Seg):List Int:=[0,0]++ZcV s.most++s.data
def putL (s:Seg):List Int:=Za1 s++two (65535-ZaX (zz (Za1 s++[0,0]++behind s)))++behind s
@[simp] theorem Zty (k:Int) (θ:Sto):zn [.int k] θ=.ok (il (two k)) θ:=by
  simp [zn,Zfz,two]
@[simp] theorem two_len (k:Int):(two k).length=2:=rfl
@[simp] theorem Zxf (k:Int):(Zl4 k).length=4:=rfl
@[simp] theorem ZvY (s:Seg):(Za1 s).length=16:=rfl
@[simp] theorem Zsi (k:Int) (θ:Sto):Zbp [.int k] θ=.ok (il (Zl4 k)) θ:=by
  simp [Zbp,Ze5,Zl4]
@[simp] theorem Zqr (k:Int) (θ:Sto):zT [.int k] θ=.ok (.int (16*(k/4))) θ:=by
  simp [zT,Zd1,Zfb]
@[simp] theorem ZoN (k:Int) (θ:Sto):Za5 [.int k] θ=.ok (il (ZcV k)) θ:=by
  by_cases h:k=0<;>simp [Za5,ZdD,ZcV,h,Zb3]
@[simp] theorem ZxJ (s:Seg) (θ:Sto):zS [s.d] θ=.ok (il (Za1 s)) θ:=by
  by_cases h:s.most=0<;>simp [zS,Zcb,Za1,hd,h]
theorem Zi2 (m:Int):(ZcV m).length≤4:=by unfold ZcV; split<;>simp
theorem Zei (k:Int):∀z∈two k,0≤z∧z≤255:=by
  intro z hz
  simp [two] at hz
  rcases hz with rfl | rfl<;>omega
theorem Zml (k:Int):∀z∈Zl4 k,0≤z∧z≤255:=by
  intro z hz
  rcases List.mem_append.mp hz with h | h
  · exact Zei _ z h
  · exact Zei _ z h
theorem ZbG {a b:List Int} (h1:∀z∈a,0≤z∧z≤255) (h2:∀z∈b,0≤z∧z≤255):∀z∈a++b,0≤z∧z≤255:=fun z hz=>(List.mem_append.mp hz).elim (h1 z) (h2 z)
theorem Zje {s:Seg} (h:0≤s.flags∧s.flags≤255):∀z∈Za1 s,0≤z∧z≤255:=by
  refine ZbG (ZbG (ZbG (ZbG (Zei _) (Zei _)) (ZbG (Zml _) (Zml _))) ?_) (Zei _)
  intro z hz
  simp at hz
  rcases hz with rfl | rfl
  · unfold hd; split<;>omega
  · exact h
theorem ZrP (m:Int):∀z∈ZcV m,0≤z∧z≤255:=by
  unfold ZcV
  split
  · intro z hz; simp at hz
  · refine ZbG ?_ (Zei _)
    intro z hz
    simp at hz
    omega
theorem Zii {s:Seg} (h:∀z∈s.data,0≤z∧z≤255):∀z∈behind s,0≤z∧z≤255:=by
  refine ZbG (ZbG ?_ (ZrP _)) h
  intro z hz
  simp at hz
  omega
theorem Zej (s:Seg):(behind s).length≤6+s.data.length:=by
  have:=Zi2 s.most
  simp [behind]
  omega
structure Seg.Put (s:Seg):Prop where
  flags:0≤s.flags∧s.flags≤255
  data:(∀z∈s.data,0≤z∧z≤255)∧s.data.length≤100
theorem Seg.Ok.put {s:Seg} (h:s.Ok):s.Put:=⟨⟨h.flags.1,by have:=h.flags.2; omega⟩,h.data.1,by have:=h.data.2; omega⟩
theorem Seg.Put.byt {s:Seg} (h:s.Put):Byt (Za1 s++[0,0]++behind s):=by
  refine ⟨ZbG (ZbG (Zje h.flags) ?_) (Zii h.data.1),?_⟩
  · intro z hz
    simp at hz
    omega
  · have:=Zej s
    have:=h.data.2
    simp
    omega
theorem Zwd {s:Seg} (h:s.Put) (θ:Sto):ZlJ [s.d] θ=.ok (il (putL s)) θ:=by
  have b:=h.byt
  have l1:=Zi2 s.most
  have l2:=h.data.2
  have l3:=Zej s
  have e1:0::0::(ZcV s.most++s.data)=behind s:=rfl
  have e2:=Zqm b θ
  simp only [List.append_assoc,List.cons_append,List.nil_append] at e2
  simp (disch:=first | done | (simp; done) | omega | (simp; omega)) [ZlJ,ZnW,ZjP,-Zro,e1,e2]
  simp [putL,show 18+(behind s).length≤100000 by omega]
theorem ZhF {a b c:List Int} (ha:a.length % 2=0) (hb:b.length % 2=0):zz (a++b++c)=zz a+zz b+zz c:=by
  rw [ZhG (by rw [List.length_append]; omega),ZhG ha]
theorem ZqA {s:Seg} (h:s.Put):ZaX (zz (putL s))=65535:=by
  have b:=h.byt
  have w0:=b.sum
  have e1:zz (putL s)=zz (Za1 s)+zz (two (65535-ZaX (zz (Za1 s++[0,0]++behind s))))+zz (behind s):=ZhF (by simp) (by simp)
  have e2:zz (Za1 s++[0,0]++behind s)=zz (Za1 s)+zz [0,0]+zz (behind s):=ZhF (by simp) (by simp)
  have e3:zz [0,0]=0:=by simp [zz]
  have f:=ZnM w0.1
  have e4:zz (two (65535-ZaX (zz (Za1 s++[0,0]++behind s))))=256*((65535-ZaX (zz (Za1 s++[0,0]++behind s)))/256)+(65535-ZaX (zz (Za1 s++[0,0]++behind s))) % 256:=by
    have:=f.2.1
    have:=f.1
    simp only [zz,two]
    omega
  have c:=ZmU w0.1
  rw [e1,e4]
  rw [e3] at e2
  have:zz (Za1 s)+(256*((65535-ZaX (zz (Za1 s++[0,0]++behind s)))/256)+(65535-ZaX (zz (Za1 s++[0,0]++behind s))) % 256)+zz (behind s)=zz (Za1 s++[0,0]++behind s)+(256*((65535-ZaX (zz (Za1 s++[0,0]++behind s)))/256)+(65535-ZaX (zz (Za1 s++[0,0]++behind s))) % 256):=by omega
  rw [this]
  exact c
theorem Znl {s:Seg} (h:s.Put):Byt (putL s):=by
  refine ⟨ZbG (ZbG (Zje h.flags) (Zei _)) (Zii h.data.1),?_⟩
  have:=Zej s
  have:=h.data.2
  simp [putL]
  omega
theorem Znk {s:Seg}:(putL s).length=(if s.most=0 then 20 else 24)+s.data.length:=by
  unfold putL behind ZcV
  by_cases h:s.most=0<;>simp [h]<;>omega
theorem ZmD (s:Seg):∃x y,putL s=[s.src/256 % 256,s.src % 256,s.goal/256 % 256,s.goal % 256,s.num/65536/256 % 256,s.num/65536 % 256,s.num/256 % 256,s.num % 256,
    s.ans/65536/256 % 256,s.ans/65536 % 256,s.ans/256 % 256,s.ans % 256,hd s,s.flags,s.win/256 % 256,s.win % 256,x,y,0,0]++(ZcV s.most++s.data):=⟨_,_,rfl⟩
@[simp] theorem Zcz {a:List Int} {i:Int} (h0:0≤i) (h:i+1<a.length) (θ:Sto):Zaf [il a,.int i] θ=.ok (.int (256*gt a i.toNat+gt a (i+1).toNat)) θ:=by
  simp [Zaf,Zik,Zcp (θ:=θ) h0 (show i<a.length by omega),Zcp (θ:=θ) (show 0≤i+1 by omega) h,Zfb]
@[simp] theorem ZiO {a:List Int} {i:Int} (h0:0≤i) (h:i+3<a.length) (θ:Sto):Zc4 [il a,.int i] θ=.ok (.int (65536*(256*gt a i.toNat+gt a (i+1).toNat)+(256*gt a (i+2).toNat+gt a (i+2+1).toNat))) θ:=by
  simp [Zc4,Zhb,Zcz (θ:=θ) h0 (show i+1<a.length by omega),Zcz (θ:=θ) (show 0≤i+2 by omega) (show i+2+1<a.length by omega),Zfb]
@[simp] theorem ZiM {a:List Int} (h:12<a.length) (θ:Sto):Zbo [il a] θ=.ok (.int (gt a 12/16*4)) θ:=by
  have:=Zcp (a:=a) (θ:=θ) (i:=12) (by decide) (by omega)
  simp [Zbo,Zha,this,Zfb]
def bit (f k:Int):Int:=if Builtin.bitAnd f k=0 then 0 else 1
@[simp] theorem ZBx (f k:Int) (θ:Sto):Zfs [.int f,.int k] θ=.ok (.int (bit f k)) θ:=by
  by_cases h:Builtin.bitAnd f k=0<;>simp [Zfs,ZnX,bit,h]
theorem Ztl:∀n:Fin 32,bit (n.val:Int) 1=(n.val:Int) % 2∧bit (n.val:Int) 2=(n.val:Int)/2 % 2∧bit (n.val:Int) 4=(n.val:Int)/4 % 2∧bit (n.val:Int) 8=(n.val:Int)/8 % 2∧bit (n.val:Int) 16=(n.val:Int)/16 % 2:=by decide
theorem ZrR {f:Int} (h:0≤f∧f≤31):bit f 1=f % 2∧bit f 2=f/2 % 2∧bit f 4=f/4 % 2∧bit f 8=f/8 % 2∧bit f 16=f/16 % 2:=by
  have:=Ztl ⟨f.toNat,by omega⟩
  simp only at this
  rw [show ((f.toNat:Nat):Int)=f by omega] at this
  exact this
theorem Zqp (s:Seg) (θ:Sto):ZcB [s.d] θ=.ok (.int (s.data.length+bit s.flags 2+bit s.flags 1)) θ:=by
  simp [ZcB,Ziq]
def at2 (a:List Int) (i:Nat):Int:=256*gt a i+gt a (i+1)
def at4 (a:List Int) (i:Nat):Int:=65536*at2 a i+at2 a (i+2)
def longOk (a:List Int):Bool:=decide (bit (gt a 13) 2=1) && (decide (gt a 20=2) && (decide (gt a 21=4) && decide (4≤at2 a 22)))
def Zbl (a:List Int):Int:=gt a 12/16*4
def Zas (a:List Int):Bool:=decide (20≤a.length) && (decide (gt a 12=80∨gt a 12=96) && (decide (gt a 13≤31) && (decide (0≤(a.length:Int)-Zbl a∧(a.length:Int)-Zbl a≤16) &&
  (decide (at2 a 18=0) && ((decide (Zbl a=20) || longOk a) && decide (ZaX (zz a)=65535))))))
theorem Zuh {a:List Int} (h:24≤a.length) (θ:Sto):zR [il a] θ=.ok (.bl (longOk a)) θ:=by
  have g:=fun (i:Int) (h0:0≤i) (h1:i<a.length)=>Zcp (a:=a) (θ:=θ) (i:=i) h0 h1
  have g13:=g 13 (by decide) (by omega)
  have g20:=g 20 (by decide) (by omega)
  have g21:=g 21 (by decide) (by omega)
  have g22:=Zcz (a:=a) (i:=22) (by decide) (by omega) θ
  simp only [show (13:Int).toNat=13 from rfl,show (20:Int).toNat=20 from rfl,show (21:Int).toNat=21 from rfl,show (22:Int).toNat=22 from rfl,show (22+1:Int).toNat=23 from rfl] at g13 g20 g21 g22
  unfold longOk at2
  simp [zR,Zb8,g13,g20,g21,g22]
theorem Zs5 (x y z:Int) (θ:Sto):inM (.int x) (.tup [.int y,.int z]) θ=.ok (.bl (decide (x=y∨x=z))) θ:=by
  have e:inD θ (.int x) (.tup [.int y,.int z])=some (decide (y=x) || (decide (z=x) || false)):=rfl
  have e2:(decide (y=x) || (decide (z=x) || false))=decide (x=y∨x=z):=by
    rw [Bool.eq_iff_iff]
    simp only [Bool.or_eq_true,decide_eq_true_eq,Bool.false_eq_true,or_false]
    constructor
    · rintro (h | h)
      · exact .inl h.symm
      · exact .inr h.symm
    · rintro (h | h)
      · exact .inl h.symm
      · exact .inr h.symm
  unfold inM
  rw [e,e2]
theorem Zc7 {a:List Int} (h:Byt a) (θ:Sto):Zah [il a] θ=.ok (.bl (Zas a)) θ:=by
  by_cases c1:20≤a.length
  · have g:=fun (i:Int) (h0:0≤i) (h1:i<a.length)=>Zcp (a:=a) (θ:=θ) (i:=i) h0 h1
    have g12:=g 12 (by decide) (by omega)
    have g13:=g 13 (by decide) (by omega)
    have g18:=Zcz (a:=a) (i:=18) (by decide) (by omega) θ
    have gh:=ZiM (a:=a) (by omega) θ
    have gf:=Zly h θ
    have c1':(20:Int)≤a.length:=by omega
    simp only [show (12:Int).toNat=12 from rfl,show (13:Int).toNat=13 from rfl,show (18:Int).toNat=18 from rfl,show (18+1:Int).toNat=19 from rfl] at g12 g13 g18
    by_cases c2:gt a 12=80
    · rw [c2] at g12 gh
      simp [Zah,Zbt,Zas,Zbl,at2,c1,c1',g12,g13,g18,gh,gf,Zs5,c2]<;>rfl
    · by_cases c3:gt a 12=96
      · rw [c3] at g12 gh
        by_cases c4:24≤a.length
        · have gl:=Zuh c4 θ
          simp [Zah,Zbt,Zas,Zbl,at2,c1,c1',g12,g13,g18,gh,gf,Zs5,c3,gl]<;>rfl
        · have c5:¬(24:Int)≤(a.length:Int):=by omega
          simp [Zah,Zbt,Zas,Zbl,at2,c1,c1',g12,g13,g18,gh,gf,Zs5,c3,c5]<;>rfl
      · simp [Zah,Zbt,Zas,Zbl,at2,c1,c1',g12,g13,g18,gh,gf,Zs5,c2,c3]
  · have c1':¬(20:Int)≤a.length:=by omega
    simp [Zah,Zbt,Zas,c1,c1']
def Zby (a:List Int):Seg:=⟨at2 a 0,at2 a 2,at4 a 4,at4 a 8,gt a 13,at2 a 14,if Zbl a=24 then at2 a 22 else 0,a.drop (Zbl a).toNat⟩
theorem Zg6 {a:List Int} (h:Zas a=true):20≤a.length∧((Zbl a=20)∨(Zbl a=24∧24≤a.length∧longOk a=true))∧(a.length:Int)-Zbl a≤16∧gt a 13≤31:=by
  unfold Zas at h
  simp only [Bool.and_eq_true,decide_eq_true_eq,Bool.or_eq_true] at h
  obtain ⟨h1,h2,h3,h4,h5,h6,h7⟩:=h
  refine ⟨h1,?_,h4.2,h3⟩
  rcases h2 with h2 | h2
  · left; unfold Zbl; rw [h2]; rfl
  · right
    have e:Zbl a=24:=by unfold Zbl; rw [h2]; rfl
    refine ⟨e,by have:=h4.1; rw [e] at this; omega,?_⟩
    rcases h6 with h6 | h6
    · rw [e] at h6; cases h6
    · exact h6
theorem Zm9 {a:List Int} (h:Byt a) (hr:Zas a=true) (θ:Sto):ZiW [il a] θ=.ok (Zby a).d θ:=by
  obtain ⟨l1,l2,l3,l4⟩:=Zg6 hr
  have ir:=Zc7 h θ
  rw [hr] at ir
  have gh:=ZiM (a:=a) (by omega) θ
  have g13:=Zcp (a:=a) (θ:=θ) (i:=13) (by decide) (by omega)
  have q0:=Zcz (a:=a) (i:=0) (by decide) (by omega) θ
  have q2:=Zcz (a:=a) (i:=2) (by decide) (by omega) θ
  have q14:=Zcz (a:=a) (i:=14) (by decide) (by omega) θ
  have q4:=ZiO (a:=a) (i:=4) (by decide) (by omega) θ
  have q8:=ZiO (a:=a) (i:=8) (by decide) (by omega) θ
  simp only [show (13:Int).toNat=13 from rfl,show (0:Int).toNat=0 from rfl,show (0+1:Int).toNat=1 from rfl,show (2:Int).toNat=2 from rfl,show (2+1:Int).toNat=3 from rfl,show (14:Int).toNat=14 from rfl,show (14+1:Int).toNat=15 from rfl,
    show (4:Int).toNat=4 from rfl,show (4+1:Int).toNat=5 from rfl,show (4+2:Int).toNat=6 from rfl,show (4+2+1:Int).toNat=7 from rfl,show (8:Int).toNat=8 from rfl,show (8+1:Int).toNat=9 from rfl,show (8+2:Int).toNat=10 from rfl,show (8+2+1:Int).toNat=11 from rfl] at g13 q0 q2 q14 q4 q8
  have gh':Zbo [il a] θ=.ok (.int (Zbl a)) θ:=gh
  have ps:∀x:Int,0≤x→Zbg a (some x) none=a.drop x.toNat:=fun x hx=>Zb6 a hx
  rcases l2 with e | ⟨e,l5,_⟩
  · simp [ZiW,Zj1,ZgR,ir,gh',e,g13,q0,q2,q4,q8,q14,ps,Zby,Seg.d,at2,at4]
  · have q22:=Zcz (a:=a) (i:=22) (by decide) (by omega) θ
    simp only [show (22:Int).toNat=22 from rfl,show (22+1:Int).toNat=23 from rfl] at q22
    simp [ZiW,Zj1,ZgR,ir,gh',e,g13,q0,q2,q4,q8,q14,q22,ps,Zby,Seg.d,at2,at4]
end
end My
namespace My
open PySem L2 L2.MM
noncomputable section
theorem Zqz (s:Seg):gt (putL s) 12=hd s∧gt (putL s) 13=s.flags∧at2 (putL s) 18=0∧at2 (putL s) 0=256*(s.src/256 % 256)+s.src % 256∧at2 (putL s) 2=256*(s.goal/256 % 256)+s.goal % 256∧
    at4 (putL s) 4=65536*(256*(s.num/65536/256 % 256)+s.num/65536 % 256)+(256*(s.num/256 % 256)+s.num % 256)∧at4 (putL s) 8=65536*(256*(s.ans/65536/256 % 256)+s.ans/65536 % 256)+(256*(s.ans/256 % 256)+s.ans % 256)∧
    at2 (putL s) 14=256*(s.win/256 % 256)+s.win % 256:=by
  obtain ⟨x,y,e⟩:=ZmD s
  rw [e]
  unfold at4 at2
  refine ⟨rfl,rfl,?_,rfl,rfl,rfl,rfl,rfl⟩
  show 256*(0:Int)+0=0
  rfl
theorem ZlH (s:Seg) (h:s.most≠0):gt (putL s) 20=2∧gt (putL s) 21=4∧at2 (putL s) 22=256*(s.most/256 % 256)+s.most % 256:=by
  obtain ⟨x,y,e⟩:=ZmD s
  have e2:ZcV s.most=[2,4,s.most/256 % 256,s.most % 256]:=by unfold ZcV; rw [if_neg h]; rfl
  rw [e,e2]
  unfold at2
  exact ⟨rfl,rfl,rfl⟩
theorem ZiT {s:Seg} (h:s.Ok):Zas (putL s)=true:=by
  obtain ⟨g12,g13,g18,_⟩:=Zqz s
  have hl:=Znk (s:=s)
  have hd':=h.data.2
  have hf:=ZqA h.put
  have hw:=h.flags
  unfold Zas longOk Zbl
  simp only [Bool.and_eq_true,decide_eq_true_eq,Bool.or_eq_true]
  rw [g12,g13,g18,hf,hl]
  by_cases m:s.most=0
  · have e:hd s=80:=if_pos m
    rw [e,if_pos m]
    simp
    omega
  · have e:hd s=96:=if_neg m
    obtain ⟨p1,p2,p3⟩:=ZlH s m
    have hm:4≤s.most∧s.most≤65535∧s.flags/2 % 2=1:=h.most.resolve_left m
    have hb:=(ZrR h.flags).2.1
    rw [e,if_neg m,p1,p2,p3,hb]
    simp
    omega
theorem ZrA (s:Seg):(putL s).drop (if s.most=0 then 20 else 24)=s.data:=by
  obtain ⟨x,y,e⟩:=ZmD s
  rw [e]
  by_cases m:s.most=0
  · rw [if_pos m]
    simp [ZcV,m]
  · rw [if_neg m]
    simp [ZcV,m,two]
theorem ZnL {s:Seg} (h:s.Ok):Zby (putL s)=s:=by
  obtain ⟨g12,g13,g18,g0,g2,g4,g8,g14⟩:=Zqz s
  have e0:=ZrA s
  obtain ⟨⟨a1,a2⟩,⟨b1,b2⟩,⟨c1,c2⟩,⟨d1,d2⟩,_,⟨f1,f2⟩,hm,_⟩:=h
  unfold Zby Zbl
  rw [g12,g13,g0,g2,g4,g8,g14]
  obtain ⟨src,goal,num,ans,flags,win,most,data⟩:=s
  simp only at *
  by_cases m:most=0
  · subst m
    have e:hd ⟨src,goal,num,ans,flags,win,0,data⟩=80:=rfl
    rw [e]
    simp only [if_true] at e0
    simp [e0]
    omega
  · have e:hd ⟨src,goal,num,ans,flags,win,most,data⟩=96:=if_neg m
    obtain ⟨_,_,p3⟩:=ZlH ⟨src,goal,num,ans,flags,win,most,data⟩ m
    simp only at p3
    rw [e,p3]
    rw [if_neg m] at e0
    simp [e0]
    have:=hm.resolve_left m
    omega
@[simp] theorem ZA6 {s:Seg} {θ:Sto}:ZfF θ s.d (some 2) (some 4)=some (.tup [.int s.num,.int s.ans]):=nr rfl
theorem two_small {k:Int} (h0:0≤k) (h:k≤65535):[k/256,k % 256]=two k:=by
  unfold two
  rw [show k/256 % 256=k/256 by omega]
theorem Zid {k:Int} (h0:0≤k) (h:k≤4294967295):[k/65536/256,k/65536 % 256,k % 65536/256,k % 256]=Zl4 k:=by
  unfold Zl4 two
  rw [show k/65536/256 % 256=k/65536/256 by omega,show k % 65536/256=k/256 % 256 by omega]
  rfl
def ZcA (s:Seg):List Int:=[s.src/256,s.src % 256,s.goal/256,s.goal % 256,s.num/65536/256,s.num/65536 % 256,s.num % 65536/256,s.num % 256,s.ans/65536/256,s.ans/65536 % 256,s.ans % 65536/256,s.ans % 256,
  hd s,s.flags,s.win/256,s.win % 256,0,0,0,0]++((if s.most=0 then [] else [2,4,s.most/256,s.most % 256])++s.data)
theorem ZqH {s:Seg} (h:s.Ok):ZcA s=Za1 s++[0,0]++behind s:=by
  obtain ⟨⟨a1,a2⟩,⟨b1,b2⟩,⟨c1,c2⟩,⟨d1,d2⟩,⟨f1,f2⟩,⟨w1,w2⟩,hm,hd1,hd2⟩:=id h
  have e1:=two_small a1 a2
  have e2:=two_small b1 b2
  have e3:=Zid c1 c2
  have e4:=Zid d1 d2
  have e5:=two_small w1 w2
  have e6:(if s.most=0 then [] else [2,4,s.most/256,s.most % 256])=ZcV s.most:=by
    unfold ZcV
    by_cases m:s.most=0
    · rw [if_pos m,if_pos m]
    · rw [if_neg m,if_neg m]
      have:=hm.resolve_left m
      rw [←two_small (k:=s.most) (by omega) (by omega)]
      rfl
  unfold ZcA Za1 behind
  rw [e6,←e1,←e2,←e3,←e4,←e5]
  rfl
theorem ZsD {s:Seg} (h:s.Ok):(ZcA s).take 16++two (65535-ZaX (zz (ZcA s)))++(ZcA s).drop 18=putL s:=by
  rw [ZqH h]
  have e1:(Za1 s++[0,0]++behind s).take 16=Za1 s:=by
    rw [List.append_assoc,List.take_append_of_le_length (by simp),List.take_of_length_le (by simp)]
  have e2:(Za1 s++[0,0]++behind s).drop 18=behind s:=by
    have:(Za1 s++[0,0]).length=18:=by simp
    rw [←this,List.drop_left]
  rw [e1,e2]
  rfl
theorem ZiC {s:Seg} (h:s.Ok) (θ:Sto) (x y:Sl):ZL (mOp Z0 (mOp Z0 (mSl (Zd 1) Za2 (ZbF (mC (.int 16)))) (mCB Zes (Zc (mOp Zgz (mC (.int 65535)) (mCB ZcD (Zc (Zd 1) Zk))) Zk))) (mSl (Zd 1) (ZbF (mC (.int 18))) Za2)) [x,.val (il (ZcA s)),y] θ
    = .ok (.rt (il (putL s)),[x,.val (il (ZcA s)),y]) θ:=by
  have pe:=ZqH h
  have bp:=h.put.byt
  rw [←pe] at bp
  have lf:=ZiL bp θ
  have hs:=ZnM bp.sum.1
  have hl:(ZcA s).length≤100:=by
    have:=Zej s
    have:=h.data.2
    rw [pe]
    simp
    omega
  have fin:=ZsD h
  have tw:[(65535-ZaX (zz (ZcA s)))/256,(65535-ZaX (zz (ZcA s))) % 256]=two (65535-ZaX (zz (ZcA s))):=two_small (by omega) (by omega)
  have k1:Zbg (ZcA s) none (some 16)=(ZcA s).take 16:=Zeh _ (by decide)
  have k2:Zbg (ZcA s) (some 18) none=(ZcA s).drop 18:=Zb6 _ (by decide)
  have fs:Z0 (il ((ZcA s).take 16)) (il (two (65535-ZaX (zz (ZcA s))))) θ=.ok (il ((ZcA s).take 16++two (65535-ZaX (zz (ZcA s))))) θ:=ZjP (by simp; omega)
  have fs2:Z0 (il ((ZcA s).take 16++two (65535-ZaX (zz (ZcA s))))) (il ((ZcA s).drop 18)) θ=.ok (il (putL s)) θ:=by
    rw [ZjP (by simp; omega),fin]
  simp only [Zqf,Zv2,ZzY,Ztu,ZAb,Zqi,Ztw,Zqg,Zt4,x_c,R.bind_ok,List.getElem?_cons_succ,List.getElem?_cons_zero,ZnJ,k1,k2,lf,Znq,if_true,Zwc,tw,fs,fs2]
theorem ZfR {s:Seg} (h:s.Ok) (θ:Sto):Zcw [s.d] θ=.ok (il (putL s)) θ:=by
  have tail:=ZiC h θ
  have dl:=h.data.2
  by_cases m:s.most=0
  · have g:ixM (il [80,96]) (.int 0) θ=.ok (.int 80) θ:=rfl
    have e0:hd s=80:=if_pos m
    have pl:[s.src/256,s.src % 256,s.goal/256,s.goal % 256,s.num/65536/256,s.num/65536 % 256,s.num % 65536/256,s.num % 256,s.ans/65536/256,s.ans/65536 % 256,s.ans % 65536/256,s.ans % 256,
      80,s.flags,s.win/256,s.win % 256,0,0,0,0]++s.data=ZcA s:=by unfold ZcA; rw [if_pos m,e0]; rfl
    simp only [List.cons_append,List.nil_append] at pl
    simp [Zcw,ZgU,Zfa,Ze9,ZeA,ZcP,m,g,pl,-Zqf,tail,show s.data.length+20≤100000 by omega,show 20+s.data.length≤100000 by omega]
  · have g:ixM (il [80,96]) (.int 1) θ=.ok (.int 96) θ:=rfl
    have e0:hd s=96:=if_neg m
    have mg:(0:Int)<s.most:=by have:=h.most.resolve_left m; omega
    have pl:[s.src/256,s.src % 256,s.goal/256,s.goal % 256,s.num/65536/256,s.num/65536 % 256,s.num % 65536/256,s.num % 256,s.ans/65536/256,s.ans/65536 % 256,s.ans % 65536/256,s.ans % 256,
      96,s.flags,s.win/256,s.win % 256,0,0,0,0,2,4,s.most/256,s.most % 256]++s.data=ZcA s:=by unfold ZcA; rw [if_neg m,e0]; rfl
    simp only [List.cons_append,List.nil_append] at pl
    simp [Zcw,ZgU,Zfa,Ze9,ZeA,ZcP,mg,g,pl,-Zqf,tail,show s.data.length+24≤100000 by omega,show 24+s.data.length≤100000 by omega]
end
end My
namespace My
open PySem L2 L2.MM
noncomputable section
def ZfA:SM:=(ZH ["Pile"] "row" (Zd 0) (Zb0 Zk))
def ZbP:GM:=ZO 1 1 ZfA
def Zin:SM:=(ZL (mOp Zgz (mC (.int 64)) (mCB Zdr (Zc (ZI ["Pile"] "row" (Zd 0)) Zk))))
def Zd8:GM:=ZO 1 1 Zin
def Zmn:SM:=(ZL (mOp Zbq (mOp Z0 (Zd 0) (Zd 1)) (mC (.int 4294967296))))
def zr:GM:=ZO 2 2 Zmn
def Zip:SM:=(ZL (mOp Zgz (mOp Zbq (mOp Z0 (mOp Zgz (Zd 0) (Zd 1)) (mC (.int 2147483648))) (mC (.int 4294967296))) (mC (.int 2147483648))))
def zF:GM:=ZO 2 2 Zip
def Zep:SM:=(Zs (ZH ["End"] "ours" (Zd 0) (Zd 1))
  (Zs (ZH ["End"] "theirs" (Zd 0) (Zd 2))
  (Zs (ZH ["End"] "state" (Zd 0) (Zf9 (zL (Zd 4)) (mC (.str "syn sent")) (mC (.str "listen"))))
  (Zs (ZH ["End"] "error" (Zd 0) (mC (.str "")))
  (Zs (ZH ["End"] "first" (Zd 0) (Zd 3))
  (Zs (ZH ["End"] "una" (Zd 0) (Zd 3))
  (Zs (ZH ["End"] "nxt" (Zd 0) (Zd 3))
  (Zs (ZH ["End"] "rcv" (Zd 0) (mC (.int 0)))
  (Zs (ZH ["End"] "wnd" (Zd 0) (mC (.int 0)))
  (Zs (ZH ["End"] "told" (Zd 0) (mC (.int 0)))
  (Zs (ZH ["End"] "told_by" (Zd 0) (mC (.int 0)))
  (Zs (ZH ["End"] "most" (Zd 0) (mC (.int 12)))
  (Zs (ZH ["End"] "written" (Zd 0) (mCB (mkG "Pile" ZbP) Zk))
  (Zs (ZH ["End"] "come" (Zd 0) (mCB (mkG "Pile" ZbP) Zk))
  (Zs (ZH ["End"] "early" (Zd 0) ZmP)
  (Zs (ZH ["End"] "early_fin" (Zd 0) (mC .non))
  (Zs (ZH ["End"] "has_closed" (Zd 0) (mC (.bl false)))
  (Zs (ZH ["End"] "behind" (Zd 0) (mCB zr (Zc (Zd 3) (Zc (mC (.int 1)) Zk))))
  (Zs (ZH ["End"] "owed_reset" (Zd 0) (mC .non))
  (Zs (ZH ["End"] "owes_syn" (Zd 0) (mC (.bl false)))
  (Zs (ZH ["End"] "owes_answer" (Zd 0) (mC (.bl false)))
  (Zs (ZH ["End"] "probes" (Zd 0) (mC (.bl false)))
  (Zs (ZH ["End"] "since" (Zd 0) (mC (.int 0)))
  (Zs (ZH ["End"] "wait" (Zd 0) (mC (.int 1000)))
  (ZH ["End"] "tries" (Zd 0) (mC (.int 0)))))))))))))))))))))))))))
def Zcm:GM:=ZO 5 5 Zep
def Zev:SM:=(Zs (ZH ["End"] "since" (Zd 0) (Zd 1))
  (Zs (ZH ["End"] "wait" (Zd 0) (mC (.int 1000)))
  (ZH ["End"] "tries" (Zd 0) (mC (.int 0)))))
def zd:GM:=ZO 2 2 Zev
def Zjj:SM:=(ZL (ZI ["End"] "state" (Zd 0)))
def ZfY:GM:=ZO 1 1 Zjj
def Zjk:SM:=(ZL (ZI ["End"] "error" (Zd 0)))
def Zf0:GM:=ZO 1 1 Zjk
def ZeZ:SM:=(ZL (mCB Zd8 (Zc (ZI ["End"] "come" (Zd 0)) Zk)))
def zP:GM:=ZO 1 1 ZeZ
def ZdX:SM:=(ZL (mCB ZlU (Zc (ZI ["End"] "most" (Zd 0)) (Zc (mC (.int 16)) Zk))))
def Zag:GM:=ZO 1 1 ZdX
def ZeX:SM:=(mIf (ZK (mOp eqM (ZI ["End"] "state" (Zd 0)) (mC (.str "syn sent")))) (ZL (ZaO (Zc (ZI ["End"] "ours" (Zd 0)) (Zc (ZI ["End"] "theirs" (Zd 0)) (Zc (ZI ["End"] "first" (Zd 0)) (Zc (mC (.int 0)) (Zc (mC (.int 2)) (Zc (mC (.int 64)) (Zc (mC (.int 16)) (Zc (ZaO Zk) Zk)))))))))) ZM)
def Zgl:SM:=(Zs (ZH ["End"] "owes_syn" (Zd 0) (mC (.bl false)))
  (Zs ZeX
  (ZL (ZaO (Zc (ZI ["End"] "ours" (Zd 0)) (Zc (ZI ["End"] "theirs" (Zd 0)) (Zc (ZI ["End"] "first" (Zd 0)) (Zc (ZI ["End"] "rcv" (Zd 0)) (Zc (mOp Z0 (mC (.int 2)) (mC (.int 16))) (Zc (mC (.int 64)) (Zc (mC (.int 16)) (Zc (ZaO Zk) Zk))))))))))))
def ZbJ:GM:=ZO 1 1 Zgl
def ZeV:SM:=(ZL (ZaO (Zc (ZI ["End"] "ours" (Zd 0)) (Zc (ZI ["End"] "theirs" (Zd 0)) (Zc (Zd 1) (Zc (ZI ["End"] "rcv" (Zd 0)) (Zc (mOp Z0 (Zd 2) (mC (.int 16))) (Zc (mCB zP (Zc (Zd 0) Zk)) (Zc (mC (.int 0)) (Zc (mCB ZfE (Zc (Zd 3) Zk)) Zk))))))))))
def zE:GM:=ZO 4 4 ZeV
def ZcI:SM:=(mIf (ZK (mOp eqM (ZI ["End"] "tries" (Zd 0)) (mC (.int 6)))) (Zs (ZH ["End"] "state" (Zd 0) (mC (.str "closed")))
    (Zs (ZH ["End"] "error" (Zd 0) (mC (.str "time")))
    (ZL (mC .non)))) ZM)
def ZdE:SM:=(mIf (ZK (mOp inM (ZI ["End"] "state" (Zd 0)) (ZaO (Zc (mC (.str "syn sent")) (Zc (mC (.str "syn come")) Zk))))) (ZL (mCB ZbJ (Zc (Zd 0) Zk))) ZM)
def Zd2:SM:=(Zs ZcI
  (Zs (ZH ["End"] "tries" (Zd 0) (mOp Z0 (ZI ["End"] "tries" (Zd 0)) (mC (.int 1))))
  (Zs (ZH ["End"] "wait" (Zd 0) (mCB ZlU (Zc (mOp ZbY (mC (.int 2)) (ZI ["End"] "wait" (Zd 0))) (Zc (mC (.int 16000)) Zk))))
  (Zs (ZH ["End"] "since" (Zd 0) (Zd 1))
  (Zs ZdE
  (Zs (ZX 2 (mSl (ZI ["Pile"] "row" (ZI ["End"] "written" (Zd 0))) Za2 (ZbF (mCB ZlU (Zc (mCB zF (Zc (ZI ["End"] "nxt" (Zd 0)) (Zc (ZI ["End"] "una" (Zd 0)) Zk))) (Zc (mCB Zag (Zc (Zd 0) Zk)) Zk))))))
  (ZL (mCB zE (Zc (Zd 0) (Zc (ZI ["End"] "una" (Zd 0)) (Zc (Zf9 (ZK (mOp gtM (mCB Zdr (Zc (Zd 2) Zk)) (mC (.int 0)))) (mC (.int 0)) (mC (.int 1))) (Zc (Zd 2) Zk))))))))))))
def Zdv:GM:=ZO 2 3 Zd2
def Zbb:SM:=(mIf (Zdg (zL (ZI ["End"] "owes_answer" (Zd 0)))) (ZL (mC .non)) ZM)
def ZbA:SM:=(Zs Zbb
  (Zs (ZH ["End"] "owes_answer" (Zd 0) (mC (.bl false)))
  (ZL (mCB zE (Zc (Zd 0) (Zc (ZI ["End"] "nxt" (Zd 0)) (Zc (mC (.int 0)) (Zc (Zb0 Zk) Zk))))))))
def zX:GM:=ZO 1 1 ZbA
def Zij:SM:=(ZL (mCB zF (Zc (ZI ["End"] "behind" (Zd 0)) (Zc (ZI ["End"] "nxt" (Zd 0)) Zk))))
def ZbC:GM:=ZO 1 1 Zij
def Zd0:SM:=(ZL (Zcg (mOp inM (ZI ["End"] "state" (Zd 0)) (ZaO (Zc (mC (.str "open")) (Zc (mC (.str "wait one")) (Zc (mC (.str "close wait")) (Zc (mC (.str "closing")) (Zc (mC (.str "last ack")) Zk))))))) (mOp gtM (mCB ZbC (Zc (Zd 0) Zk)) (mC (.int 0)))))
def Zai:GM:=ZO 1 1 Zd0
def Zew:SM:=(ZL (Zcg (mOp inM (ZI ["End"] "state" (Zd 0)) (ZaO (Zc (mC (.str "wait one")) (Zc (mC (.str "closing")) (Zc (mC (.str "last ack")) Zk))))) (mOp eqM (mCB ZbC (Zc (Zd 0) Zk)) (mC (.int 0)))))
def ZbD:GM:=ZO 1 1 Zew
def Zgo:SM:=(ZL (ZmO (mCB Zai (Zc (Zd 0) Zk)) (mCB ZbD (Zc (Zd 0) Zk))))
def ZbL:GM:=ZO 1 1 Zgo
def Zel:SM:=(Zs (ZX 2 (ZI ["End"] "nxt" (Zd 0)))
  (Zs (ZX 3 (mCB ZlU (Zc (mCB Zag (Zc (Zd 0) Zk)) (Zc (mCB ZbC (Zc (Zd 0) Zk)) (Zc (Zd 1) Zk)))))
  (Zs (ZX 4 (mCB zF (Zc (Zd 2) (Zc (ZI ["End"] "una" (Zd 0)) Zk))))
  (Zs (ZH ["End"] "nxt" (Zd 0) (mCB zr (Zc (Zd 2) (Zc (Zd 3) Zk))))
  (ZL (mCB zE (Zc (Zd 0) (Zc (Zd 2) (Zc (Zf9 (ZK (mOp eqM (mCB ZbC (Zc (Zd 0) Zk)) (mC (.int 0)))) (mC (.int 8)) (mC (.int 0))) (Zc (mSl (ZI ["Pile"] "row" (ZI ["End"] "written" (Zd 0))) (ZbF (Zd 4)) (ZbF (mOp Z0 (Zd 4) (Zd 3)))) Zk))))))))))
def Zcj:GM:=ZO 2 5 Zel
def Zg9:SM:=(Zs (ZX 1 (ZI ["End"] "nxt" (Zd 0)))
  (Zs (ZH ["End"] "nxt" (Zd 0) (mCB zr (Zc (Zd 1) (Zc (mC (.int 1)) Zk))))
  (ZL (mCB zE (Zc (Zd 0) (Zc (Zd 1) (Zc (mC (.int 1)) (Zc (Zb0 Zk) Zk))))))))
def ZdU:GM:=ZO 1 2 Zg9
def ZdK:SM:=(Zs (ZH ["End"] "probes" (Zd 0) (mC (.bl false)))
  (ZL (Zf9 (zL (mCB Zai (Zc (Zd 0) Zk))) (mCB Zcj (Zc (Zd 0) (Zc (Zd 1) Zk))) (mCB ZdU (Zc (Zd 0) Zk)))))
def ZaZ:GM:=ZO 2 2 ZdK
def ZdJ:SM:=(mIf (ZK (mOp eqM (ZI ["End"] "nxt" (Zd 0)) (ZI ["End"] "una" (Zd 0)))) (zG (mCB zd (Zc (Zd 0) (Zc (Zd 1) Zk)))) ZM)
def Ze0:SM:=(Zs ZdJ
  (Zs (ZH ["End"] "nxt" (Zd 0) (mCB zr (Zc (ZI ["End"] "first" (Zd 0)) (Zc (mC (.int 1)) Zk))))
  (ZL (mCB ZbJ (Zc (Zd 0) Zk)))))
def Zc3:GM:=ZO 2 2 Ze0
def zx:SM:=(mIf (ZK (mOp inM (ZI ["End"] "state" (Zd 0)) (ZaO (Zc (mC (.str "syn sent")) (Zc (mC (.str "syn come")) Zk))))) (ZL (Zf9 (mOr (ZK (mOp eqM (ZI ["End"] "nxt" (Zd 0)) (ZI ["End"] "first" (Zd 0)))) (zL (ZI ["End"] "owes_syn" (Zd 0)))) (mCB Zc3 (Zc (Zd 0) (Zc (Zd 1) Zk))) (mC .non))) ZM)
def Zak:SM:=(mIf (mOr (ZK (mOp leM (Zd 2) (mC (.int 0)))) (Zdg (zL (mCB ZbL (Zc (Zd 0) Zk))))) (ZL (mC .non)) ZM)
def ZbM:SM:=(mIf (ZK (mOp eqM (ZI ["End"] "nxt" (Zd 0)) (ZI ["End"] "una" (Zd 0)))) (zG (mCB zd (Zc (Zd 0) (Zc (Zd 1) Zk)))) ZM)
def zO:SM:=(Zs zx
  (Zs (ZX 2 (mOp Zgz (ZI ["End"] "wnd" (Zd 0)) (mCB zF (Zc (ZI ["End"] "nxt" (Zd 0)) (Zc (ZI ["End"] "una" (Zd 0)) Zk)))))
  (Zs Zak
  (Zs ZbM
  (Zs (ZH ["End"] "owes_answer" (Zd 0) (mC (.bl false)))
  (ZL (mCB ZaZ (Zc (Zd 0) (Zc (Zd 2) Zk)))))))))
def zb:GM:=ZO 2 3 zO
def Zis:SM:=(ZL (mOp geM (mOp Zgz (Zd 1) (ZI ["End"] "since" (Zd 0))) (ZI ["End"] "wait" (Zd 0))))
def Zdd:GM:=ZO 2 2 Zis
def zj:SM:=(mIf (mOr (ZK (mOp neM (ZI ["End"] "nxt" (Zd 0)) (ZI ["End"] "una" (Zd 0)))) (mOr (ZK (mOp neM (ZI ["End"] "wnd" (Zd 0)) (mC (.int 0)))) (Zdg (zL (mCB ZbL (Zc (Zd 0) Zk)))))) (Zs (ZH ["End"] "probes" (Zd 0) (mC (.bl false)))
    (ZL (mC .non))) ZM)
def ZaA:SM:=(mIf (Zdg (zL (ZI ["End"] "probes" (Zd 0)))) (Zs (ZH ["End"] "probes" (Zd 0) (mC (.bl true)))
    (zG (mCB zd (Zc (Zd 0) (Zc (Zd 1) Zk))))) ZM)
def Zaz:SM:=(mIf (Zdg (zL (mCB Zdd (Zc (Zd 0) (Zc (Zd 1) Zk))))) (ZL (mC .non)) ZM)
def zw:SM:=(Zs zj
  (Zs ZaA
  (Zs Zaz
  (Zs (ZH ["End"] "since" (Zd 0) (Zd 1))
  (ZL (mCB ZaZ (Zc (Zd 0) (Zc (mC (.int 1)) Zk))))))))
def ze:GM:=ZO 2 2 zw
def ZeY:SM:=(Zs (ZX 1 (ZI ["End"] "owed_reset" (Zd 0)))
  (Zs (ZH ["End"] "owed_reset" (Zd 0) (mC .non))
  (ZL (Zd 1))))
def Zc0:GM:=ZO 1 2 ZeY
def ZdB:SM:=(mIf (ZK (mOp ZjN (ZI ["End"] "owed_reset" (Zd 0)) (mC .non))) (ZL (mCB Zc0 (Zc (Zd 0) Zk))) ZM)
def Ze4:SM:=(mIf (ZfI (ZK (mOp eqM (ZI ["End"] "state" (Zd 0)) (mC (.str "time wait")))) (ZK (mOp geM (mOp Zgz (Zd 1) (ZI ["End"] "since" (Zd 0))) (mC (.int 120000))))) (ZH ["End"] "state" (Zd 0) (mC (.str "closed"))) ZM)
def ZbT:SM:=(mIf (ZK (mOp inM (ZI ["End"] "state" (Zd 0)) (ZaO (Zc (mC (.str "closed")) (Zc (mC (.str "listen")) Zk))))) (ZL (mC .non)) ZM)
def ZcH:SM:=(mIf (ZfI (ZK (mOp neM (ZI ["End"] "nxt" (Zd 0)) (ZI ["End"] "una" (Zd 0)))) (zL (mCB Zdd (Zc (Zd 0) (Zc (Zd 1) Zk))))) (ZL (mCB Zdv (Zc (Zd 0) (Zc (Zd 1) Zk)))) ZM)
def ZbS:SM:=(mIf (ZK (mOp isM (Zd 2) (mC .non))) (ZX 2 (mCB ze (Zc (Zd 0) (Zc (Zd 1) Zk)))) ZM)
def ZbR:SM:=(mIf (ZK (mOp isM (Zd 2) (mC .non))) (ZX 2 (mCB zX (Zc (Zd 0) Zk))) ZM)
def Zfn:SM:=(Zs ZdB
  (Zs Ze4
  (Zs ZbT
  (Zs ZcH
  (Zs (ZX 2 (mCB zb (Zc (Zd 0) (Zc (Zd 1) Zk))))
  (Zs ZbS
  (Zs ZbR
  (ZL (Zd 2)))))))))
def Zd9:GM:=ZO 2 3 Zfn
def Zim:SM:=(Zs (ZX 2 (mCB Zd9 (Zc (Zd 0) (Zc (Zd 1) Zk))))
  (ZL (Zf9 (ZK (mOp isM (Zd 2) (mC .non))) (Zb0 Zk) (mCB ZlJ (Zc (Zd 2) Zk)))))
def ZcL:GM:=ZO 2 3 Zim
def Zio:SM:=(ZL (mCB (mkG "End" Zcm) (Zc (Zd 0) (Zc (Zd 1) (Zc (Zd 2) (Zc (Zd 3) Zk))))))
def ZeI:GM:=ZO 4 4 Zio
end
end My
namespace My
open PySem L2 L2.MM
noncomputable section
inductive State where
  | closed | listen | synSent | synCome | opn | waitOne | waitTwo | closeWait | closing | lastAck | timeWait
  deriving DecidableEq
def State.s:State→Str
  | .closed=>"closed" | .listen=>"listen" | .synSent=>"syn sent" | .synCome=>"syn come" | .opn=>"open" | .waitOne=>"wait one" | .waitTwo=>"wait two" | .closeWait=>"close wait" | .closing=>"closing" | .lastAck=>"last ack" | .timeWait=>"time wait"
inductive Err where
  | none | refused | reset | time
  deriving DecidableEq
def Err.s:Err→Str
  | .none=>"" | .refused=>"refused" | .reset=>"reset" | .time=>"time"
structure Zw where
  ours:Int
  theirs:Int
  state:State
  error:Err
  first:Int
  una:Int
  nxt:Int
  rcv:Int
  wnd:Int
  told:Int
  told_by:Int
  most:Int
  written:List Int
  come:List Int
  early:List (Int×Int)
  early_fin:Option Int
  has_closed:Bool
  behind:Int
  owed_reset:Option Seg
  owes_syn:Bool
  owes_answer:Bool
  probes:Bool
  since:Int
  wait:Int
  tries:Int
def Zhv:Option Int→D
  | none=>.non
  | some i=>.int i
def Zbw:Option Seg→D
  | none=>.non
  | some s=>s.d
def fields (l:Nat) (e:Zw):List (Str×D):=[("ours",.int e.ours),("theirs",.int e.theirs),("state",.str e.state.s),("error",.str e.error.s),("first",.int e.first),("una",.int e.una),("nxt",.int e.nxt),("rcv",.int e.rcv),("wnd",.int e.wnd),("told",.int e.told),("told_by",.int e.told_by),("most",.int e.most),("written",.ref (l+1)),("come",.ref (l+2)),("early",.ref (l+3)),("early_fin",Zhv e.early_fin),("has_closed",.bl e.has_closed),("behind",.int e.behind),("owed_reset",Zbw e.owed_reset),("owes_syn",.bl e.owes_syn),("owes_answer",.bl e.owes_answer),("probes",.bl e.probes),("since",.int e.since),("wait",.int e.wait),("tries",.int e.tries)]
def c0 (l:Nat) (e:Zw):Cell:=.ins "End" (fields l e)
def c1 (e:Zw):Cell:=.ins "Pile" [("row",il e.written)]
def c2 (e:Zw):Cell:=.ins "Pile" [("row",il e.come)]
def c3 (e:Zw):Cell:=.dK (e.early.map fun p=>(Sum.inl p.1,D.int p.2))
def upE (θ:Sto) (l:Nat) (e:Zw):Sto:=(((θ.set l (c0 l e)).set (l+1) (c1 e)).set (l+2) (c2 e)).set (l+3) (c3 e)
theorem at0 {θ:Sto} {l:Nat} (h:l+3 < θ.length) (e:Zw):(upE θ l e)[l]?=some (c0 l e):=by
  unfold upE
  rw [List.getElem?_set_ne (by omega),List.getElem?_set_ne (by omega),List.getElem?_set_ne (by omega),List.getElem?_set_self (by omega)]
theorem at1 {θ:Sto} {l:Nat} (h:l+3 < θ.length) (e:Zw):(upE θ l e)[l+1]?=some (c1 e):=by
  unfold upE
  rw [List.getElem?_set_ne (by omega),List.getElem?_set_ne (by omega),List.getElem?_set_self (by simp; omega)]
theorem Zxp {θ:Sto} {l:Nat} (h:l+3 < θ.length) (e:Zw):(upE θ l e)[l+2]?=some (c2 e):=by
  unfold upE
  rw [List.getElem?_set_ne (by omega),List.getElem?_set_self (by simp; omega)]
theorem ZdQ {θ:Sto} {l:Nat} (h:l+3 < θ.length) (e e':Zw) (h1:e'.written=e.written) (h2:e'.come=e.come) (h3:e'.early=e.early):(upE θ l e).set l (c0 l e')=upE θ l e':=by
  unfold upE
  rw [show c1 e'=c1 e by unfold c1; rw [h1],show c2 e'=c2 e by unfold c2; rw [h2],show c3 e'=c3 e by unfold c3; rw [h3]]
  apply List.ext_getElem?
  intro i
  simp only [List.getElem?_set,List.length_set]
  by_cases h3:l=i
  · subst h3; simp
  · simp [h3]
theorem Zan {θ:Sto} {l:Nat} (h:l+3 < θ.length) (e:Zw):ZeO (upE θ l e) (.ref l)=some (l,("End":Str),fields l e):=by
  show (match (upE θ l e)[l]? with | some (Cell.ins C fs)=>some (l,C,fs) | _=>none)=_
  rw [at0 h]
  rfl
theorem ce:(["End"]:List Str).contains "End"=true:=by decide +kernel
theorem cp:(["Pile"]:List Str).contains "Pile"=true:=by decide +kernel
@[simp] theorem ZAY {θ:Sto} {l:Nat} (h:l+3 < θ.length) (e:Zw):zI ["End"] "ours" (.ref l) (upE θ l e)=.ok (.int e.ours) (upE θ l e):=by
  unfold zI
  rw [Zan h]
  simp only [ce,if_true]
  rw [show (fields l e).lookup ("ours":Str)=some (.int e.ours) by with_unfolding_all rfl]
@[simp] theorem Zxb {θ:Sto} {l:Nat} (h:l+3 < θ.length) (e:Zw):zI ["End"] "theirs" (.ref l) (upE θ l e)=.ok (.int e.theirs) (upE θ l e):=by
  unfold zI
  rw [Zan h]
  simp only [ce,if_true]
  rw [show (fields l e).lookup ("theirs":Str)=some (.int e.theirs) by with_unfolding_all rfl]
@[simp] theorem ZxT {θ:Sto} {l:Nat} (h:l+3 < θ.length) (e:Zw):zI ["End"] "state" (.ref l) (upE θ l e)=.ok (.str e.state.s) (upE θ l e):=by
  unfold zI
  rw [Zan h]
  simp only [ce,if_true]
  rw [show (fields l e).lookup ("state":Str)=some (.str e.state.s) by with_unfolding_all rfl]
@[simp] theorem ZxW {θ:Sto} {l:Nat} (h:l+3 < θ.length) (e:Zw):zI ["End"] "error" (.ref l) (upE θ l e)=.ok (.str e.error.s) (upE θ l e):=by
  unfold zI
  rw [Zan h]
  simp only [ce,if_true]
  rw [show (fields l e).lookup ("error":Str)=some (.str e.error.s) by with_unfolding_all rfl]
@[simp] theorem ZxV {θ:Sto} {l:Nat} (h:l+3 < θ.length) (e:Zw):zI ["End"] "first" (.ref l) (upE θ l e)=.ok (.int e.first) (upE θ l e):=by
  unfold zI
  rw [Zan h]
  simp only [ce,if_true]
  rw [show (fields l e).lookup ("first":Str)=some (.int e.first) by with_unfolding_all rfl]
@[simp] theorem ZBJ {θ:Sto} {l:Nat} (h:l+3 < θ.length) (e:Zw):zI ["End"] "una" (.ref l) (upE θ l e)=.ok (.int e.una) (upE θ l e):=by
  unfold zI
  rw [Zan h]
  simp only [ce,if_true]
  rw [show (fields l e).lookup ("una":Str)=some (.int e.una) by with_unfolding_all rfl]
@[simp] theorem ZBL {θ:Sto} {l:Nat} (h:l+3 < θ.length) (e:Zw):zI ["End"] "nxt" (.ref l) (upE θ l e)=.ok (.int e.nxt) (upE θ l e):=by
  unfold zI
  rw [Zan h]
  simp only [ce,if_true]
  rw [show (fields l e).lookup ("nxt":Str)=some (.int e.nxt) by with_unfolding_all rfl]
@[simp] theorem ZBK {θ:Sto} {l:Nat} (h:l+3 < θ.length) (e:Zw):zI ["End"] "rcv" (.ref l) (upE θ l e)=.ok (.int e.rcv) (upE θ l e):=by
  unfold zI
  rw [Zan h]
  simp only [ce,if_true]
  rw [show (fields l e).lookup ("rcv":Str)=some (.int e.rcv) by with_unfolding_all rfl]
@[simp] theorem ZBI {θ:Sto} {l:Nat} (h:l+3 < θ.length) (e:Zw):zI ["End"] "wnd" (.ref l) (upE θ l e)=.ok (.int e.wnd) (upE θ l e):=by
  unfold zI
  rw [Zan h]
  simp only [ce,if_true]
  rw [show (fields l e).lookup ("wnd":Str)=some (.int e.wnd) by with_unfolding_all rfl]
@[simp] theorem ZAV {θ:Sto} {l:Nat} (h:l+3 < θ.length) (e:Zw):zI ["End"] "told" (.ref l) (upE θ l e)=.ok (.int e.told) (upE θ l e):=by
  unfold zI
  rw [Zan h]
  simp only [ce,if_true]
  rw [show (fields l e).lookup ("told":Str)=some (.int e.told) by with_unfolding_all rfl]
@[simp] theorem ZvW {θ:Sto} {l:Nat} (h:l+3 < θ.length) (e:Zw):zI ["End"] "told_by" (.ref l) (upE θ l e)=.ok (.int e.told_by) (upE θ l e):=by
  unfold zI
  rw [Zan h]
  simp only [ce,if_true]
  rw [show (fields l e).lookup ("told_by":Str)=some (.int e.told_by) by with_unfolding_all rfl]
@[simp] theorem ZAZ {θ:Sto} {l:Nat} (h:l+3 < θ.length) (e:Zw):zI ["End"] "most" (.ref l) (upE θ l e)=.ok (.int e.most) (upE θ l e):=by
  unfold zI
  rw [Zan h]
  simp only [ce,if_true]
  rw [show (fields l e).lookup ("most":Str)=some (.int e.most) by with_unfolding_all rfl]
@[simp] theorem ZvV {θ:Sto} {l:Nat} (h:l+3 < θ.length) (e:Zw):zI ["End"] "written" (.ref l) (upE θ l e)=.ok (.ref (l+1)) (upE θ l e):=by
  unfold zI
  rw [Zan h]
  simp only [ce,if_true]
  rw [show (fields l e).lookup ("written":Str)=some (.ref (l+1)) by with_unfolding_all rfl]
@[simp] theorem ZA0 {θ:Sto} {l:Nat} (h:l+3 < θ.length) (e:Zw):zI ["End"] "come" (.ref l) (upE θ l e)=.ok (.ref (l+2)) (upE θ l e):=by
  unfold zI
  rw [Zan h]
  simp only [ce,if_true]
  rw [show (fields l e).lookup ("come":Str)=some (.ref (l+2)) by with_unfolding_all rfl]
@[simp] theorem ZxX {θ:Sto} {l:Nat} (h:l+3 < θ.length) (e:Zw):zI ["End"] "early" (.ref l) (upE θ l e)=.ok (.ref (l+3)) (upE θ l e):=by
  unfold zI
  rw [Zan h]
  simp only [ce,if_true]
  rw [show (fields l e).lookup ("early":Str)=some (.ref (l+3)) by with_unfolding_all rfl]
@[simp] theorem ZtX {θ:Sto} {l:Nat} (h:l+3 < θ.length) (e:Zw):zI ["End"] "early_fin" (.ref l) (upE θ l e)=.ok (Zhv e.early_fin) (upE θ l e):=by
  unfold zI
  rw [Zan h]
  simp only [ce,if_true]
  rw [show (fields l e).lookup ("early_fin":Str)=some (Zhv e.early_fin) by with_unfolding_all rfl]
@[simp] theorem Zta {θ:Sto} {l:Nat} (h:l+3 < θ.length) (e:Zw):zI ["End"] "has_closed" (.ref l) (upE θ l e)=.ok (.bl e.has_closed) (upE θ l e):=by
  unfold zI
  rw [Zan h]
  simp only [ce,if_true]
  rw [show (fields l e).lookup ("has_closed":Str)=some (.bl e.has_closed) by with_unfolding_all rfl]
@[simp] theorem Zxd {θ:Sto} {l:Nat} (h:l+3 < θ.length) (e:Zw):zI ["End"] "behind" (.ref l) (upE θ l e)=.ok (.int e.behind) (upE θ l e):=by
  unfold zI
  rw [Zan h]
  simp only [ce,if_true]
  rw [show (fields l e).lookup ("behind":Str)=some (.int e.behind) by with_unfolding_all rfl]
@[simp] theorem Zs9 {θ:Sto} {l:Nat} (h:l+3 < θ.length) (e:Zw):zI ["End"] "owed_reset" (.ref l) (upE θ l e)=.ok (Zbw e.owed_reset) (upE θ l e):=by
  unfold zI
  rw [Zan h]
  simp only [ce,if_true]
  rw [show (fields l e).lookup ("owed_reset":Str)=some (Zbw e.owed_reset) by with_unfolding_all rfl]
@[simp] theorem Zvi {θ:Sto} {l:Nat} (h:l+3 < θ.length) (e:Zw):zI ["End"] "owes_syn" (.ref l) (upE θ l e)=.ok (.bl e.owes_syn) (upE θ l e):=by
  unfold zI
  rw [Zan h]
  simp only [ce,if_true]
  rw [show (fields l e).lookup ("owes_syn":Str)=some (.bl e.owes_syn) by with_unfolding_all rfl]
@[simp] theorem Zr6 {θ:Sto} {l:Nat} (h:l+3 < θ.length) (e:Zw):zI ["End"] "owes_answer" (.ref l) (upE θ l e)=.ok (.bl e.owes_answer) (upE θ l e):=by
  unfold zI
  rw [Zan h]
  simp only [ce,if_true]
  rw [show (fields l e).lookup ("owes_answer":Str)=some (.bl e.owes_answer) by with_unfolding_all rfl]
@[simp] theorem Zxc {θ:Sto} {l:Nat} (h:l+3 < θ.length) (e:Zw):zI ["End"] "probes" (.ref l) (upE θ l e)=.ok (.bl e.probes) (upE θ l e):=by
  unfold zI
  rw [Zan h]
  simp only [ce,if_true]
  rw [show (fields l e).lookup ("probes":Str)=some (.bl e.probes) by with_unfolding_all rfl]
@[simp] theorem ZxU {θ:Sto} {l:Nat} (h:l+3 < θ.length) (e:Zw):zI ["End"] "since" (.ref l) (upE θ l e)=.ok (.int e.since) (upE θ l e):=by
  unfold zI
  rw [Zan h]
  simp only [ce,if_true]
  rw [show (fields l e).lookup ("since":Str)=some (.int e.since) by with_unfolding_all rfl]
@[simp] theorem ZAU {θ:Sto} {l:Nat} (h:l+3 < θ.length) (e:Zw):zI ["End"] "wait" (.ref l) (upE θ l e)=.ok (.int e.wait) (upE θ l e):=by
  unfold zI
  rw [Zan h]
  simp only [ce,if_true]
  rw [show (fields l e).lookup ("wait":Str)=some (.int e.wait) by with_unfolding_all rfl]
@[simp] theorem ZxS {θ:Sto} {l:Nat} (h:l+3 < θ.length) (e:Zw):zI ["End"] "tries" (.ref l) (upE θ l e)=.ok (.int e.tries) (upE θ l e):=by
  unfold zI
  rw [Zan h]
  simp only [ce,if_true]
  rw [show (fields l e).lookup ("tries":Str)=some (.int e.tries) by with_unfolding_all rfl]
@[simp] theorem Zwt {θ:Sto} {l:Nat} (h:l+3 < θ.length) (e:Zw) (v:Int):za ["End"] "theirs" (.int v) (.ref l) (upE θ l e)=some (upE θ l { e with theirs:=v }):=by
  unfold za
  rw [Zan h]
  simp only [ce]
  rw [if_pos ⟨trivial,show 25<1000 by decide⟩,show Zap ("theirs":Str) (.int v) (fields l e)=fields l { e with theirs:=v } by with_unfolding_all rfl]
  exact congrArg some (ZdQ h e { e with theirs:=v } rfl rfl rfl)
@[simp] theorem ZxL {θ:Sto} {l:Nat} (h:l+3 < θ.length) (e:Zw) (v:State):za ["End"] "state" (.str v.s) (.ref l) (upE θ l e)=some (upE θ l { e with state:=v }):=by
  unfold za
  rw [Zan h]
  simp only [ce]
  rw [if_pos ⟨trivial,show 25<1000 by decide⟩,show Zap ("state":Str) (.str v.s) (fields l e)=fields l { e with state:=v } by with_unfolding_all rfl]
  exact congrArg some (ZdQ h e { e with state:=v } rfl rfl rfl)
@[simp] theorem ZxN {θ:Sto} {l:Nat} (h:l+3 < θ.length) (e:Zw) (v:Err):za ["End"] "error" (.str v.s) (.ref l) (upE θ l e)=some (upE θ l { e with error:=v }):=by
  unfold za
  rw [Zan h]
  simp only [ce]
  rw [if_pos ⟨trivial,show 25<1000 by decide⟩,show Zap ("error":Str) (.str v.s) (fields l e)=fields l { e with error:=v } by with_unfolding_all rfl]
  exact congrArg some (ZdQ h e { e with error:=v } rfl rfl rfl)
@[simp] theorem ZBz {θ:Sto} {l:Nat} (h:l+3 < θ.length) (e:Zw) (v:Int):za ["End"] "una" (.int v) (.ref l) (upE θ l e)=some (upE θ l { e with una:=v }):=by
  unfold za
  rw [Zan h]
  simp only [ce]
  rw [if_pos ⟨trivial,show 25<1000 by decide⟩,show Zap ("una":Str) (.int v) (fields l e)=fields l { e with una:=v } by with_unfolding_all rfl]
  exact congrArg some (ZdQ h e { e with una:=v } rfl rfl rfl)
@[simp] theorem ZBB {θ:Sto} {l:Nat} (h:l+3 < θ.length) (e:Zw) (v:Int):za ["End"] "nxt" (.int v) (.ref l) (upE θ l e)=some (upE θ l { e with nxt:=v }):=by
  unfold za
  rw [Zan h]
  simp only [ce]
  rw [if_pos ⟨trivial,show 25<1000 by decide⟩,show Zap ("nxt":Str) (.int v) (fields l e)=fields l { e with nxt:=v } by with_unfolding_all rfl]
  exact congrArg some (ZdQ h e { e with nxt:=v } rfl rfl rfl)
@[simp] theorem ZBA {θ:Sto} {l:Nat} (h:l+3 < θ.length) (e:Zw) (v:Int):za ["End"] "rcv" (.int v) (.ref l) (upE θ l e)=some (upE θ l { e with rcv:=v }):=by
  unfold za
  rw [Zan h]
  simp only [ce]
  rw [if_pos ⟨trivial,show 25<1000 by decide⟩,show Zap ("rcv":Str) (.int v) (fields l e)=fields l { e with rcv:=v } by with_unfolding_all rfl]
  exact congrArg some (ZdQ h e { e with rcv:=v } rfl rfl rfl)
@[simp] theorem ZBy {θ:Sto} {l:Nat} (h:l+3 < θ.length) (e:Zw) (v:Int):za ["End"] "wnd" (.int v) (.ref l) (upE θ l e)=some (upE θ l { e with wnd:=v }):=by
  unfold za
  rw [Zan h]
  simp only [ce]
  rw [if_pos ⟨trivial,show 25<1000 by decide⟩,show Zap ("wnd":Str) (.int v) (fields l e)=fields l { e with wnd:=v } by with_unfolding_all rfl]
  exact congrArg some (ZdQ h e { e with wnd:=v } rfl rfl rfl)
@[simp] theorem ZAx {θ:Sto} {l:Nat} (h:l+3 < θ.length) (e:Zw) (v:Int):za ["End"] "told" (.int v) (.ref l) (upE θ l e)=some (upE θ l { e with told:=v }):=by
  unfold za
  rw [Zan h]
  simp only [ce]
  rw [if_pos ⟨trivial,show 25<1000 by decide⟩,show Zap ("told":Str) (.int v) (fields l e)=fields l { e with told:=v } by with_unfolding_all rfl]
  exact congrArg some (ZdQ h e { e with told:=v } rfl rfl rfl)
@[simp] theorem ZvN {θ:Sto} {l:Nat} (h:l+3 < θ.length) (e:Zw) (v:Int):za ["End"] "told_by" (.int v) (.ref l) (upE θ l e)=some (upE θ l { e with told_by:=v }):=by
  unfold za
  rw [Zan h]
  simp only [ce]
  rw [if_pos ⟨trivial,show 25<1000 by decide⟩,show Zap ("told_by":Str) (.int v) (fields l e)=fields l { e with told_by:=v } by with_unfolding_all rfl]
  exact congrArg some (ZdQ h e { e with told_by:=v } rfl rfl rfl)
@[simp] theorem ZAA {θ:Sto} {l:Nat} (h:l+3 < θ.length) (e:Zw) (v:Int):za ["End"] "most" (.int v) (.ref l) (upE θ l e)=some (upE θ l { e with most:=v }):=by
  unfold za
  rw [Zan h]
  simp only [ce]
  rw [if_pos ⟨trivial,show 25<1000 by decide⟩,show Zap ("most":Str) (.int v) (fields l e)=fields l { e with most:=v } by with_unfolding_all rfl]
  exact congrArg some (ZdQ h e { e with most:=v } rfl rfl rfl)
@[simp] theorem ZlF {θ:Sto} {l:Nat} (h:l+3 < θ.length) (e:Zw) (v:Option Int):za ["End"] "early_fin" (Zhv v) (.ref l) (upE θ l e)=some (upE θ l { e with early_fin:=v }):=by
  unfold za
  rw [Zan h]
  simp only [ce]
  rw [if_pos ⟨trivial,show 25<1000 by decide⟩,show Zap ("early_fin":Str) (Zhv v) (fields l e)=fields l { e with early_fin:=v } by with_unfolding_all rfl]
  exact congrArg some (ZdQ h e { e with early_fin:=v } rfl rfl rfl)
@[simp] theorem Zss {θ:Sto} {l:Nat} (h:l+3 < θ.length) (e:Zw) (v:Bool):za ["End"] "has_closed" (.bl v) (.ref l) (upE θ l e)=some (upE θ l { e with has_closed:=v }):=by
  unfold za
  rw [Zan h]
  simp only [ce]
  rw [if_pos ⟨trivial,show 25<1000 by decide⟩,show Zap ("has_closed":Str) (.bl v) (fields l e)=fields l { e with has_closed:=v } by with_unfolding_all rfl]
  exact congrArg some (ZdQ h e { e with has_closed:=v } rfl rfl rfl)
@[simp] theorem Zwv {θ:Sto} {l:Nat} (h:l+3 < θ.length) (e:Zw) (v:Int):za ["End"] "behind" (.int v) (.ref l) (upE θ l e)=some (upE θ l { e with behind:=v }):=by
  unfold za
  rw [Zan h]
  simp only [ce]
  rw [if_pos ⟨trivial,show 25<1000 by decide⟩,show Zap ("behind":Str) (.int v) (fields l e)=fields l { e with behind:=v } by with_unfolding_all rfl]
  exact congrArg some (ZdQ h e { e with behind:=v } rfl rfl rfl)
@[simp] theorem ZfT {θ:Sto} {l:Nat} (h:l+3 < θ.length) (e:Zw) (v:Option Seg):za ["End"] "owed_reset" (Zbw v) (.ref l) (upE θ l e)=some (upE θ l { e with owed_reset:=v }):=by
  unfold za
  rw [Zan h]
  simp only [ce]
  rw [if_pos ⟨trivial,show 25<1000 by decide⟩,show Zap ("owed_reset":Str) (Zbw v) (fields l e)=fields l { e with owed_reset:=v } by with_unfolding_all rfl]
  exact congrArg some (ZdQ h e { e with owed_reset:=v } rfl rfl rfl)
@[simp] theorem Zuz {θ:Sto} {l:Nat} (h:l+3 < θ.length) (e:Zw) (v:Bool):za ["End"] "owes_syn" (.bl v) (.ref l) (upE θ l e)=some (upE θ l { e with owes_syn:=v }):=by
  unfold za
  rw [Zan h]
  simp only [ce]
  rw [if_pos ⟨trivial,show 25<1000 by decide⟩,show Zap ("owes_syn":Str) (.bl v) (fields l e)=fields l { e with owes_syn:=v } by with_unfolding_all rfl]
  exact congrArg some (ZdQ h e { e with owes_syn:=v } rfl rfl rfl)
@[simp] theorem Zr5 {θ:Sto} {l:Nat} (h:l+3 < θ.length) (e:Zw) (v:Bool):za ["End"] "owes_answer" (.bl v) (.ref l) (upE θ l e)=some (upE θ l { e with owes_answer:=v }):=by
  unfold za
  rw [Zan h]
  simp only [ce]
  rw [if_pos ⟨trivial,show 25<1000 by decide⟩,show Zap ("owes_answer":Str) (.bl v) (fields l e)=fields l { e with owes_answer:=v } by with_unfolding_all rfl]
  exact congrArg some (ZdQ h e { e with owes_answer:=v } rfl rfl rfl)
@[simp] theorem Zwu {θ:Sto} {l:Nat} (h:l+3 < θ.length) (e:Zw) (v:Bool):za ["End"] "probes" (.bl v) (.ref l) (upE θ l e)=some (upE θ l { e with probes:=v }):=by
  unfold za
  rw [Zan h]
  simp only [ce]
  rw [if_pos ⟨trivial,show 25<1000 by decide⟩,show Zap ("probes":Str) (.bl v) (fields l e)=fields l { e with probes:=v } by with_unfolding_all rfl]
  exact congrArg some (ZdQ h e { e with probes:=v } rfl rfl rfl)
@[simp] theorem ZxM {θ:Sto} {l:Nat} (h:l+3 < θ.length) (e:Zw) (v:Int):za ["End"] "since" (.int v) (.ref l) (upE θ l e)=some (upE θ l { e with since:=v }):=by
  unfold za
  rw [Zan h]
  simp only [ce]
  rw [if_pos ⟨trivial,show 25<1000 by decide⟩,show Zap ("since":Str) (.int v) (fields l e)=fields l { e with since:=v } by with_unfolding_all rfl]
  exact congrArg some (ZdQ h e { e with since:=v } rfl rfl rfl)
@[simp] theorem ZAw {θ:Sto} {l:Nat} (h:l+3 < θ.length) (e:Zw) (v:Int):za ["End"] "wait" (.int v) (.ref l) (upE θ l e)=some (upE θ l { e with wait:=v }):=by
  unfold za
  rw [Zan h]
  simp only [ce]
  rw [if_pos ⟨trivial,show 25<1000 by decide⟩,show Zap ("wait":Str) (.int v) (fields l e)=fields l { e with wait:=v } by with_unfolding_all rfl]
  exact congrArg some (ZdQ h e { e with wait:=v } rfl rfl rfl)
@[simp] theorem ZxK {θ:Sto} {l:Nat} (h:l+3 < θ.length) (e:Zw) (v:Int):za ["End"] "tries" (.int v) (.ref l) (upE θ l e)=some (upE θ l { e with tries:=v }):=by
  unfold za
  rw [Zan h]
  simp only [ce]
  rw [if_pos ⟨trivial,show 25<1000 by decide⟩,show Zap ("tries":Str) (.int v) (fields l e)=fields l { e with tries:=v } by with_unfolding_all rfl]
  exact congrArg some (ZdQ h e { e with tries:=v } rfl rfl rfl)
section
variable {θ:Sto} {l:Nat}
@[simp] theorem ZAW (h:l+3 < θ.length) (e:Zw):zI ["Pile"] "row" (.ref (l+1)) (upE θ l e)=.ok (il e.written) (upE θ l e):=by
  have:ZeO (upE θ l e) (.ref (l+1))=some (l+1,("Pile":Str),[(("row":Str),il e.written)]):=by
    show (match (upE θ l e)[l+1]? with | some (Cell.ins C fs)=>some (l+1,C,fs) | _=>none)=_
    rw [at1 h]
    rfl
  unfold zI
  rw [this]
  simp only [cp,if_true]
  rw [show ([("row",il e.written)]:List (Str×D)).lookup ("row":Str)=some (il e.written) by with_unfolding_all rfl]
@[simp] theorem ZAX (h:l+3 < θ.length) (e:Zw):zI ["Pile"] "row" (.ref (l+2)) (upE θ l e)=.ok (il e.come) (upE θ l e):=by
  have:ZeO (upE θ l e) (.ref (l+2))=some (l+2,("Pile":Str),[(("row":Str),il e.come)]):=by
    show (match (upE θ l e)[l+2]? with | some (Cell.ins C fs)=>some (l+2,C,fs) | _=>none)=_
    rw [Zxp h]
    rfl
  unfold zI
  rw [this]
  simp only [cp,if_true]
  rw [show ([("row",il e.come)]:List (Str×D)).lookup ("row":Str)=some (il e.come) by with_unfolding_all rfl]
@[simp] theorem ZAy (h:l+3 < θ.length) (e:Zw) (r:List Int):za ["Pile"] "row" (il r) (.ref (l+1)) (upE θ l e)=some (upE θ l { e with written:=r }):=by
  have:ZeO (upE θ l e) (.ref (l+1))=some (l+1,("Pile":Str),[(("row":Str),il e.written)]):=by
    show (match (upE θ l e)[l+1]? with | some (Cell.ins C fs)=>some (l+1,C,fs) | _=>none)=_
    rw [at1 h]
    rfl
  unfold za
  rw [this]
  simp only [cp]
  rw [if_pos ⟨trivial,show 1<1000 by decide⟩,show Zap ("row":Str) (il r) [("row",il e.written)]=[(("row":Str),il r)] by with_unfolding_all rfl]
  congr 1
  unfold upE
  apply List.ext_getElem?
  intro i
  simp only [List.getElem?_set,List.length_set]
  by_cases q:l+1=i
  · subst q; simp [c1]
  · simp [q,c0,c2,c3,fields]
@[simp] theorem ZAz (h:l+3 < θ.length) (e:Zw) (r:List Int):za ["Pile"] "row" (il r) (.ref (l+2)) (upE θ l e)=some (upE θ l { e with come:=r }):=by
  have:ZeO (upE θ l e) (.ref (l+2))=some (l+2,("Pile":Str),[(("row":Str),il e.come)]):=by
    show (match (upE θ l e)[l+2]? with | some (Cell.ins C fs)=>some (l+2,C,fs) | _=>none)=_
    rw [Zxp h]
    rfl
  unfold za
  rw [this]
  simp only [cp]
  rw [if_pos ⟨trivial,show 1<1000 by decide⟩,show Zap ("row":Str) (il r) [("row",il e.come)]=[(("row":Str),il r)] by with_unfolding_all rfl]
  congr 1
  unfold upE
  apply List.ext_getElem?
  intro i
  simp only [List.getElem?_set,List.length_set]
  by_cases q:l+2=i
  · subst q; simp [c2]
  · simp [q,c0,c1,c3,fields]
end
@[simp] theorem Zwa:("closed":Str)=State.closed.s:=nr rfl
@[simp] theorem Zv9:("listen":Str)=State.listen.s:=nr rfl
@[simp] theorem ZvF:("syn sent":Str)=State.synSent.s:=nr rfl
@[simp] theorem ZvG:("syn come":Str)=State.synCome.s:=nr rfl
@[simp] theorem ZAe:("open":Str)=State.opn.s:=nr rfl
@[simp] theorem ZvE:("wait one":Str)=State.waitOne.s:=nr rfl
@[simp] theorem ZvD:("wait two":Str)=State.waitTwo.s:=nr rfl
@[simp] theorem Ztx:("close wait":Str)=State.closeWait.s:=nr rfl
@[simp] theorem ZvJ:("closing":Str)=State.closing.s:=nr rfl
@[simp] theorem ZvI:("last ack":Str)=State.lastAck.s:=nr rfl
@[simp] theorem Zt8:("time wait":Str)=State.timeWait.s:=nr rfl
@[simp] theorem ZAf:("":Str)=Err.none.s:=nr rfl
@[simp] theorem ZvH:("refused":Str)=Err.refused.s:=nr rfl
@[simp] theorem ZxC:("reset":Str)=Err.reset.s:=nr rfl
@[simp] theorem ZAd:("time":Str)=Err.time.s:=nr rfl
theorem State.inj:∀a b:State,a.s=b.s↔a=b:=by
  intro a b
  constructor
  · intro h
    cases a<;>cases b<;>first | rfl | (exact absurd h (by decide +kernel))
  · intro h; rw [h]
theorem Err.inj:∀a b:Err,a.s=b.s↔a=b:=by
  intro a b
  constructor
  · intro h
    cases a<;>cases b<;>first | rfl | (exact absurd h (by decide +kernel))
  · intro h; rw [h]
theorem ZqJ (k:Nat) (x:Str):pl k (.str x)=PyData.strOk x:=by cases k<;>simp [pl]
theorem State.ok (a:State) (k:Nat):pl k (.str a.s)=true:=by
  rw [ZqJ]
  cases a<;>decide +kernel
theorem Err.ok (a:Err) (k:Nat):pl k (.str a.s)=true:=by
  rw [ZqJ]
  cases a<;>decide +kernel
section
variable {θ:Sto}
@[simp] theorem Zxi (a b:State):eqM (.str a.s) (.str b.s) θ=.ok (.bl (decide (a=b))) θ:=by
  rw [ZgO (x:=.str a.s) (y:=.str b.s) (ZdH (State.ok a 9) (State.ok b 9) rfl rfl)]
  simp [State.inj]
@[simp] theorem ZwZ (a b:State):neM (.str a.s) (.str b.s) θ=.ok (.bl (!decide (a=b))) θ:=by
  rw [ZhY (x:=.str a.s) (y:=.str b.s) (ZdH (State.ok a 9) (State.ok b 9) rfl rfl)]
  simp [State.inj]
@[simp] theorem ZA5 (a b:Err):eqM (.str a.s) (.str b.s) θ=.ok (.bl (decide (a=b))) θ:=by
  rw [ZgO (x:=.str a.s) (y:=.str b.s) (ZdH (Err.ok a 9) (Err.ok b 9) rfl rfl)]
  simp [Err.inj]
@[simp] theorem ZAJ (a b:Err):neM (.str a.s) (.str b.s) θ=.ok (.bl (!decide (a=b))) θ:=by
  rw [ZhY (x:=.str a.s) (y:=.str b.s) (ZdH (Err.ok a 9) (Err.ok b 9) rfl rfl)]
  simp [Err.inj]
theorem ZfH (a:State):∀bs:List State,Ziz (bs.map fun b=>D.str b.s)=true∧memS a.s (bs.map fun b=>D.str b.s)=decide (a∈bs)
  | []=>⟨rfl,by simp [memS]⟩
  | b::bs=>by
    obtain ⟨h1,h2⟩:=ZfH a bs
    refine ⟨h1,?_⟩
    rw [List.map_cons]
    show (decide (b.s=a.s) || memS a.s (bs.map fun b=>D.str b.s))=_
    rw [h2,Bool.eq_iff_iff]
    simp only [Bool.or_eq_true,decide_eq_true_eq,List.mem_cons,State.inj]
    constructor
    · rintro (h | h)
      · exact .inl h.symm
      · exact .inr h
    · rintro (h | h)
      · exact .inl h.symm
      · exact .inr h
theorem ZgN (a:State) (bs:List State):inM (.str a.s) (.tup (bs.map fun b=>.str b.s)) θ=.ok (.bl (decide (a∈bs))) θ:=by
  obtain ⟨h1,h2⟩:=ZfH a bs
  have e:inD θ (.str a.s) (.tup (bs.map fun b=>D.str b.s))=some (decide (a∈bs)):=by
    unfold inD
    simp only [ZgX]
    rw [if_pos h1,h2]
  unfold inM
  rw [e]
theorem Zeb (a:State) (bs:List State):ZbX (.str a.s) (.tup (bs.map fun b=>.str b.s)) θ=.ok (.bl (!decide (a∈bs))) θ:=by
  obtain ⟨h1,h2⟩:=ZfH a bs
  have e:inD θ (.str a.s) (.tup (bs.map fun b=>D.str b.s))=some (decide (a∈bs)):=by
    unfold inD
    simp only [ZgX]
    rw [if_pos h1,h2]
  unfold ZbX
  rw [e]
@[simp] theorem ZBE (a b c:State):inM (.str a.s) (.tup [.str b.s,.str c.s]) θ=.ok (.bl (decide (a∈[b,c]))) θ:=ZgN a [b,c]
@[simp] theorem ZBD (a b c d:State):inM (.str a.s) (.tup [.str b.s,.str c.s,.str d.s]) θ=.ok (.bl (decide (a∈[b,c,d]))) θ:=ZgN a [b,c,d]
@[simp] theorem ZBC (a b c d e f:State):inM (.str a.s) (.tup [.str b.s,.str c.s,.str d.s,.str e.s,.str f.s]) θ=.ok (.bl (decide (a∈[b,c,d,e,f]))) θ:=ZgN a [b,c,d,e,f]
@[simp] theorem ZwY (a b c:State):ZbX (.str a.s) (.tup [.str b.s,.str c.s]) θ=.ok (.bl (!decide (a∈[b,c]))) θ:=Zeb a [b,c]
@[simp] theorem ZwX (a b c d:State):ZbX (.str a.s) (.tup [.str b.s,.str c.s,.str d.s]) θ=.ok (.bl (!decide (a∈[b,c,d]))) θ:=Zeb a [b,c,d]
@[simp] theorem ZwW (a b c d e:State):ZbX (.str a.s) (.tup [.str b.s,.str c.s,.str d.s,.str e.s]) θ=.ok (.bl (!decide (a∈[b,c,d,e]))) θ:=Zeb a [b,c,d,e]
end
end
end My
namespace My
open PySem L2 L2.MM
noncomputable section
def Zv (n k:Int):Int:=(n+k) % 4294967296
def ZY (n b:Int):Int:=(n-b+2147483648) % 4294967296-2147483648
def zh (e:Zw) (now:Int):Zw:={ e with since:=now,wait:=1000,tries:=0 }
def ZR (e:Zw):Int:=64-(e.come.length:Int)
def zM (e:Zw):Int:=if 16<e.most then 16 else e.most
def ZdW (e:Zw) (now:Int):Bool:=decide (e.wait≤now-e.since)
def Zdu (e:Zw) (n f:Int) (data:List Int):Seg:=⟨e.ours,e.theirs,n,e.rcv,f+16,ZR e,0,data⟩
def ZfX (e:Zw):Seg:=if e.state=.synSent then ⟨e.ours,e.theirs,e.first,0,2,64,16,[]⟩ else ⟨e.ours,e.theirs,e.first,e.rcv,18,64,16,[]⟩
def mn (i j:Int):Int:=if j<i then j else i
def Zcu (e:Zw):List Int:=Zbg e.written none (some (mn (ZY e.nxt e.una) (zM e)))
def again (e:Zw) (now:Int):Option Seg×Zw:=
  if e.tries=6 then (none,{ e with state:=.closed,error:=.time })
  else
    let e1:={ e with tries:=e.tries+1,wait:=mn (2*e.wait) 16000,since:=now }
    if e.state=.synSent∨e.state=.synCome then (some (ZfX e1),{ e1 with owes_syn:=false })
    else (some (Zdu e1 e.una (if 0<(Zcu e).length then 0 else 1) (Zcu e)),e1)
def ZcK (e:Zw):Int:=ZY e.behind e.nxt
def Za3 (e:Zw):Bool:=decide (e.state∈[State.opn,.waitOne,.closeWait,.closing,.lastAck]) && decide (0<ZcK e)
def hasNewFin (e:Zw):Bool:=decide (e.state∈[State.waitOne,.closing,.lastAck]) && decide (ZcK e=0)
def Zbr (e:Zw):Bool:=Za3 e || hasNewFin e
section
variable {θ:Sto} {l:Nat} {e:Zw} {now n k:Int}
@[simp] theorem ZAg:zr [.int n,.int k] θ=.ok (.int (Zv n k)) θ:=by simp [zr,Zmn,Zv]
@[simp] theorem Zwe:zF [.int n,.int k] θ=.ok (.int (ZY n k)) θ:=by simp [zF,Zip,ZY]
@[simp] theorem Zr0 (h:l+3 < θ.length):zd [.ref l,.int now] (upE θ l e)=.ok .non (upE θ l (zh e now)):=by
  simp [zd,Zev,h,zh]
@[simp] theorem ZxD (h:l+3 < θ.length):ZfY [.ref l] (upE θ l e)=.ok (.str e.state.s) (upE θ l e):=by
  simp [ZfY,Zjj,h]
@[simp] theorem ZxH (h:l+3 < θ.length):Zf0 [.ref l] (upE θ l e)=.ok (.str e.error.s) (upE θ l e):=by
  simp [Zf0,Zjk,h]
@[simp] theorem ZxF (h:l+3 < θ.length):Zd8 [.ref (l+2)] (upE θ l e)=.ok (.int (ZR e)) (upE θ l e):=by
  simp [Zd8,Zin,h,ZR]
@[simp] theorem Zsc (h:l+3 < θ.length):zP [.ref l] (upE θ l e)=.ok (.int (ZR e)) (upE θ l e):=by
  simp [zP,ZeZ,h]
@[simp] theorem Zqo (h:l+3 < θ.length):Zag [.ref l] (upE θ l e)=.ok (.int (zM e)) (upE θ l e):=by
  simp [Zag,ZdX,h,zM]
@[simp] theorem Zwh (h:l+3 < θ.length):Zdd [.ref l,.int now] (upE θ l e)=.ok (.bl (ZdW e now)) (upE θ l e):=by
  simp [Zdd,Zis,h,ZdW]
theorem ZtL (a b c d f g i:Int) (x:List Int):D.tup [.int a,.int b,.int c,.int d,.int f,.int g,.int i,itp x]=(Seg.mk a b c d f g i x).d:=rfl
theorem ZjA (a b c d f g i:Int):D.tup [.int a,.int b,.int c,.int d,.int f,.int g,.int i,.tup []]=(Seg.mk a b c d f g i []).d:=rfl
@[simp] theorem Zuf (h:l+3 < θ.length):ZbJ [.ref l] (upE θ l e)=.ok (ZfX e).d (upE θ l { e with owes_syn:=false }):=by
  by_cases c:e.state=.synSent<;>simp [ZbJ,Zgl,ZeX,h,ZfX,c,ZjA]
@[simp] theorem Zsb {f:Int} {data:List Int} (h:l+3 < θ.length):zE [.ref l,.int n,.int f,il data] (upE θ l e)=.ok (Zdu e n f data).d (upE θ l e):=by
  simp [zE,ZeV,h,Zdu,ZtL]
theorem Zsm (h:l+3 < θ.length):Zdv [.ref l,.int now] (upE θ l e)=.ok (Zbw (again e now).1) (upE θ l (again e now).2):=by
  by_cases c:e.tries=6
  · simp [Zdv,Zd2,ZcI,h,again,c,Zbw]
  · by_cases c2:e.state=.synSent∨e.state=.synCome
    · simp [Zdv,Zd2,ZcI,ZdE,h,again,c,c2,Zbw,Zfb,mn]
    · have am:∀e':Zw,e'.most=e.most→zM e'=zM e:=fun e' h=>by unfold zM; rw [h]
      have ad:Zcu e=Zbg e.written none (some (mn (ZY e.nxt e.una) (zM e))):=rfl
      have sl:∀e':Zw,e'.written=e.written→ZfF (upE θ l e') (il e'.written) none (some (if zM e<ZY e.nxt e.una then zM e else ZY e.nxt e.una))=some (il (Zcu e)):=fun e' h'=>by
        rw [ZnJ,h']; rfl
      unfold again
      rw [if_neg c,if_neg c2]
      have c2':¬(e.state=State.synSent∨e.state=State.synCome):=c2
      by_cases c3:0<(Zcu e).length
      · rw [if_pos c3]
        have c3':(0:Int)<(Zcu e).length:=by omega
        simp [Zdv,Zd2,ZcI,ZdE,h,c,c2',Zfb,mn,am,sl,c3,c3',Zbw,-ZnJ,Zdu,ZR]
      · rw [if_neg c3]
        have c3':¬(0:Int)<(Zcu e).length:=by omega
        simp [Zdv,Zd2,ZcI,ZdE,h,c,c2',Zfb,mn,am,sl,c3,c3',Zbw,-ZnJ,Zdu,ZR]
@[simp] theorem Zwb (h:l+3 < θ.length):ZbC [.ref l] (upE θ l e)=.ok (.int (ZcK e)) (upE θ l e):=by
  simp [ZbC,Zij,h,ZcK]
@[simp] theorem Zqq (h:l+3 < θ.length):Zai [.ref l] (upE θ l e)=.ok (.bl (Za3 e)) (upE θ l e):=by
  simp [Zai,Zd0,h,Za3]
@[simp] theorem Zr2 (h:l+3 < θ.length):ZbD [.ref l] (upE θ l e)=.ok (.bl (hasNewFin e)) (upE θ l e):=by
  simp [ZbD,Zew,h,hasNewFin]
@[simp] theorem Zuo (h:l+3 < θ.length):ZbL [.ref l] (upE θ l e)=.ok (.bl (Zbr e)) (upE θ l e):=by
  simp [ZbL,Zgo,h,Zbr]
end
def mn3 (i j k:Int):Int:=if j<i then (if k<j then k else j) else (if k<i then k else i)
def Zfg (e:Zw) (room:Int):Int:=mn3 (zM e) (ZcK e) room
def Zfh (e:Zw) (room:Int):Seg×Zw:=
  let e1:={ e with nxt:=Zv e.nxt (Zfg e room) }
  (Zdu e1 e.nxt (if ZcK e1=0 then 8 else 0) (Zbg e.written (some (ZY e.nxt e.una)) (some (ZY e.nxt e.una+Zfg e room))),e1)
def ZhX (e:Zw):Seg×Zw:=(Zdu e e.nxt 1 [],{ e with nxt:=Zv e.nxt 1 })
def z7 (e:Zw) (room:Int):Seg×Zw:=if Za3 e=true then Zfh { e with probes:=false } room else ZhX { e with probes:=false }
def ZfG (e:Zw) (now:Int):Seg×Zw:=
  let e1:=if e.nxt=e.una then zh e now else e
  (ZfX { e1 with nxt:=Zv e.first 1 },{ e1 with nxt:=Zv e.first 1,owes_syn:=false })
def zv (e:Zw) (now:Int):Option Seg×Zw:=
  if e.state=.synSent∨e.state=.synCome then
    if e.nxt=e.first∨e.owes_syn=true then (some (ZfG e now).1,(ZfG e now).2) else (none,e)
  else
    if e.wnd-ZY e.nxt e.una≤0∨Zbr e=false then (none,e)
    else
      let e1:=if e.nxt=e.una then zh e now else e
      (some (z7 { e1 with owes_answer:=false } (e.wnd-ZY e.nxt e.una)).1,(z7 { e1 with owes_answer:=false } (e.wnd-ZY e.nxt e.una)).2)
def zp (e:Zw) (now:Int):Option Seg×Zw:=
  if ¬e.nxt=e.una∨¬e.wnd=0∨Zbr e=false then (none,{ e with probes:=false })
  else
    let e1:=if e.probes=true then e else zh { e with probes:=true } now
    if ZdW e1 now=true then (some (z7 { e1 with since:=now } 1).1,(z7 { e1 with since:=now } 1).2) else (none,e1)
def Zac (e:Zw):Option Seg×Zw:=if e.owes_answer=true then (some (Zdu e e.nxt 0 []),{ e with owes_answer:=false }) else (none,e)
def Zb4 (e:Zw) (now:Int):Option Seg×Zw:=
  match zv e now with
  | (some s,e1)=>(some s,e1)
  | (none,e1)=>match zp e1 now with
    | (some s,e2)=>(some s,e2)
    | (none,e2)=>Zac e2
def Zau (e:Zw) (now:Int):Option Seg×Zw:=
  match e.owed_reset with
  | some s=>(some s,{ e with owed_reset:=none })
  | none=>
    let e1:=if e.state=.timeWait∧120000≤now-e.since then { e with state:=.closed } else e
    if e1.state=.closed∨e1.state=.listen then (none,e1)
    else if ¬e1.nxt=e1.una∧ZdW e1 now=true then again e1 now
    else Zb4 e1 now
section
variable {θ:Sto} {l:Nat} {e:Zw} {now n k:Int}
@[simp] theorem Zug {r:Int} (h:l+3 < θ.length):Zcj [.ref l,.int r] (upE θ l e)=.ok (Zfh e r).1.d (upE θ l (Zfh e r).2):=by
  have em:(if ZcK e<zM e then (if r<ZcK e then r else ZcK e) else (if r<zM e then r else zM e))=Zfg e r:=rfl
  by_cases c:ZcK { e with nxt:=Zv e.nxt (Zfg e r) }=0
  · simp [Zcj,Zel,h,em]
    simp [Zfh,c,Zdu,ZR,h]
  · simp [Zcj,Zel,h,em]
    simp [Zfh,c,Zdu,ZR,h]
@[simp] theorem ZvL (h:l+3 < θ.length):ZdU [.ref l] (upE θ l e)=.ok (ZhX e).1.d (upE θ l (ZhX e).2):=by
  simp [ZdU,Zg9,h,ZhX,Zdu,ZR,Zb3]
@[simp] theorem ZtC {r:Int} (h:l+3 < θ.length):ZaZ [.ref l,.int r] (upE θ l e)=.ok (z7 e r).1.d (upE θ l (z7 e r).2):=by
  have hp:Za3 { e with probes:=false }=Za3 e:=rfl
  by_cases c:Za3 e=true
  · simp [ZaZ,ZdK,h,z7,c,hp]
  · simp [ZaZ,ZdK,h,z7,c,hp]
@[simp] theorem ZvK (h:l+3 < θ.length):Zc3 [.ref l,.int now] (upE θ l e)=.ok (ZfG e now).1.d (upE θ l (ZfG e now).2):=by
  by_cases c:e.nxt=e.una
  · simp [Zc3,Ze0,ZdJ,h,ZfG,c,zh]
  · simp [Zc3,Ze0,ZdJ,h,ZfG,c]
theorem Zc8 (h:l+3 < θ.length):zb [.ref l,.int now] (upE θ l e)=.ok (Zbw (zv e now).1) (upE θ l (zv e now).2):=by
  by_cases c1:e.state=.synSent∨e.state=.synCome
  · by_cases c2:e.nxt=e.first∨e.owes_syn=true
    · simp [zb,zO,zx,h,zv,c1,c2,Zbw]
    · simp [zb,zO,zx,h,zv,c1,c2,Zbw]
  · by_cases c3:e.wnd-ZY e.nxt e.una≤0
    · simp [zb,zO,zx,Zak,h,zv,c1,c3,Zbw]
    · by_cases c4:Zbr e=true
      · by_cases c5:e.nxt=e.una
        · have c3':=c3
          rw [c5] at c3'
          simp [zb,zO,zx,Zak,ZbM,h,zv,c1,c3',c4,c5,Zbw,zh]
        · simp [zb,zO,zx,Zak,ZbM,h,zv,c1,c3,c4,c5,Zbw]
      · simp [zb,zO,zx,Zak,h,zv,c1,c3,c4,Zbw]
theorem ZdO (h:l+3 < θ.length):ze [.ref l,.int now] (upE θ l e)=.ok (Zbw (zp e now).1) (upE θ l (zp e now).2):=by
  by_cases c1:e.nxt=e.una
  · by_cases c2:e.wnd=0
    · by_cases c3:Zbr e=true
      · by_cases c4:e.probes=true
        · by_cases c5:ZdW e now=true
          · simp [ze,zw,zj,ZaA,Zaz,h,zp,c1,c2,c3,c4,c5,Zbw]
          · simp [ze,zw,zj,ZaA,Zaz,h,zp,c1,c2,c3,c4,c5,Zbw]
        · have c5:ZdW (zh { e with probes:=true } now) now=false:=by simp [ZdW,zh]
          simp [ze,zw,zj,ZaA,Zaz,h,zp,c1,c2,c3,c4,Zbw] at c5 ⊢
          simp [c5,ZdW,zh]
      · simp [ze,zw,zj,h,zp,c1,c2,c3,Zbw]
    · simp [ze,zw,zj,h,zp,c1,c2,Zbw]
  · simp [ze,zw,zj,h,zp,c1,Zbw]
theorem ZfS (h:l+3 < θ.length):zX [.ref l] (upE θ l e)=.ok (Zbw (Zac e).1) (upE θ l (Zac e).2):=by
  by_cases c:e.owes_answer=true
  · simp [zX,ZbA,Zbb,h,Zac,c,Zbw,Zb3,Zdu,ZR]
  · simp [zX,ZbA,Zbb,h,Zac,c,Zbw]
@[simp] theorem ZvP:Zbw none=.non:=rfl
@[simp] theorem ZvO (s:Seg):Zbw (some s)=s.d:=rfl
@[simp] theorem ZxR (s:Seg):ZcF s.d=false:=rfl
@[simp] theorem ZvT:ZcF .non=true:=nr rfl
@[simp] theorem ZtN (h:l+3 < θ.length) (e:Zw):za ["End"] "owed_reset" .non (.ref l) (upE θ l e)=some (upE θ l { e with owed_reset:=none }):=ZfT h e none
@[simp] theorem ZtM (h:l+3 < θ.length) (e:Zw) (s:Seg):za ["End"] "owed_reset" s.d (.ref l) (upE θ l e)=some (upE θ l { e with owed_reset:=some s }):=ZfT h e (some s)
theorem ZiN (h:l+3 < θ.length) (x:Sl):ZhK (ZX 2 (mCB zb (Zc (Zd 0) (Zc (Zd 1) Zk))) [.val (.ref l),.val (.int now),x] (upE θ l e)) (Zs ZbS (Zs ZbR (ZL (Zd 2)))) =
    .ok (.rt (Zbw (Zb4 e now).1),[.val (.ref l),.val (.int now),.val (Zbw (Zb4 e now).1)]) (upE θ l (Zb4 e now).2):=by
  unfold Zb4
  cases c1:zv e now with
  | mk r1 e1=>
    cases r1 with
    | some s=>simp [h,Zc8,c1,ZbS,ZbR]
    | none=>
      cases c2:zp e1 now with
      | mk r2 e2=>
        cases r2 with
        | some s=>simp [h,Zc8,c1,ZbS,ZbR,ZdO,c2]
        | none=>simp [h,Zc8,c1,ZbS,ZbR,ZdO,c2,ZfS]
theorem Zm8 (h:l+3 < θ.length):Zd9 [.ref l,.int now] (upE θ l e)=.ok (Zbw (Zau e now).1) (upE θ l (Zau e now).2):=by
  cases c0:e.owed_reset with
  | some s=>simp [Zd9,Zfn,ZdB,h,Zau,c0,Zc0,ZeY]
  | none=>
    have key:∀e1:Zw,(ZhK (ZbT [.val (.ref l),.val (.int now),.no] (upE θ l e1)) (Zs ZcH (Zs (ZX 2 (mCB zb (Zc (Zd 0) (Zc (Zd 1) Zk)))) (Zs ZbS (Zs ZbR (ZL (Zd 2))))))).bind (fun p θ=>match p.1 with | .nx=>.ok .non θ | .rt d=>.ok d θ | _=>.bad) =
        .ok (Zbw (if e1.state=.closed∨e1.state=.listen then (none,e1) else if ¬e1.nxt=e1.una∧ZdW e1 now=true then again e1 now else Zb4 e1 now).1) (upE θ l (if e1.state=.closed∨e1.state=.listen then (none,e1) else if ¬e1.nxt=e1.una∧ZdW e1 now=true then again e1 now else Zb4 e1 now).2):=fun e1=>by
      by_cases c1:e1.state=.closed∨e1.state=.listen
      · simp [ZbT,h,c1]
      · by_cases c2:e1.nxt=e1.una
        · have g:=ZiN (e:=e1) (now:=now) h .no
          simp at g
          simp [ZbT,ZcH,h,c1,c2]
          rw [g]
          simp
        · by_cases c3:ZdW e1 now=true
          · simp [ZbT,ZcH,h,c1,c2,c3,Zsm]
          · have g:=ZiN (e:=e1) (now:=now) h .no
            simp at g
            simp [ZbT,ZcH,h,c1,c2,c3]
            rw [g]
            simp
    by_cases c1:e.state=.timeWait∧120000≤now-e.since
    · have:=key { e with state:=.closed }
      simp [Zd9,Zfn,ZdB,Ze4,h,Zau,c0,c1] at this ⊢
      exact this
    · have:=key e
      simp [Zd9,Zfn,ZdB,Ze4,h,Zau,c0,c1] at this ⊢
      exact this
def Zjz (e:Zw) (now:Int):List Int:=match (Zau e now).1 with
  | none=>[]
  | some s=>putL s
theorem Zud (h:l+3 < θ.length) (hp:∀s,(Zau e now).1=some s→s.Put):ZcL [.ref l,.int now] (upE θ l e)=.ok (il (Zjz e now)) (upE θ l (Zau e now).2):=by
  unfold Zjz
  cases c:(Zau e now).1 with
  | none=>simp [ZcL,Zim,Zm8,h,c,Zb3]
  | some s=>simp [ZcL,Zim,Zm8,h,c,Zwd (hp s c)]
def newEnd (ours theirs first:Int) (active:Bool):Zw:=⟨ours,theirs,if active then .synSent else .listen,.none,first,first,first,0,0,0,0,12,[],[],[],none,false,Zv first 1,none,false,false,false,0,1000,0⟩
def cells (l:Nat) (e:Zw):Sto:=[c0 l e,c1 e,c2 e,c3 e]
theorem Zos (θ r:Sto) (C:Str) (fs:List (Str×D)):ZeO (θ++.ins C fs::r) (.ref θ.length)=some (θ.length,C,fs):=by
  show (match (θ++.ins C fs::r)[θ.length]? with | some (Cell.ins C fs)=>some (θ.length,C,fs) | _=>none)=_
  rw [List.getElem?_append_right (Nat.le_refl _),Nat.sub_self]
  rfl
theorem ZiU {f:Str} {y:D}:∀{fs:List (Str×D)},(fs.map Prod.fst).contains f=false→Zap f y fs=fs++[(f,y)]
  | [],_=>rfl
  | (g,x)::r,h=>by
    rw [List.map_cons,List.contains_cons,Bool.or_eq_false_iff] at h
    have hn:¬g=f:=fun e=>by rw [e,beq_self_eq_true] at h; cases h.1
    unfold Zap
    rw [if_neg hn,ZiU h.2]
    rfl
theorem Z6 {C f:Str} {y:D} (θ r:Sto) {fs:List (Str×D)} (h0:[C].contains C=true) (h1:(fs.map Prod.fst).contains f=false) (h2:fs.length<1000):za [C] f y (.ref θ.length) (θ++.ins C fs::r)=some (θ++.ins C (fs++[(f,y)])::r):=by
  unfold za
  rw [Zos]
  simp only [h0]
  rw [if_pos ⟨trivial,h2⟩,ZiU h1]
  congr 1
  rw [List.set_append,if_neg (Nat.lt_irrefl _),Nat.sub_self]
  rfl
theorem Znz (S:Sto):mkG "Pile" ZbP [] S=.ok (.ref S.length) (S++[.ins "Pile" [("row",il [])]]):=by
  have:=Z6 (C:="Pile") (f:="row") (y:=il []) S [] (fs:=[]) (by decide +kernel) rfl (by decide)
  simp [mkG,ZbP,ZfA,Zb3,this]
theorem Zq3 (θ r:Sto) (y:D):za ["End"] "ours" y (.ref θ.length) (θ++.ins "End" []::r)=some (θ++.ins "End" [("ours",y)]::r):=Z6 θ r ce (by simp only [List.map_cons,List.map_nil]; decide +kernel) (by simp only [List.length_cons,List.length_nil]; decide)
theorem ZlL (θ r:Sto) (x0 y:D):za ["End"] "theirs" y (.ref θ.length) (θ++.ins "End" [("ours",x0)]::r)=some (θ++.ins "End" [("ours",x0),("theirs",y)]::r):=Z6 θ r ce (by simp only [List.map_cons,List.map_nil]; decide +kernel) (by simp only [List.length_cons,List.length_nil]; decide)
theorem Znt (θ r:Sto) (x0 x1 y:D):za ["End"] "state" y (.ref θ.length) (θ++.ins "End" [("ours",x0),("theirs",x1)]::r)=some (θ++.ins "End" [("ours",x0),("theirs",x1),("state",y)]::r):=Z6 θ r ce (by simp only [List.map_cons,List.map_nil]; decide +kernel) (by simp only [List.length_cons,List.length_nil]; decide)
theorem Znw (θ r:Sto) (x0 x1 x2 y:D):za ["End"] "error" y (.ref θ.length) (θ++.ins "End" [("ours",x0),("theirs",x1),("state",x2)]::r)=some (θ++.ins "End" [("ours",x0),("theirs",x1),("state",x2),("error",y)]::r):=Z6 θ r ce (by simp only [List.map_cons,List.map_nil]; decide +kernel) (by simp only [List.length_cons,List.length_nil]; decide)
theorem Znv (θ r:Sto) (x0 x1 x2 x3 y:D):za ["End"] "first" y (.ref θ.length) (θ++.ins "End" [("ours",x0),("theirs",x1),("state",x2),("error",x3)]::r)=some (θ++.ins "End" [("ours",x0),("theirs",x1),("state",x2),("error",x3),("first",y)]::r):=Z6 θ r ce (by simp only [List.map_cons,List.map_nil]; decide +kernel) (by simp only [List.length_cons,List.length_nil]; decide)
theorem ZtS (θ r:Sto) (x0 x1 x2 x3 x4 y:D):za ["End"] "una" y (.ref θ.length) (θ++.ins "End" [("ours",x0),("theirs",x1),("state",x2),("error",x3),("first",x4)]::r)=some (θ++.ins "End" [("ours",x0),("theirs",x1),("state",x2),("error",x3),("first",x4),("una",y)]::r):=Z6 θ r ce (by simp only [List.map_cons,List.map_nil]; decide +kernel) (by simp only [List.length_cons,List.length_nil]; decide)
theorem ZtU (θ r:Sto) (x0 x1 x2 x3 x4 x5 y:D):za ["End"] "nxt" y (.ref θ.length) (θ++.ins "End" [("ours",x0),("theirs",x1),("state",x2),("error",x3),("first",x4),("una",x5)]::r)=some (θ++.ins "End" [("ours",x0),("theirs",x1),("state",x2),("error",x3),("first",x4),("una",x5),("nxt",y)]::r):=Z6 θ r ce (by simp only [List.map_cons,List.map_nil]; decide +kernel) (by simp only [List.length_cons,List.length_nil]; decide)
theorem ZtT (θ r:Sto) (x0 x1 x2 x3 x4 x5 x6 y:D):za ["End"] "rcv" y (.ref θ.length) (θ++.ins "End" [("ours",x0),("theirs",x1),("state",x2),("error",x3),("first",x4),("una",x5),("nxt",x6)]::r)=some (θ++.ins "End" [("ours",x0),("theirs",x1),("state",x2),("error",x3),("first",x4),("una",x5),("nxt",x6),("rcv",y)]::r):=Z6 θ r ce (by simp only [List.map_cons,List.map_nil]; decide +kernel) (by simp only [List.length_cons,List.length_nil]; decide)
theorem ZtR (θ r:Sto) (x0 x1 x2 x3 x4 x5 x6 x7 y:D):za ["End"] "wnd" y (.ref θ.length) (θ++.ins "End" [("ours",x0),("theirs",x1),("state",x2),("error",x3),("first",x4),("una",x5),("nxt",x6),("rcv",x7)]::r)=some (θ++.ins "End" [("ours",x0),("theirs",x1),("state",x2),("error",x3),("first",x4),("una",x5),("nxt",x6),("rcv",x7),("wnd",y)]::r):=Z6 θ r ce (by simp only [List.map_cons,List.map_nil]; decide +kernel) (by simp only [List.length_cons,List.length_nil]; decide)
theorem Zq2 (θ r:Sto) (x0 x1 x2 x3 x4 x5 x6 x7 x8 y:D):za ["End"] "told" y (.ref θ.length) (θ++.ins "End" [("ours",x0),("theirs",x1),("state",x2),("error",x3),("first",x4),("una",x5),("nxt",x6),("rcv",x7),("wnd",x8)]::r)=some (θ++.ins "End" [("ours",x0),("theirs",x1),("state",x2),("error",x3),("first",x4),("una",x5),("nxt",x6),("rcv",x7),("wnd",x8),("told",y)]::r):=Z6 θ r ce (by simp only [List.map_cons,List.map_nil]; decide +kernel) (by simp only [List.length_cons,List.length_nil]; decide)
theorem ZiY (θ r:Sto) (x0 x1 x2 x3 x4 x5 x6 x7 x8 x9 y:D):za ["End"] "told_by" y (.ref θ.length) (θ++.ins "End" [("ours",x0),("theirs",x1),("state",x2),("error",x3),("first",x4),("una",x5),("nxt",x6),("rcv",x7),("wnd",x8),("told",x9)]::r)=some (θ++.ins "End" [("ours",x0),("theirs",x1),("state",x2),("error",x3),("first",x4),("una",x5),("nxt",x6),("rcv",x7),("wnd",x8),("told",x9),("told_by",y)]::r):=Z6 θ r ce (by simp only [List.map_cons,List.map_nil]; decide +kernel) (by simp only [List.length_cons,List.length_nil]; decide)
theorem Zq4 (θ r:Sto) (x0 x1 x2 x3 x4 x5 x6 x7 x8 x9 x10 y:D):za ["End"] "most" y (.ref θ.length) (θ++.ins "End" [("ours",x0),("theirs",x1),("state",x2),("error",x3),("first",x4),("una",x5),("nxt",x6),("rcv",x7),("wnd",x8),("told",x9),("told_by",x10)]::r)=some (θ++.ins "End" [("ours",x0),("theirs",x1),("state",x2),("error",x3),("first",x4),("una",x5),("nxt",x6),("rcv",x7),("wnd",x8),("told",x9),("told_by",x10),("most",y)]::r):=Z6 θ r ce (by simp only [List.map_cons,List.map_nil]; decide +kernel) (by simp only [List.length_cons,List.length_nil]; decide)
theorem ZiX (θ r:Sto) (x0 x1 x2 x3 x4 x5 x6 x7 x8 x9 x10 x11 y:D):za ["End"] "written" y (.ref θ.length) (θ++.ins "End" [("ours",x0),("theirs",x1),("state",x2),("error",x3),("first",x4),("una",x5),("nxt",x6),("rcv",x7),("wnd",x8),("told",x9),("told_by",x10),("most",x11)]::r)=some (θ++.ins "End" [("ours",x0),("theirs",x1),("state",x2),("error",x3),("first",x4),("una",x5),("nxt",x6),("rcv",x7),("wnd",x8),("told",x9),("told_by",x10),("most",x11),("written",y)]::r):=Z6 θ r ce (by simp only [List.map_cons,List.map_nil]; decide +kernel) (by simp only [List.length_cons,List.length_nil]; decide)
theorem Zq5 (θ r:Sto) (x0 x1 x2 x3 x4 x5 x6 x7 x8 x9 x10 x11 x12 y:D):za ["End"] "come" y (.ref θ.length) (θ++.ins "End" [("ours",x0),("theirs",x1),("state",x2),("error",x3),("first",x4),("una",x5),("nxt",x6),("rcv",x7),("wnd",x8),("told",x9),("told_by",x10),("most",x11),("written",x12)]::r)=some (θ++.ins "End" [("ours",x0),("theirs",x1),("state",x2),("error",x3),("first",x4),("una",x5),("nxt",x6),("rcv",x7),("wnd",x8),("told",x9),("told_by",x10),("most",x11),("written",x12),("come",y)]::r):=Z6 θ r ce (by simp only [List.map_cons,List.map_nil]; decide +kernel) (by simp only [List.length_cons,List.length_nil]; decide)
theorem Znx (θ r:Sto) (x0 x1 x2 x3 x4 x5 x6 x7 x8 x9 x10 x11 x12 x13 y:D):za ["End"] "early" y (.ref θ.length) (θ++.ins "End" [("ours",x0),("theirs",x1),("state",x2),("error",x3),("first",x4),("una",x5),("nxt",x6),("rcv",x7),("wnd",x8),("told",x9),("told_by",x10),("most",x11),("written",x12),("come",x13)]::r)=some (θ++.ins "End" [("ours",x0),("theirs",x1),("state",x2),("error",x3),("first",x4),("una",x5),("nxt",x6),("rcv",x7),("wnd",x8),("told",x9),("told_by",x10),("most",x11),("written",x12),("come",x13),("early",y)]::r):=Z6 θ r ce (by simp only [List.map_cons,List.map_nil]; decide +kernel) (by simp only [List.length_cons,List.length_nil]; decide)
theorem ZgZ (θ r:Sto) (x0 x1 x2 x3 x4 x5 x6 x7 x8 x9 x10 x11 x12 x13 x14 y:D):za ["End"] "early_fin" y (.ref θ.length) (θ++.ins "End" [("ours",x0),("theirs",x1),("state",x2),("error",x3),("first",x4),("una",x5),("nxt",x6),("rcv",x7),("wnd",x8),("told",x9),("told_by",x10),("most",x11),("written",x12),("come",x13),("early",x14)]::r)=some (θ++.ins "End" [("ours",x0),("theirs",x1),("state",x2),("error",x3),("first",x4),("una",x5),("nxt",x6),("rcv",x7),("wnd",x8),("told",x9),("told_by",x10),("most",x11),("written",x12),("come",x13),("early",x14),("early_fin",y)]::r):=Z6 θ r ce (by simp only [List.map_cons,List.map_nil]; decide +kernel) (by simp only [List.length_cons,List.length_nil]; decide)
theorem Zf3 (θ r:Sto) (x0 x1 x2 x3 x4 x5 x6 x7 x8 x9 x10 x11 x12 x13 x14 x15 y:D):za ["End"] "has_closed" y (.ref θ.length) (θ++.ins "End" [("ours",x0),("theirs",x1),("state",x2),("error",x3),("first",x4),("una",x5),("nxt",x6),("rcv",x7),("wnd",x8),("told",x9),("told_by",x10),("most",x11),("written",x12),("come",x13),("early",x14),("early_fin",x15)]::r)=some (θ++.ins "End" [("ours",x0),("theirs",x1),("state",x2),("error",x3),("first",x4),("una",x5),("nxt",x6),("rcv",x7),("wnd",x8),("told",x9),("told_by",x10),("most",x11),("written",x12),("come",x13),("early",x14),("early_fin",x15),("has_closed",y)]::r):=Z6 θ r ce (by simp only [List.map_cons,List.map_nil]; decide +kernel) (by simp only [List.length_cons,List.length_nil]; decide)
theorem ZlN (θ r:Sto) (x0 x1 x2 x3 x4 x5 x6 x7 x8 x9 x10 x11 x12 x13 x14 x15 x16 y:D):za ["End"] "behind" y (.ref θ.length) (θ++.ins "End" [("ours",x0),("theirs",x1),("state",x2),("error",x3),("first",x4),("una",x5),("nxt",x6),("rcv",x7),("wnd",x8),("told",x9),("told_by",x10),("most",x11),("written",x12),("come",x13),("early",x14),("early_fin",x15),("has_closed",x16)]::r)=some (θ++.ins "End" [("ours",x0),("theirs",x1),("state",x2),("error",x3),("first",x4),("una",x5),("nxt",x6),("rcv",x7),("wnd",x8),("told",x9),("told_by",x10),("most",x11),("written",x12),("come",x13),("early",x14),("early_fin",x15),("has_closed",x16),("behind",y)]::r):=Z6 θ r ce (by simp only [List.map_cons,List.map_nil]; decide +kernel) (by simp only [List.length_cons,List.length_nil]; decide)
theorem Zf1 (θ r:Sto) (x0 x1 x2 x3 x4 x5 x6 x7 x8 x9 x10 x11 x12 x13 x14 x15 x16 x17 y:D):za ["End"] "owed_reset" y (.ref θ.length) (θ++.ins "End" [("ours",x0),("theirs",x1),("state",x2),("error",x3),("first",x4),("una",x5),("nxt",x6),("rcv",x7),("wnd",x8),("told",x9),("told_by",x10),("most",x11),("written",x12),("come",x13),("early",x14),("early_fin",x15),("has_closed",x16),("behind",x17)]::r)=some (θ++.ins "End" [("ours",x0),("theirs",x1),("state",x2),("error",x3),("first",x4),("una",x5),("nxt",x6),("rcv",x7),("wnd",x8),("told",x9),("told_by",x10),("most",x11),("written",x12),("come",x13),("early",x14),("early_fin",x15),("has_closed",x16),("behind",x17),("owed_reset",y)]::r):=Z6 θ r ce (by simp only [List.map_cons,List.map_nil]; decide +kernel) (by simp only [List.length_cons,List.length_nil]; decide)
theorem ZhT (θ r:Sto) (x0 x1 x2 x3 x4 x5 x6 x7 x8 x9 x10 x11 x12 x13 x14 x15 x16 x17 x18 y:D):za ["End"] "owes_syn" y (.ref θ.length) (θ++.ins "End" [("ours",x0),("theirs",x1),("state",x2),("error",x3),("first",x4),("una",x5),("nxt",x6),("rcv",x7),("wnd",x8),("told",x9),("told_by",x10),("most",x11),("written",x12),("come",x13),("early",x14),("early_fin",x15),("has_closed",x16),("behind",x17),("owed_reset",x18)]::r)=some (θ++.ins "End" [("ours",x0),("theirs",x1),("state",x2),("error",x3),("first",x4),("una",x5),("nxt",x6),("rcv",x7),("wnd",x8),("told",x9),("told_by",x10),("most",x11),("written",x12),("come",x13),("early",x14),("early_fin",x15),("has_closed",x16),("behind",x17),("owed_reset",x18),("owes_syn",y)]::r):=Z6 θ r ce (by simp only [List.map_cons,List.map_nil]; decide +kernel) (by simp only [List.length_cons,List.length_nil]; decide)
theorem Zft (θ r:Sto) (x0 x1 x2 x3 x4 x5 x6 x7 x8 x9 x10 x11 x12 x13 x14 x15 x16 x17 x18 x19 y:D):za ["End"] "owes_answer" y (.ref θ.length) (θ++.ins "End" [("ours",x0),("theirs",x1),("state",x2),("error",x3),("first",x4),("una",x5),("nxt",x6),("rcv",x7),("wnd",x8),("told",x9),("told_by",x10),("most",x11),("written",x12),("come",x13),("early",x14),("early_fin",x15),("has_closed",x16),("behind",x17),("owed_reset",x18),("owes_syn",x19)]::r)=some (θ++.ins "End" [("ours",x0),("theirs",x1),("state",x2),("error",x3),("first",x4),("una",x5),("nxt",x6),("rcv",x7),("wnd",x8),("told",x9),("told_by",x10),("most",x11),("written",x12),("come",x13),("early",x14),("early_fin",x15),("has_closed",x16),("behind",x17),("owed_reset",x18),("owes_syn",x19),("owes_answer",y)]::r):=Z6 θ r ce (by simp only [List.map_cons,List.map_nil]; decide +kernel) (by simp only [List.length_cons,List.length_nil]; decide)
theorem ZlM (θ r:Sto) (x0 x1 x2 x3 x4 x5 x6 x7 x8 x9 x10 x11 x12 x13 x14 x15 x16 x17 x18 x19 x20 y:D):za ["End"] "probes" y (.ref θ.length) (θ++.ins "End" [("ours",x0),("theirs",x1),("state",x2),("error",x3),("first",x4),("una",x5),("nxt",x6),("rcv",x7),("wnd",x8),("told",x9),("told_by",x10),("most",x11),("written",x12),("come",x13),("early",x14),("early_fin",x15),("has_closed",x16),("behind",x17),("owed_reset",x18),("owes_syn",x19),("owes_answer",x20)]::r)=some (θ++.ins "End" [("ours",x0),("theirs",x1),("state",x2),("error",x3),("first",x4),("una",x5),("nxt",x6),("rcv",x7),("wnd",x8),("told",x9),("told_by",x10),("most",x11),("written",x12),("come",x13),("early",x14),("early_fin",x15),("has_closed",x16),("behind",x17),("owed_reset",x18),("owes_syn",x19),("owes_answer",x20),("probes",y)]::r):=Z6 θ r ce (by simp only [List.map_cons,List.map_nil]; decide +kernel) (by simp only [List.length_cons,List.length_nil]; decide)
theorem Znu (θ r:Sto) (x0 x1 x2 x3 x4 x5 x6 x7 x8 x9 x10 x11 x12 x13 x14 x15 x16 x17 x18 x19 x20 x21 y:D):za ["End"] "since" y (.ref θ.length) (θ++.ins "End" [("ours",x0),("theirs",x1),("state",x2),("error",x3),("first",x4),("una",x5),("nxt",x6),("rcv",x7),("wnd",x8),("told",x9),("told_by",x10),("most",x11),("written",x12),("come",x13),("early",x14),("early_fin",x15),("has_closed",x16),("behind",x17),("owed_reset",x18),("owes_syn",x19),("owes_answer",x20),("probes",x21)]::r)=some (θ++.ins "End" [("ours",x0),("theirs",x1),("state",x2),("error",x3),("first",x4),("una",x5),("nxt",x6),("rcv",x7),("wnd",x8),("told",x9),("told_by",x10),("most",x11),("written",x12),("come",x13),("early",x14),("early_fin",x15),("has_closed",x16),("behind",x17),("owed_reset",x18),("owes_syn",x19),("owes_answer",x20),("probes",x21),("since",y)]::r):=Z6 θ r ce (by simp only [List.map_cons,List.map_nil]; decide +kernel) (by simp only [List.length_cons,List.length_nil]; decide)
theorem Zq1 (θ r:Sto) (x0 x1 x2 x3 x4 x5 x6 x7 x8 x9 x10 x11 x12 x13 x14 x15 x16 x17 x18 x19 x20 x21 x22 y:D):za ["End"] "wait" y (.ref θ.length) (θ++.ins "End" [("ours",x0),("theirs",x1),("state",x2),("error",x3),("first",x4),("una",x5),("nxt",x6),("rcv",x7),("wnd",x8),("told",x9),("told_by",x10),("most",x11),("written",x12),("come",x13),("early",x14),("early_fin",x15),("has_closed",x16),("behind",x17),("owed_reset",x18),("owes_syn",x19),("owes_answer",x20),("probes",x21),("since",x22)]::r)=some (θ++.ins "End" [("ours",x0),("theirs",x1),("state",x2),("error",x3),("first",x4),("una",x5),("nxt",x6),("rcv",x7),("wnd",x8),("told",x9),("told_by",x10),("most",x11),("written",x12),("come",x13),("early",x14),("early_fin",x15),("has_closed",x16),("behind",x17),("owed_reset",x18),("owes_syn",x19),("owes_answer",x20),("probes",x21),("since",x22),("wait",y)]::r):=Z6 θ r ce (by simp only [List.map_cons,List.map_nil]; decide +kernel) (by simp only [List.length_cons,List.length_nil]; decide)
theorem Zns (θ r:Sto) (x0 x1 x2 x3 x4 x5 x6 x7 x8 x9 x10 x11 x12 x13 x14 x15 x16 x17 x18 x19 x20 x21 x22 x23 y:D):za ["End"] "tries" y (.ref θ.length) (θ++.ins "End" [("ours",x0),("theirs",x1),("state",x2),("error",x3),("first",x4),("una",x5),("nxt",x6),("rcv",x7),("wnd",x8),("told",x9),("told_by",x10),("most",x11),("written",x12),("come",x13),("early",x14),("early_fin",x15),("has_closed",x16),("behind",x17),("owed_reset",x18),("owes_syn",x19),("owes_answer",x20),("probes",x21),("since",x22),("wait",x23)]::r)=some (θ++.ins "End" [("ours",x0),("theirs",x1),("state",x2),("error",x3),("first",x4),("una",x5),("nxt",x6),("rcv",x7),("wnd",x8),("told",x9),("told_by",x10),("most",x11),("written",x12),("come",x13),("early",x14),("early_fin",x15),("has_closed",x16),("behind",x17),("owed_reset",x18),("owes_syn",x19),("owes_answer",x20),("probes",x21),("since",x22),("wait",x23),("tries",y)]::r):=Z6 θ r ce (by simp only [List.map_cons,List.map_nil]; decide +kernel) (by simp only [List.length_cons,List.length_nil]; decide)
theorem Zul {a b c:Int} {act:Bool} (θ:Sto):Zcm [.ref θ.length,.int a,.int b,.int c,.bl act] (θ++[.ins "End" []])=.ok .non (θ++cells θ.length (newEnd a b c act)):=by
  cases act with
  | true=>
    simp [Zcm,Zep,Znz,Zq3,ZlL,Znt,Znw,Znv,ZtS,ZtU,ZtT,ZtR,Zq2,ZiY,Zq4,ZiX,Zq5,Znx,ZgZ,Zf3,ZlN,Zf1,ZhT,Zft,ZlM,Znu,Zq1,Zns]
    rfl
  | false=>
    simp [Zcm,Zep,Znz,Zq3,ZlL,Znt,Znw,Znv,ZtS,ZtU,ZtT,ZtR,Zq2,ZiY,Zq4,ZiX,Zq5,Znx,ZgZ,Zf3,ZlN,Zf1,ZhT,Zft,ZlM,Znu,Zq1,Zns]
    rfl
theorem Zqn {a b c:Int} {act:Bool} (θ:Sto):ZeI [.int a,.int b,.int c,.bl act] θ=.ok (.ref θ.length) (θ++cells θ.length (newEnd a b c act)):=by
  simp [ZeI,Zio,mkG,Zul]
theorem ZrJ (e:Zw):cells 0 e=upE (cells 0 e) 0 e:=by
  simp [cells,upE]
end
end
end My
namespace L2
open PySem PySem.Spec PyProof.Rows
open AutoSeq1 (wpAny_loadPart')
theorem Ztf (tp:Addr) (its:Array Value) (k:Nat) (dct:Option Addr) (sl:Array (Option Value)) :
    Meets (Builtin.«enumerate.__new__» ⟨[.type "enumerate",.ref tp],[]⟩) (fun _ R s=>s.heap.get? tp=some { cls:=.type "tuple",dict:=dct,data:=.seq its k,slots:=sl }∧
      R (.ok (.ret (.ref (s.heap.push { cls:=.type "tuple_iterator",data:=.fields #[.ref tp,.int 0 0] }).objs.size)))
        { s with heap:=(s.heap.push { cls:=.type "tuple_iterator",data:=.fields #[.ref tp,.int 0 0] }).push { cls:=.type "enumerate",data:=.fields #[.none,.bool false,.ref s.heap.objs.size,rawInt 0,.none,.none] } }):=by
  refine .of_wp fun prog w A R s h=>?_
  obtain ⟨hp,g,d,tk,os⟩:=s
  obtain ⟨ht,h⟩:=h
  have hsub:=sub_enumerate
  have hT:Heap.IsTuple (Shared.heap ⟨hp,g,d,tk,os⟩) tp its:=⟨_,ht,rfl,k,rfl⟩
  wp_walk using wpAny_loadPart' ht
  refine wpAny_stack_any fun st=>?_
  refine wpAny_pure ?_
  split
  · rename_i c _ _ _ _ _
    cases (c == Value.type "enumerate")<;>(wp_walk using wpAny_loadPart' ht,wpAny_pyIter_tuple hT; exact ⟨_,rfl,h⟩)
  · wp_walk using wpAny_loadPart' ht,wpAny_pyIter_tuple hT; exact ⟨_,rfl,h⟩
section
variable {prog:Program} {w:World} {A:Around} {E:Value→Shared→Prop} {s:Shared}
theorem ZrM {tp:Addr} {its:Array Value} {Q:Value→Shared→Prop} (hT:s.heap.IsTuple tp its)
    (h:∀h',IsEnum h' (s.heap.objs.size+1) s.heap.objs.size 0 .none→h'.IsTupleIter s.heap.objs.size tp 0→h'.objs.size=s.heap.objs.size+2→(∀b o,s.heap.get? b=some o→h'.get? b=some o)→Q (.ref (s.heap.objs.size+1)) { s with heap:=h' }) :
    wpAny (model prog w) A (call (.type "enumerate") [.ref tp]) Q E s:=by
  obtain ⟨⟨c,dct,dt,sl⟩,ht,hc,k,hd⟩:=hT
  cases (show c=.type "tuple" from hc)
  cases (show dt=.seq its k from hd)
  refine callType_new F.called_enumerate (by decide) (F.typeCall_enumerate_1 _) (F.newCall_enumerate_1 _) (fun obj=>F.args_object_init_2 obj _) F.entry_enumerate_new (Ztf tp its k dct sl) ⟨ht,?_⟩
  have hz:(s.heap.push { cls:=.type "tuple_iterator",data:=.fields #[.ref tp,.int 0 0] }).objs.size=s.heap.objs.size+1:=Heap.size_push ..
  show _∧_
  rw [hz]
  have he:IsEnum ((s.heap.push { cls:=.type "tuple_iterator",data:=.fields #[.ref tp,.int 0 0] }).push { cls:=.type "enumerate",data:=.fields #[.none,.bool false,.ref s.heap.objs.size,rawInt 0,.none,.none] }) (s.heap.objs.size+1) s.heap.objs.size 0 .none:=by
    have q:=Heap.get?_push_size (s.heap.push { cls:=.type "tuple_iterator",data:=.fields #[.ref tp,.int 0 0] }) (o:={ cls:=.type "enumerate",data:=.fields #[.none,.bool false,.ref s.heap.objs.size,rawInt 0,.none,.none] }) rfl
    rw [hz] at q
    exact q
  exact ⟨⟨_,he,rfl⟩,h _ he ⟨_,Heap.get?_push_of_some _ (Heap.get?_push_size _ rfl),rfl,rfl⟩ (by rw [Heap.size_push,hz]) fun b o x=>Heap.get?_push_of_some _ (Heap.get?_push_of_some _ x)⟩
theorem ZmJ {it tp:Addr} {i:Nat} {its} {x:Value} {Q:Value→Shared→Prop} (hit:s.heap.IsTupleIter it tp i) (ht:s.heap.IsTuple tp its) (hx:its[i]?=some x)
    (hQ:∀h',h'.IsTupleIter it tp (i+1)→Heap.SameBut it s.heap h'→Q x { s with heap:=h' }):wpAny (model prog w) A (Builtin.SmallTypes.nextOf (.ref it)) Q E s:=by
  obtain ⟨o,ho,hc,hd⟩:=id hit
  obtain ⟨ol,hol,_,nl,hdl⟩:=ht
  unfold Builtin.SmallTypes.nextOf
  refine wpAny_bind (wpAny_callSpecial?_slot (name:=Str.ofString "__next__") hit.typeIs F.slot_tuple_iterator_next (wpAny_call_entry F.slot_tuple_iterator_next hit.typeIs F.entry_tuple_iterator_next ?_ (F.args_tuple_iterator_next_1 _)))
  show wpAny _ _ (field (.ref it) 0 >>= _) _ _ s
  refine wpAny_bind (wpAny_field ho hd (x:=.ref tp) rfl ?_)
  rw [if_neg (show ¬((Value.ref tp == Value.none)=true) from Bool.false_ne_true)]
  refine wpAny_bind (wpAny_field ho hd (x:=.int i 0) rfl (wpAny_bind (wpAny_seqItems hol hdl ?_)))
  simp only [Int.toNat_natCast,hx]
  refine wpAny_bind (wpAny_setField ho hd (by simp) (wpAny_pure ⟨x,rfl,wpAny_pure (hQ _ ⟨_,Heap.get?_update_self _ ho (Obj.isFreed_of_fields (Obj.data_mapFields hd _)),(Obj.cls_mapFields ..).trans hc,?_⟩ (Heap.SameBut.update ..))⟩))
  rw [Obj.data_mapFields hd]
  simp [rawInt]
theorem Zom {it tp:Addr} {i:Nat} {its} {Q:Value→Shared→Prop} (hh:A.handled=none) (hit:s.heap.IsTupleIter it tp i) (ht:s.heap.IsTuple tp its) (hx:its[i]?=none)
    (hE:∀h' e,Heap.ExtBut it s.heap h'→(∃o,h'.get? e=some o∧o.cls=.type "StopIteration")→E (.ref e) { s with heap:=h' }):wpAny (model prog w) A (Builtin.SmallTypes.nextOf (.ref it)) Q E s:=by
  obtain ⟨o,ho,hc,hd⟩:=id hit
  obtain ⟨ol,hol,_,nl,hdl⟩:=ht
  unfold Builtin.SmallTypes.nextOf
  refine wpAny_bind (wpAny_callSpecial?_slot (name:=Str.ofString "__next__") hit.typeIs F.slot_tuple_iterator_next (wpAny_call_entry F.slot_tuple_iterator_next hit.typeIs F.entry_tuple_iterator_next ?_ (F.args_tuple_iterator_next_1 _)))
  show wpAny _ _ (field (.ref it) 0 >>= _) _ _ s
  refine wpAny_bind (wpAny_field ho hd (x:=.ref tp) rfl ?_)
  rw [if_neg (show ¬((Value.ref tp == Value.none)=true) from Bool.false_ne_true)]
  refine wpAny_bind (wpAny_field ho hd (x:=.int i 0) rfl (wpAny_bind (wpAny_seqItems hol hdl ?_)))
  simp only [Int.toNat_natCast,hx]
  refine wpAny_bind (wpAny_rule (wpAny_bind (wpAny_setField ho hd (by simp) ?_)))
  refine wpAny_bind (m:=newExc (.type "StopIteration") []) ?_
  simp only [newExc,newTuple]
  refine wpAny_bind (wpAny_newObj_type (wpAny_bind (m:=firstArgMember _ _) (wpAny_of_eq (a:=Value.none) (by first | rfl | (simp only [firstArgMember]; rfl)) (wpAny_newObj_type ?_ (by size_fits)))) (by size_fits))
  simp only [raiseNew]
  refine wpAny_bind (wpAny_handled ?_)
  rw [show A.in1.handled=none from hh]
  exact wpAny_bind (wpAny_pure (wpAny_throw (hE _ _ (((Heap.SameBut.update ..).extBut.push _).push _) ⟨_,Heap.get?_push_size _ rfl,rfl⟩)))
theorem Zry {e it tp:Addr} {i:Nat} {its:Array Value} {x old:Value} {Q:Value→Shared→Prop} (he:IsEnum s.heap e it i old) (hit:s.heap.IsTupleIter it tp i) (ht:s.heap.IsTuple tp its) (hx:its[i]?=some x) (hne:e≠it)
    (hQ:∀h',IsEnumOut h' e it ((i:Int)+1) x s.heap.objs.size→h'.IsTupleIter it tp (i+1)→h'.get? s.heap.objs.size=some { cls:=.type "tuple",data:=.seq #[.int i s.toks,x] }→h'.objs.size=s.heap.objs.size+1→(∀b o,b≠e→b≠it→s.heap.get? b=some o→h'.get? b=some o)→Q (.ref s.heap.objs.size) { s with heap:=h',toks:=s.toks+1 }) :
    wpAny (model prog w) A (Builtin.«enumerate.__next__» ⟨[.ref e],[]⟩) (fun fin s'=>∃v,fin=.done (.ret v)∧Q v s') E s:=by
  obtain ⟨hp,g,d,tk,os⟩:=s
  show wpAny _ _ (field (.ref e) 2 >>= _) _ _ _
  refine wpAny_bind (wpAny_field he rfl (x:=.ref it) rfl (wpAny_bind (ZmJ hit ht hx fun h1 hit1 hs1=>?_)))
  replace hs1:Heap.SameBut it hp h1:=hs1
  have he1:IsEnum h1 e it i old:=(hs1.2 e hne).trans he
  refine wpAny_bind (wpAny_field (s:=⟨h1,g,d,tk,os⟩) he1 rfl (x:=rawInt i) rfl ?_)
  refine wpAny_bind (wpAny_field (s:=⟨h1,g,d,tk,os⟩) he1 rfl (x:=.none) rfl ?_)
  show wpAny _ _ (mkInt i >>= _) _ _ ⟨h1,g,d,tk,os⟩
  refine wpAny_bind (wpAny_mkInt ?_)
  show wpAny _ _ (setField (.ref e) 3 (rawInt ((i:Int)+1)) >>= _) _ _ ⟨h1,g,d,tk+1,os⟩
  refine wpAny_bind (wpAny_setField_rec he1 (by simp) fun h2 he2 hs2=>?_)
  replace hs2:Heap.SameBut e h1 h2:=hs2
  replace he2:IsEnum h2 e it ((i:Int)+1) old:=he2
  show wpAny _ _ (setField (.ref e) 4 .none >>= _) _ _ ⟨h2,g,d,tk+1,os⟩
  refine wpAny_bind (wpAny_setField_rec he2 (by simp) fun h3 he3 hs3=>?_)
  replace hs3:Heap.SameBut e h2 h3:=hs3
  replace he3:IsEnum h3 e it ((i:Int)+1) old:=he3
  show wpAny _ _ (newTuple [.int i tk,x] >>= _) _ _ ⟨h3,g,d,tk+1,os⟩
  refine wpAny_bind (wpAny_newTuple ?_)
  have he4:IsEnum (h3.push { cls:=.type "tuple",data:=.seq #[.int i tk,x] }) e it ((i:Int)+1) old:=Heap.get?_push_of_some _ he3
  obtain ⟨h4,hh4⟩:∃z,z=h3.push { cls:=.type "tuple",data:=.seq #[.int i tk,x] }:=⟨_,rfl⟩
  rw [←hh4] at he4
  have hsz:h3.objs.size=hp.objs.size:=by rw [hs3.1,hs2.1,hs1.1]
  have hel:hp.objs.size≠e:=Nat.ne_of_gt (Heap.lt_size he)
  have ht4:h4.get? hp.objs.size=some { cls:=.type "tuple",data:=.seq #[.int i tk,x] }:=by rw [hh4,←hsz]; exact Heap.get?_push_size _ rfl
  have hz4:h4.objs.size=hp.objs.size+1:=by rw [hh4,Heap.size_push,hsz]
  have hk4:∀b o,b≠e→b≠it→hp.get? b=some o→h4.get? b=some o:=fun b o q1 q2 q3=>by
    rw [hh4]
    exact Heap.get?_push_of_some _ (hs3.extBut b o q1 (hs2.extBut b o q1 (hs1.extBut b o q2 q3)))
  have hit4:h4.IsTupleIter it tp (i+1):=by
    obtain ⟨o,ho,r⟩:=(hit1.extBut hs2.extBut (Ne.symm hne)).extBut hs3.extBut (Ne.symm hne)
    exact ⟨o,by rw [hh4]; exact Heap.get?_push_of_some _ ho,r⟩
  show wpAny _ _ (Builtin.SmallTypes.ownedTupleIsFree (.ref e) >>= _) _ _ ⟨h3.push { cls:=.type "tuple",data:=.seq #[.int i tk,x] },g,d,tk+1,os⟩
  rw [←hh4,hsz]
  refine wpAny_bind ?_
  unfold Builtin.SmallTypes.ownedTupleIsFree
  refine wpAny_bind (wpAny_field he4 rfl (x:=.none) rfl (wpAny_pure ?_))
  simp only [if_true]
  refine wpAny_bind (wpAny_rule (wpAny_bind (wpAny_field he4 rfl (x:=old) rfl (wpAny_bind (wpAny_setField_rec he4 (by simp) fun h5 he5 hs5=>?_)))))
  replace hs5:Heap.SameBut e h4 h5:=hs5
  replace he5:IsEnum h5 e it ((i:Int)+1) x:=he5
  refine wpAny_bind (m:=Builtin.SmallTypes.ownedTupleHandOut (.ref e) (.ref hp.objs.size)) ?_
  unfold Builtin.SmallTypes.ownedTupleHandOut
  refine wpAny_bind (wpAny_setField_rec he5 (by simp) fun h6 he6 hs6=>?_)
  replace hs6:Heap.SameBut e h5 h6:=hs6
  replace he6:IsEnumOut h6 e it ((i:Int)+1) x hp.objs.size:=he6
  refine wpAny_setField_rec he6 (by simp) fun h7 he7 hs7=>?_
  replace hs7:Heap.SameBut e h6 h7:=hs7
  replace he7:IsEnumOut h7 e it ((i:Int)+1) x hp.objs.size:=he7
  have up:∀b o,b≠e→h4.get? b=some o→h7.get? b=some o:=fun b o q1 q2=>hs7.extBut b o q1 (hs6.extBut b o q1 (hs5.extBut b o q1 q2))
  refine wpAny_bind (wpAny_letGo (wpAny_pure ⟨_,rfl,hQ h7 he7 ?_ (up _ _ hel ht4) (by rw [hs7.1,hs6.1,hs5.1,hz4]) fun b o q1 q2 q3=>up b o q1 (hk4 b o q1 q2 q3)⟩))
  obtain ⟨o,ho,r⟩:=hit4
  exact ⟨o,up _ _ (Ne.symm hne) ho,r⟩
theorem Zrz {e it tp:Addr} {i:Nat} {its:Array Value} {x old:Value} {Q:Option Value→Shared→Prop} (he:IsEnum s.heap e it i old) (hit:s.heap.IsTupleIter it tp i) (ht:s.heap.IsTuple tp its) (hx:its[i]?=some x) (hne:e≠it)
    (hQ:∀h',IsEnumOut h' e it ((i:Int)+1) x s.heap.objs.size→h'.IsTupleIter it tp (i+1)→h'.get? s.heap.objs.size=some { cls:=.type "tuple",data:=.seq #[.int i s.toks,x] }→h'.objs.size=s.heap.objs.size+1→(∀b o,b≠e→b≠it→s.heap.get? b=some o→h'.get? b=some o)→Q (some (.ref s.heap.objs.size)) { s with heap:=h',toks:=s.toks+1 }) :
    wpAny (model prog w) A (pyNext (.ref e)) Q E s:=by
  have hT:s.TypeIs (.ref e) "enumerate":=⟨_,he,rfl⟩
  unfold pyNext
  exact wpAny_bind (wpAny_attempt (wpAny_callSpecial?_slot (name:=Str.ofString "__next__") hT F.slot_enumerate_next (wpAny_call_entry F.slot_enumerate_next hT F.entry_enumerate_next (Zry he hit ht hx hne fun h' a b c d k=>wpAny_pure (hQ h' a b c d k)) (F.args_enumerate_next_1 _))))
theorem Ztg {e it tp:Addr} {i:Nat} {its:Array Value} {old:Value} {Q:Option Value→Shared→Prop} (hh:A.handled=none) (he:IsEnum s.heap e it i old) (hit:s.heap.IsTupleIter it tp i) (ht:s.heap.IsTuple tp its) (hx:its[i]?=none)
    (hQ:∀h',Heap.ExtBut it s.heap h'→Q none { s with heap:=h' }):wpAny (model prog w) A (pyNext (.ref e)) Q E s:=by
  have hT:s.TypeIs (.ref e) "enumerate":=⟨_,he,rfl⟩
  unfold pyNext
  refine wpAny_bind (wpAny_attempt (wpAny_callSpecial?_slot (name:=Str.ofString "__next__") hT F.slot_enumerate_next (wpAny_call_entry F.slot_enumerate_next hT F.entry_enumerate_next ?_ (F.args_enumerate_next_1 _))))
  show wpAny _ _ (field (.ref e) 2 >>= _) _ _ _
  refine wpAny_bind (wpAny_field he rfl (x:=.ref it) rfl (wpAny_bind (Zom hh hit ht hx fun h' x he' hx'=>?_)))
  obtain ⟨o,ho,hc⟩:=hx'
  exact wpAny_bind (wpAny_isInstance (T:="StopIteration") (b:=true) ⟨o,ho,hc⟩ isSubtype_stop (wpAny_pure (hQ _ he')))
def Ite (K:PySem.W.Frag) (a:Addr):It:=
  ⟨fun i H=>∃xs x,SqT K H a xs∧xs[i]?=some x,fun i H x H'=>∃p v,x=.ref p∧H p=none∧H'=upd H p (.tup [.int i,v])∧∀xs,SqT K H a xs→xs[i]?=some v,fun i H=>∃xs,SqT K H a xs∧xs.length≤i⟩
theorem Zqk {P:Program} {w:World} {K:PySem.W.Frag} {es:List Expr} {x1} {pos:Pos} (a e it:Addr) (hne:e≠it) (ha:a≠e) (hb:a≠it):ZoM P w K (.Tuple es x1 pos) (Ite K a) [e,it] e (fun i h=>(∃old,IsEnum h e it i old)∧h.IsTupleIter it a i) where
  mem:=by simp
  obj:=fun i h st b hb=>by
    obtain ⟨⟨old,st1⟩,o,e1,c,d⟩:=st
    have q:b=e∨b=it:=by simpa using hb
    rcases q with rfl | rfl
    · exact ⟨_,st1,fun v z=>by
        have z':Data.fields _=Data.cell v:=z
        cases z'⟩
    · exact ⟨o,e1,fun v z=>by rw [d] at z; cases z⟩
  keep:=fun i h h' st k=>by
    obtain ⟨⟨old,st1⟩,o,e1,r⟩:=st
    exact ⟨⟨old,k e (by simp) _ st1⟩,o,k it (by simp) o e1,r⟩
  item:=by
    intro X hP hw hK hc i pins s σ H E I hf st hg
    subst hP hw hK
    obtain ⟨⟨old,st1⟩,st2⟩:=st
    obtain ⟨xs,x,hq,hx⟩:=hg
    obtain ⟨its,rv,p,hz⟩:=I.tuple hq
    obtain ⟨u,hu,ru⟩:=rv.get hx
    obtain ⟨f0,f1,f2,f3,f4,f5⟩:=hf e (by simp)
    obtain ⟨g0,g1,g2,g3,g4,g5⟩:=hf it (by simp)
    refine Zrz st1 st2 (show s.heap.IsTuple a its.toArray from p) (x:=u) (by simpa using hu) hne fun h' out it' tp' sz' kk=>?_
    have hes:e<s.heap.objs.size:=Heap.lt_size st1
    have his:it<s.heap.objs.size:=by obtain ⟨o,q,_⟩:=st2; exact Heap.lt_size q
    refine ⟨_,rfl,wpAny_letOwnedTupleGo_enum out fun h2 e2 s2=>?_⟩
    replace s2:Heap.SameBut e h' h2:=s2
    have tp2:h2.get? s.heap.objs.size=some { cls:=.type "tuple",data:=.seq #[.int i s.toks,u] }:=s2.extBut _ _ (Nat.ne_of_gt hes) tp'
    have k2:∀b o,b≠e→b≠it→s.heap.get? b=some o→h2.get? b=some o:=fun b o q1 q2 q3=>s2.extBut b o q1 (kk b o q1 q2 q3)
    have hn:H s.heap.objs.size=none:=I.hok.fresh (Nat.le_refl _)
    have nn:∀{b:Addr} {o:HO},H b=some o→b≠s.heap.objs.size:=fun q=>zm q hn
    have nch:∀{b:Addr},b∉[e,it]→b≠e∧b≠it:=fun hb=>⟨fun z=>hb (by simp [z]),fun z=>hb (by simp [z])⟩
    have new:ObjOk X.prog X.w (upd H s.heap.objs.size (.tup [.int i,x])) h2 s.heap.objs.size (.tup [.int i,x]):=⟨by show 2≤sizeLine; decide,[.int i s.toks,u],.cons ⟨_,rfl⟩ (.cons ru .nil),⟨_,tp2,rfl,_,rfl⟩⟩
    have I1:Inv X pins σ (upd H s.heap.objs.size (.tup [.int i,x])) { s with heap:=h2,toks:=s.toks+1 }:=by
      refine I.step (g':=s.gens) (d':=s.drawn) (ch:=[e,it]) (fun b hb=>?_) (fun b o _ _ hc e' _=>k2 b o (nch hc).1 (nch hc).2 e') (fun b o _ _ hc e' _=>⟨o.slots,k2 b o (nch hc).1 (nch hc).2 e'⟩) (fun b o _ e' n=>by rw [ZS (Nat.ne_of_lt (Heap.lt_size e'))]; exact n)
        (fun b o hc e'=>⟨o,k2 b o (nch hc).1 (nch hc).2 e'⟩) (fun b _ q=>by rw [ZS (nn q)]; exact q) (fun b _ _ q=>by rw [ZS (nn q)]; exact q) (fun b ps q=>⟨#[],by rw [ZS (nn q),q]; simp⟩) (fun m hm=>?_) (fun b v q=>?_) I.bare
      · have z:b=e∨b=it:=by simpa using hb
        rcases z with rfl | rfl
        · exact ⟨f3,f1,f4,f5⟩
        · exact ⟨g3,g1,g4,g5⟩
      · obtain ⟨o,es,ep,ho,r⟩:=hm
        exact ⟨o,es,ep,k2 _ o (Ne.symm f1) (Ne.symm g1) ho,r⟩
      · by_cases hb:b=s.heap.objs.size
        · subst hb; rw [zi] at q; cases q; exact new
        · rw [ZS hb] at q
          refine (I.hok b v q).stay (fun c o hc z=>k2 c o ?_ ?_ z) (fun c z=>by rw [ZS (nn z)]; exact z) fun c _ z=>by rw [ZS (nn z)]; exact z
          · rcases hc with z | z
            · rw [z]; exact fun y=>by rw [y,f0] at q; cases q
            · exact fun y=>by rw [y,f0] at z; cases z
          · rcases hc with z | z
            · rw [z]; exact fun y=>by rw [y,g0] at q; cases q
            · exact fun y=>by rw [y,g0] at z; cases z
    refine ⟨.ref s.heap.objs.size,_,I1,rfl,⟨_,x,rfl,hn,rfl,fun ys hy=>by rw [I.tuple_inj hy hq]; exact hx⟩,⟨⟨_,by simpa using e2⟩,?_⟩,fun b hb=>?_⟩
    · obtain ⟨o,q,r⟩:=it'
      exact ⟨o,s2.extBut _ _ (Ne.symm hne) q,r⟩
    · have z:b=e∨b=it:=by simpa using hb
      rcases z with rfl | rfl
      · rw [ZS (Nat.ne_of_lt hes)]; exact f0
      · rw [ZS (Nat.ne_of_lt his)]; exact g0
  done:=by
    intro X hP hw hK hc i pins s σ H E I hf st hg
    subst hP hw hK
    obtain ⟨⟨old,st1⟩,st2⟩:=st
    obtain ⟨xs,hq,hx⟩:=hg
    obtain ⟨its,rv,p,hz⟩:=I.tuple hq
    obtain ⟨f0,f1,f2,f3,f4,f5⟩:=hf it (by simp)
    have hl:=rv.length
    exact Ztg (I.ok.hd hc) st1 st2 (show s.heap.IsTuple a its.toArray from p) (by simp; omega) fun h' eb=>⟨rfl,I.turned (t':=s.toks) (fun b o hb e=>eb b o hb e) f0 f1 f3 f4 f5⟩
  self:=fun _ _ _ _ _ st h=>by
    obtain ⟨⟨old,st1⟩,_⟩:=st
    exact wpAny_pyIter_enum st1 h
end
end L2
namespace L2
open PySem PySem.Spec PyProof.Rows
section
variable {X:Cx}
def ZAT (K:PySem.W.Frag) (ta:TA):TI:=fun σ H R=>ta σ H fun vs H1=>∃a,vs=[.ref a]∧(∃xs,SqT K H1 a xs)∧R (Ite K a) H1
theorem ZuO {l:Expr} {ta:TA} {es:List Expr} {x1} {p pos tp:Pos} (hg:Gl X "enumerate") (hm:X.mg "enumerate"=none) (ha:PA X [l] ta) (hs:starEach [l] X.env=[(false,eval l X.env)]:=by rfl):PI X (.Tuple es x1 tp) (.Call (.Name "enumerate" p) [l] [] pos) (ZAT X.K ta):=by
  intro pins s σ H R I h
  refine Call_ (Zh6 I hg hm boot_enumerate (PyProof.Rows.callWith_type1 (thn (ha pos pins s σ H _ I h) fun us s1 ⟨vs,H1,I1,r1,q1⟩=>?_) hs rfl))
  obtain ⟨a,e,⟨xs,hq⟩,q⟩:=q1
  subst e
  obtain ⟨u,rfl,ru⟩:=ZfO r1
  cases ru
  obtain ⟨its,rv,t1,hz⟩:=I1.tuple hq
  have T1:s1.heap.IsTuple a its.toArray:=t1
  have al:a<s1.heap.objs.size:=by obtain ⟨o,z,_⟩:=T1; exact Heap.lt_size z
  refine ZrM T1 fun h' e' i' z' k'=>wpAny_pyIter_enum (s:={ s1 with heap:=h' }) e' ?_
  have I2:Inv X pins σ H1 { s1 with heap:=h' }:=I1.kept (t':=s1.toks) k'
  refine ⟨s1.heap.objs.size+1,[s1.heap.objs.size+1,s1.heap.objs.size],_,_,H1,rfl,I2,Zqk a _ _ (Nat.succ_ne_self _) (Nat.ne_of_lt (Nat.lt_succ_of_lt al)) (Nat.ne_of_lt al),⟨⟨_,e'⟩,i'⟩,fun b hb=>?_,q⟩
  have z:b=s1.heap.objs.size+1∨b=s1.heap.objs.size:=by simpa using hb
  have hb':s1.heap.objs.size≤b:=z.elim (fun y=>by rw [y]; exact Nat.le_succ _) fun y=>by rw [y]; exact Nat.le_refl _
  exact I1.fpOk hb' (I1.hok.fresh hb')
end
end L2
namespace L2.MM
open PySem PySem.Spec PyProof.Rows
section
variable {X:Cx}
def forE (i j:Nat) (body:SM):Nat→List D→SM
  | _,[]=>fun ρ θ=>.ok (.nx,ρ) θ
  | k,x::r=>fun ρ θ=>(body ((ρ.set i (.val (.int (k:Nat)))).set j (.val x)) θ).bind (Zfu (forE i j body (k+1) r))
def Zri (fa:AM) (i j:Nat) (body:SM):SM:=fun ρ θ=>(fa ρ θ).bind fun ds θ=>match ds with
  | [.tup xs]=>forE i j body 0 xs ρ θ
  | _=>.bad
theorem ZsX {l:Expr} {body:List Stmt} {fa:AM} {fb:SM} {x y:Str} {x1} {p p1 p2 tp cp pos:Pos} (i j:Nat) (hN:X.N.Nodup) (hp:PassesOwn (model X.prog X.w) X.A X.env X.xe) (hm:X.mg "enumerate"=none) (ha:MA X [l] fa) (hb:MSs X body fb) (hc:X.calm=true:=by rfl)
    (hg:Gl X "enumerate":=by rfl) (hs:starEach [l] X.env=[(false,eval l X.env)]:=by rfl)
    (hi:X.N[i]?=some x:=by rfl) (hx:Loc X.env.scope x:=by first | exact Or.inl rfl | exact Or.inr rfl) (hf:X.fn x=true∨X.env.scope.names.lookup x=some .local:=by first | exact .inl rfl | exact .inr rfl)
    (hj:X.N[j]?=some y:=by rfl) (hy:Loc X.env.scope y:=by first | exact Or.inl rfl | exact Or.inr rfl) (hf':X.fn y=true∨X.env.scope.names.lookup y=some .local:=by first | exact .inl rfl | exact .inr rfl)
    (hse:∀z,foldedSetIterable (.Call (.Name "enumerate" p) [l] [] cp) X.env z=pure z:=by intro _; rfl)
    (ha1:(assignEach [.Name x p1,.Name y p2] X.env).map (·.2)=assign (.Name x p1) X.env::(assignEach [.Name y p2] X.env).map (·.2):=by rfl) (ha2:(assignEach [.Name y p2] X.env).map (·.2)=assign (.Name y p2) X.env::(assignEach [] X.env).map (·.2):=by rfl)
    (hn:(assignEach [.Name x p1,.Name y p2] X.env).length=2:=by rfl) (hst:(assignEach [.Name x p1,.Name y p2] X.env).findIdx? (·.1)=none:=by rfl) :
    MS X (.For (.Tuple [.Name x p1,.Name y p2] x1 tp) (.Call (.Name "enumerate" p) [l] [] cp) body [] pos) (Zri fa i j fb):=
  PS.imp (ZqG hp hc (ZuO hg hm ha hs) (ZuP hc (ZlI (ZfW hN hi hx hf) (ZlI (ZfW hN hj hy hf') ZsI ha2) ha1) hn hst) hb hse) fun Dn σ H h=>by
  obtain ⟨B,θ,ρ,F,w⟩:=h
  refine ZbU (Zqu F w) ?_
  rintro vs H1 ⟨B1,θ1,ds,E1,F1,rd,w1⟩
  split at w1
  · rename_i xs
    obtain ⟨v,rfl,rv⟩:=rd.one
    obtain ⟨a,us,rfl,g1,okA,ru⟩:=rv
    refine ⟨a,rfl,⟨us,SqT.of g1⟩,fun k m σ H=>∃B θ ρ,Frm X.cl B θ ρ σ H∧RepV B H (.tup xs) (.ref a)∧m=xs.length-k∧k≤xs.length∧wpS X σ B H (forE i j fb k (xs.drop k) ρ θ) Dn,⟨xs.length,B1,θ1,ρ,F1,⟨a,us,rfl,g1,okA,ru⟩,rfl,Nat.zero_le _,w1⟩,?_⟩
    rintro k m σ2 H2 ⟨B2,θ2,ρ2,F2,rv2,rfl,hk,w2⟩
    obtain ⟨a',us2,e2,g2,ok2,ru2⟩:=id rv2
    cases e2
    by_cases hlt:k<xs.length
    · rw [List.drop_eq_getElem_cons hlt] at w2
      unfold forE at w2
      obtain ⟨v,q1,q2⟩:=ru2.get (List.getElem?_eq_getElem hlt)
      refine .inr ⟨⟨us2,v,SqT.of g2,q1⟩,fun σ' H'=>∃B' θ' ρ',ExtS B2 B' H2 H'∧Frm X.cl B' θ' ρ' σ' H'∧wpS X σ' B' H' (forE i j fb (k+1) (xs.drop (k+1)) ρ' θ') Dn,?_,fun z H' hz=>?_⟩
      · rintro σ' H' ⟨B',θ',ρ',E',F',w'⟩
        exact ⟨xs.length-(k+1),by omega,B',θ',ρ',F',rv2.ext E',rfl,hlt,w'⟩
      · obtain ⟨t,v',rfl,ht,rfl,hv⟩:=hz
        have:=hv us2 (SqT.of g2)
        rw [q1] at this
        cases this
        have E3:=Zb5 F2.good ht (.tup [.int k,v])
        have F3:=F2.ext E3 (Zdh F2.good ht (.tup [.int k,v]))
        refine ⟨t,[.int k,v],rfl,SqT.of zi,rfl,.int k,[v],rfl,v,[],rfl,rfl,?_⟩
        have F4:=(F3.set i (d:=.int (k:Nat)) (v:=.int k) rfl).set j (q2.ext E3.toExtS)
        refine ⟨B2,θ2,_,F4,?_⟩
        exact wpS.trans (wpS.loop w2) E3.toExtS
    · have e:k=xs.length:=by omega
      subst e
      rw [List.drop_length] at w2
      unfold forE at w2
      exact .inl ⟨⟨us2,SqT.of g2,by rw [ru2.len]; exact Nat.le_refl _⟩,Zd4 F2 w2⟩
  · exact w1.elim
end
end L2.MM
namespace L2
open PySem PySem.Spec PyProof.Rows
section
variable {X:Cx} {pins:List (Addr×Obj)} {σ:St} {H:Hp} {s:Shared} {a:Addr} {kvs:List (Key×V)} {k:Key} {z:V} {u r:Value} {A:Around} {E:Value→Shared→Prop}
theorem Zvm {Q:Value→Shared→Prop} (I:Inv X pins σ H s) (e:H a=some (.dK kvs)) (ry:RelV (kV k) u) (rz:RelV z r) (hl:kvs.length<sizeLine)
    (h1:∀v w' s',valV kvs k=some v→Inv X pins σ H s'→RelV v w'→Q w' s') (h2:valV kvs k=none→∀s',Inv X pins σ (upd H a (.dK (Zez kvs k z))) s'→Q r s'):wpAny (model X.prog X.w) A (call (.builtin "dict.setdefault") [.ref a,u,r]) Q E s:=by
  obtain ⟨z1,hd,vs,rel,dd⟩:=ZnN I.hok e
  have hv:vs.length≤sizeLine:=by rw [←rel.length]; exact z1
  refine call_meetsIn PySem.F.slot_dict_setdefault dd.typeIs PySem.F.entry_dict_setdefault (PySem.F.args_dict_setdefault_3 _ _ _) (kt_meets_setdefault (zZ X.prog X.w) a (Zg5 ry) hd r) ⟨vs,dd,hv,fun v q=>?_,fun q h' dd' hs=>?_⟩
  · cases l:valV kvs k with
    | none=>
      have:valueAt vs k=none:=RelO.none_of (by rw [←l]; exact rel.val k)
      rw [this] at q
      cases q
    | some v0=>
      obtain ⟨w1,hw,r1⟩:=RelO.some_of (v:=v0) (o:=valueAt vs k) (by rw [←l]; exact rel.val k)
      have z2:w1=v:=by rw [hw] at q; injection q
      subst z2
      exact h1 v0 w1 _ l (I.tok _) r1
  · have l:valV kvs k=none:=by
      cases l:valV kvs k with
      | none=>rfl
      | some v0=>
        obtain ⟨w',hw,rw'⟩:=RelO.some_of (v:=v0) (o:=valueAt vs k) (by rw [←l]; exact rel.val k)
        rw [hw] at q
        cases q
    have hl2:(Zez kvs k z).length≤sizeLine:=by have:=Zg1 kvs k z; omega
    have he:∃q,h'.get? a=some q:=let ⟨q,_,_,hq,_⟩:=dd'; ⟨q,hq⟩
    exact h2 l _ (ZhC I (by rw [e]; exact True.intro) hs he (ZjT hl2 hd (rel.put k rz) dd'))
end
def Zuu (td ty tx:TE):TE:=fun σ H Q=>td σ H fun x H1=>∃a,x=.ref a∧IsD H1 a∧ty σ H1 fun y H2=>tx σ H2 fun z H3=>∃kvs k,H3 a=some (.dK kvs)∧y=kV k∧kvs.length<sizeLine∧
  (∀v,valV kvs k=some v→Q v H3)∧(valV kvs k=none→Q z (upd H3 a (.dK (Zez kvs k z))))
theorem ZqQ {X:Cx} {o e f:Expr} {apos cpos:Pos} {td ty tx:TE} (ho:PE X o td) (he:PE X e ty) (hf:PE X f tx) (m:M2 X o "setdefault" apos e f cpos):PE X (.Call (.Attribute o "setdefault" apos) [e,f] [] cpos) (Zuu td ty tx):=by
  intro pins s σ H Q I h
  refine wpAny_Call_method m.base m.few m.line PySem.F.plainAttrs_dict PySem.F.slot_dict_setdefault PySem.F.type_dict_setdefault (thn (ho pins s σ H _ I h) fun u s1 ⟨x,H1,I1,rx,a,ex,d,q1⟩=>?_)
  subst ex
  cases (show u=Value.ref a from rx)
  obtain ⟨t1,t2,_⟩:=ZmS I1 d
  refine ⟨t1,t2,?_⟩
  rw [m.trees]
  refine Calls.callWith_builtin rfl (Calls.evalArgs_plain (Calls.spliced_cons (thn (he pins s1 σ H1 _ I1 q1) fun iv s2 ⟨y,H2,I2,ry,q2⟩=>Calls.spliced_cons (thn (hf pins s2 σ H2 _ I2 q2) fun fv s3 ⟨z,H3,I3,rz,kvs,k,ea,ey,hl,q3,q4⟩=>Calls.spliced_nil ?_))))
  subst ey
  exact Zvm I3 ea ry rz hl (fun v w' s4 l I4 rw'=>⟨v,H3,I4,rw',q3 v l⟩) fun l s4 I4=>⟨z,_,I4,rz,q4 l⟩
end L2
namespace L2.MM
open PySem PySem.Spec PyProof.Rows
def valD (kvs:List (Key×D)) (k:Key):Option D:=(kvs.find? fun kv=>decide (kv.1=k)).map (·.2)
def putD (kvs:List (Key×D)) (k:Key) (v:D):List (Key×D):=
  if (kvs.any fun kv=>decide (kv.1=k))=true then kvs.map (fun kv=>if kv.1=k then (kv.1,v) else kv) else kvs++[(k,v)]
def dropD (kvs:List (Key×D)) (k:Key):List (Key×D):=kvs.filter fun kv=>decide (kv.1≠k)
def ZlY:D→Option Key
  | .int n=>some (.inl n)
  | .str x=>some (.inr x)
  | _=>none
def ZgP (θ:Sto):D→Option (Nat×List (Key×D))
  | .ref l=>match θ[l]? with
    | some (.dK kvs)=>some (l,kvs)
    | _=>none
  | _=>none
section
variable {B:Bx} {H:Hp}
theorem RepKV.valD (k:Key):∀{ks:List (Key×D)} {vs:List (Key×V)},RepKV B H ks vs→(L2.MM.valD ks k=Option.none∧valV vs k=Option.none)∨∃d v,L2.MM.valD ks k=some d∧valV vs k=some v∧RepV B H d v
  | _,_,.nil=>.inl ⟨rfl,rfl⟩
  | (k1,d1)::ks,(k2,v2)::vs,.cons ⟨h1,h2⟩ t=>by
    cases (show k1=k2 from h1)
    by_cases e:k1=k
    · refine .inr ⟨d1,v2,?_,?_,h2⟩<;>simp [L2.MM.valD,valV,List.find?_cons,e]
    · have:=RepKV.valD k t
      simpa [L2.MM.valD,valV,List.find?_cons,e] using this
theorem RepKV.any (k:Key):∀{ks:List (Key×D)} {vs:List (Key×V)},RepKV B H ks vs→(ks.any fun kv=>decide (kv.1=k))=(vs.any fun kv=>decide (kv.1=k))
  | _,_,.nil=>rfl
  | (k1,d1)::ks,(k2,v2)::vs,.cons ⟨h1,h2⟩ t=>by
    cases (show k1=k2 from h1)
    rw [List.any_cons,List.any_cons,RepKV.any k t]
theorem RepKV.snoc {k:Key} {d:D} {v:V} (r:RepV B H d v):∀{ks:List (Key×D)} {vs:List (Key×V)},RepKV B H ks vs→RepKV B H (ks++[(k,d)]) (vs++[(k,v)])
  | _,_,.nil=>.cons ⟨rfl,r⟩ .nil
  | _,_,.cons h t=>.cons h (RepKV.snoc r t)
theorem RepKV.over {k:Key} {d:D} {v:V} (r:RepV B H d v):∀{ks:List (Key×D)} {vs:List (Key×V)},RepKV B H ks vs→RepKV B H (ks.map fun kv=>if kv.1=k then (kv.1,d) else kv) (vs.map fun kv=>if kv.1=k then (kv.1,v) else kv)
  | _,_,.nil=>.nil
  | (k1,d1)::ks,(k2,v2)::vs,.cons ⟨h1,h2⟩ t=>by
    cases (show k1=k2 from h1)
    rw [List.map_cons,List.map_cons]
    refine .cons ?_ (RepKV.over r t)
    by_cases e:k1=k
    · rw [if_pos (show (k1,d1).1=k from e),if_pos (show (k1,v2).1=k from e)]; exact ⟨rfl,r⟩
    · rw [if_neg (show ¬(k1,d1).1=k from e),if_neg (show ¬(k1,v2).1=k from e)]; exact ⟨rfl,h2⟩
theorem RepKV.putD {k:Key} {d:D} {v:V} (r:RepV B H d v) {ks:List (Key×D)} {vs:List (Key×V)} (h:RepKV B H ks vs):RepKV B H (L2.MM.putD ks k d) (Zez vs k v):=by
  unfold L2.MM.putD Zez
  rw [h.any k]
  split
  · exact h.over r
  · exact h.snoc r
theorem RepKV.dropD (k:Key):∀{ks:List (Key×D)} {vs:List (Key×V)},RepKV B H ks vs→RepKV B H (L2.MM.dropD ks k) (Zfx vs k)
  | _,_,.nil=>.nil
  | (k1,d1)::ks,(k2,v2)::vs,.cons ⟨h1,h2⟩ t=>by
    cases (show k1=k2 from h1)
    have ih:=RepKV.dropD k t
    unfold L2.MM.dropD Zfx at ih ⊢
    by_cases e:k1=k
    · rw [List.filter_cons_of_neg (by simpa using e),List.filter_cons_of_neg (by simpa using e)]; exact ih
    · rw [List.filter_cons_of_pos (by simpa using e),List.filter_cons_of_pos (by simpa using e)]; exact .cons ⟨rfl,h2⟩ ih
theorem keyD_rep {d:D} {v:V} {k:Key} (r:RepV B H d v) (h:ZlY d=some k):v=kV k:=by
  cases d with
  | int n=>cases h; exact r
  | str x=>cases h; exact r
  | _=>cases h
theorem Zgj {cl:Mo} {θ:Sto} (G:Good cl B θ H) {d:D} {v:V} {l:Nat} {kvs:List (Key×D)} (r:RepV B H d v) (h:ZgP θ d=some (l,kvs)):l<B.n∧v=.ref (B.m l)∧∃vs,H (B.m l)=some (.dK vs)∧RepKV B H kvs vs:=by
  cases d with
  | ref k=>
    simp only [ZgP] at h
    split at h
    · rename_i kvs' e
      cases h
      obtain ⟨hl,rfl⟩:=r
      obtain ⟨vs,h1,h2⟩:=G.cel _ _ e
      exact ⟨hl,rfl,vs,h1,h2⟩
    · cases h
  | _=>cases h
end
section
variable {X:Cx}
theorem Zmu {k:Nat} {A:Around} (hr:Room k A):A.units+1<cLine:=by have:=hr.un; omega
def Zrj (fi fo:EM):EM:=fun ρ θ=>(fi ρ θ).bind fun y θ=>(fo ρ θ).bind fun d θ=>match ZlY y,ZgP θ d with
  | some k,some (_,kvs)=>.ok (.bl (valD kvs k).isSome) θ
  | _,_=>.bad
theorem Zth {fi fo:EM} (σ:St) (H:Hp) (Q:VK) (h:tM X (Zrj fi fo) σ H Q):Zwn (tM X fi) (tM X fo) σ H Q:=by
  obtain ⟨B,θ,ρ,F,w⟩:=h
  refine Z4 (step F w) ?_
  rintro y H1 ⟨B1,θ1,dy,E1,F1,ry,w1⟩
  refine Z4 (step F1 w1) ?_
  rintro v H2 ⟨B2,θ2,d,E2,F2,rd,w2⟩
  split at w2
  · rename_i k l kvs ek ed
    obtain ⟨hl,rfl,vs,h1,h2⟩:=Zgj F2.good rd ed
    cases keyD_rep ry ek
    refine ⟨_,valV vs k,rfl,DGet.k h1,?_⟩
    have e:(valD kvs k).isSome=(valV vs k).isSome:=by
      rcases h2.valD k with ⟨q1,q2⟩ | ⟨d,v,q1,q2,_⟩<;>(rw [q1,q2]; rfl)
    rw [←e]
    exact ZP (Rel:=RepV) F2.good (show RepV B2 H2 (.bl (valD kvs k).isSome) (.bl (valD kvs k).isSome) from rfl) w2
  · exact w2.elim
theorem Zu8 {i o:Expr} {fi fo:EM} {pos:Pos} {k:Nat} (hr:Room k X.A) (hi:ME X i fi) (ho:ME X o fo) (hm:behindInMarks .In o=false:=by rfl):MT X (.Compare i [.In] [o] pos) (ZK (Zrj fi fo)):=by
  refine PT.imp (ZuJ (ZuW (Zmu hr) hi ho) hm) fun σ H Q h=>?_
  exact Zth σ H _ (ZhM σ H Q h)
def ZnF (fo fe:EM):EM:=fun ρ θ=>(fo ρ θ).bind fun d θ=>match ZgP θ d with
  | none=>.bad
  | some _=>(fe ρ θ).bind fun y θ=>match ZlY y,ZgP θ d with
    | some k,some (l,kvs)=>match valD kvs k with
      | some v=>.ok v (θ.set l (.dK (dropD kvs k)))
      | none=>.bad
    | _,_=>.bad
theorem ZnC {o e:Expr} {fo fe:EM} {apos cpos:Pos} (ho:ME X o fo) (he:ME X e fe) (m:M1 X o "pop" apos e cpos):ME X (.Call (.Attribute o "pop" apos) [e] [] cpos) (ZnF fo fe):=by
  refine PE.imp (ZqR ho he m) fun σ H Q h=>?_
  obtain ⟨B,θ,ρ,F,w⟩:=h
  refine Z4 (step F w) ?_
  rintro v H1 ⟨B1,θ1,d,E1,F1,rd,w1⟩
  split at w1
  · exact w1.elim
  · rename_i q ed
    obtain ⟨l,kvs⟩:=q
    obtain ⟨hl,rfl,vs,h1,h2⟩:=Zgj F1.good rd ed
    refine ⟨_,rfl,.inl ⟨vs,.inl h1⟩,?_⟩
    refine Z4 (step F1 w1) ?_
    rintro y H2 ⟨B2,θ2,dy,E2,F2,ry,w2⟩
    split at w2
    · rename_i k l2 kvs2 ek ed2
      obtain ⟨hl2,e2,vs2,h3,h4⟩:=Zgj F2.good (rd.ext E2.toExtS) ed2
      cases keyD_rep ry ek
      have e3:B1.m l=B2.m l2:=by injection e2
      rw [e3]
      rcases h4.valD k with ⟨q1,q2⟩ | ⟨dv,v,q1,q2,rv⟩
      · rw [q1] at w2; exact w2.elim
      · rw [q1] at w2
        refine ⟨vs2,k,v,h3,rfl,q2,?_⟩
        have E3:=ZhB F2.good hl2 (.dK (Zfx vs2 k))
        have G3:=Zic F2.good hl2 (o:=.dK (Zfx vs2 k)) (c:=.dK (dropD kvs2 k)) ⟨_,zi,(h4.dropD k).ext E3.toExtS⟩
        exact w2 _ _ _ E3 G3 (rv.ext E3.toExtS)
    · exact w2.elim
def ZmQ (fo fe ff:EM):EM:=fun ρ θ=>(fo ρ θ).bind fun d θ=>match ZgP θ d with
  | none=>.bad
  | some _=>(fe ρ θ).bind fun y θ=>(ff ρ θ).bind fun z θ=>match ZlY y,ZgP θ d with
    | some k,some (l,kvs)=>if kvs.length<BIG then (match valD kvs k with
      | some v=>.ok v θ
      | none=>.ok z (θ.set l (.dK (putD kvs k z)))) else .bad
    | _,_=>.bad
theorem Zrf {o e f:Expr} {fo fe ff:EM} {apos cpos:Pos} (ho:ME X o fo) (he:ME X e fe) (hf:ME X f ff) (m:M2 X o "setdefault" apos e f cpos):ME X (.Call (.Attribute o "setdefault" apos) [e,f] [] cpos) (ZmQ fo fe ff):=by
  refine PE.imp (ZqQ ho he hf m) fun σ H Q h=>?_
  obtain ⟨B,θ,ρ,F,w⟩:=h
  refine Z4 (step F w) ?_
  rintro v H1 ⟨B1,θ1,d,E1,F1,rd,w1⟩
  split at w1
  · exact w1.elim
  · rename_i q ed
    obtain ⟨l,kvs⟩:=q
    obtain ⟨hl,rfl,vs,h1,h2⟩:=Zgj F1.good rd ed
    refine ⟨_,rfl,.inl ⟨vs,.inl h1⟩,?_⟩
    refine Z4 (step F1 w1) ?_
    rintro y H2 ⟨B2,θ2,dy,E2,F2,ry,w2⟩
    refine Z4 (step F2 w2) ?_
    rintro z H3 ⟨B3,θ3,dz,E3,F3,rz,w3⟩
    split at w3
    · rename_i k l2 kvs2 ek ed2
      obtain ⟨hl2,e2,vs2,h3,h4⟩:=Zgj F3.good ((rd.ext E2.toExtS).ext E3.toExtS) ed2
      cases keyD_rep ry ek
      have e3:B1.m l=B3.m l2:=by injection e2
      rw [e3]
      split at w3
      · rename_i hb
        refine ⟨vs2,k,h3,rfl,?_,fun v hv=>?_,fun hn=>?_⟩
        · have:=Zav (n:=kvs2.length+1) hb
          rw [RepKV.len h4]; omega
        · rcases h4.valD k with ⟨q1,q2⟩ | ⟨dv,v',q1,q2,rv⟩
          · rw [q2] at hv; cases hv
          · rw [q2] at hv; cases hv
            rw [q1] at w3
            exact ZP (Rel:=RepV) F3.good rv w3
        · rcases h4.valD k with ⟨q1,q2⟩ | ⟨dv,v',q1,q2,rv⟩
          · rw [q1] at w3
            have E4:=ZhB F3.good hl2 (.dK (Zez vs2 k z))
            have G4:=Zic F3.good hl2 (o:=.dK (Zez vs2 k z)) (c:=.dK (putD kvs2 k dz)) ⟨_,zi,(h4.putD rz).ext E4.toExtS⟩
            exact w3 _ _ _ E4 G4 (rz.ext E4.toExtS)
          · rw [q2] at hn; cases hn
      · exact w3.elim
    · exact w3.elim
end
end L2.MM
namespace My
open PySem L2 L2.MM
noncomputable section
def Zj0:SM:=(Zs (ZX 2 (mSl (Zd 1) Za2 (ZbF (mCB Zd8 (Zc (Zd 0) Zk)))))
  (Zs (ZH ["Pile"] "row" (Zd 0) (mOp Z0 (ZI ["Pile"] "row" (Zd 0)) (Zd 2)))
  (ZL (mCB Zdr (Zc (Zd 2) Zk)))))
def ZfZ:GM:=ZO 2 3 Zj0
def Zdk:SM:=(Zs (ZX 2 (mCB Zs0 (Zc (Zd 1) (Zc (mC (.int 0)) Zk))))
  (Zs (ZX 3 (mSl (ZI ["Pile"] "row" (Zd 0)) Za2 (ZbF (Zd 2))))
  (Zs (ZH ["Pile"] "row" (Zd 0) (mSl (ZI ["Pile"] "row" (Zd 0)) (ZbF (Zd 2)) Za2))
  (ZL (Zd 3)))))
def Zch:GM:=ZO 2 4 Zdk
def Zmo:SM:=(ZL (mOp gtM (mCB zF (Zc (Zd 0) (Zc (Zd 1) Zk))) (mC (.int 0))))
def Zci:GM:=ZO 2 2 Zmo
def ZdZ:SM:=(ZL (mCB Zci (Zc (ZI ["End"] "nxt" (Zd 0)) (Zc (ZI ["End"] "behind" (Zd 0)) Zk))))
def Zbi:GM:=ZO 1 1 ZdZ
def Zjl:SM:=(ZL (mOp eqM (mCB Zfs (Zc (mOp ixM (Zd 0) (mC (.int 4))) (Zc (Zd 1) Zk))) (mC (.int 1))))
def Z8:GM:=ZO 2 2 Zjl
def ZcS:SM:=(mIf (zL (mCB Z8 (Zc (Zd 0) (Zc (mC (.int 16)) Zk)))) (ZL (mOp Z0 (Zd 1) (ZaO (Zc (mOp ixM (Zd 0) (mC (.int 3))) (Zc (mC (.int 0)) (Zc (mC (.int 4)) (Zc (mC (.int 0)) (Zc (mC (.int 0)) (Zc (ZaO Zk) Zk))))))))) ZM)
def ZdI:SM:=(Zs (ZX 1 (ZaO (Zc (mOp ixM (Zd 0) (mC (.int 1))) (Zc (mOp ixM (Zd 0) (mC (.int 0))) Zk))))
  (Zs ZcS
  (ZL (mOp Z0 (Zd 1) (ZaO (Zc (mC (.int 0)) (Zc (mCB zr (Zc (mOp ixM (Zd 0) (mC (.int 2))) (Zc (mCB ZcB (Zc (Zd 0) Zk)) Zk))) (Zc (mOp Z0 (mC (.int 4)) (mC (.int 16))) (Zc (mC (.int 0)) (Zc (mC (.int 0)) (Zc (ZaO Zk) Zk)))))))))))
def ZbN:GM:=ZO 1 2 ZdI
def Zbz:SM:=(mIf (Zdg (zL (mCB Z8 (Zc (Zd 1) (Zc (mC (.int 4)) Zk))))) (ZH ["End"] "owed_reset" (Zd 0) (mCB ZbN (Zc (Zd 1) Zk))) ZM)
def Zb7:SM:=Zbz
def Z1:GM:=ZO 2 2 Zb7
def Zdp:SM:=(zG (mCB Z1 (Zc (Zd 0) (Zc (Zd 1) Zk))))
def ZaL:GM:=ZO 2 2 Zdp
def Ze2:SM:=(mIf (ZK (mOp neM (mOp ixM (Zd 1) (mC (.int 6))) (mC (.int 0)))) (ZH ["End"] "most" (Zd 0) (mOp ixM (Zd 1) (mC (.int 6)))) ZM)
def Zgn:SM:=(Zs (ZH ["End"] "rcv" (Zd 0) (mCB zr (Zc (mOp ixM (Zd 1) (mC (.int 2))) (Zc (mC (.int 1)) Zk))))
  (Zs (ZH ["End"] "wnd" (Zd 0) (mOp ixM (Zd 1) (mC (.int 5))))
  (Zs (ZH ["End"] "told" (Zd 0) (mOp ixM (Zd 1) (mC (.int 2))))
  (Zs (ZH ["End"] "told_by" (Zd 0) (Zf9 (zL (mCB Z8 (Zc (Zd 1) (Zc (mC (.int 16)) Zk)))) (mOp ixM (Zd 1) (mC (.int 3))) (mC (.int 0))))
  Ze2))))
def ZbK:GM:=ZO 2 2 Zgn
def zW:SM:=(mIf (zL (mCB Z8 (Zc (Zd 1) (Zc (mC (.int 4)) Zk)))) Zf8 ZM)
def ZaD:SM:=(mIf (zL (mCB Z8 (Zc (Zd 1) (Zc (mC (.int 2)) Zk)))) (Zs (ZH ["End"] "theirs" (Zd 0) (mOp ixM (Zd 1) (mC (.int 0))))
      (Zs (zG (mCB ZbK (Zc (Zd 0) (Zc (Zd 1) Zk))))
      (ZH ["End"] "state" (Zd 0) (mC (.str "syn come"))))) ZM)
def ZaC:SM:=(mIf (zL (mCB Z8 (Zc (Zd 1) (Zc (mC (.int 16)) Zk)))) (zG (mCB Z1 (Zc (Zd 0) (Zc (Zd 1) Zk)))) ZaD)
def Zal:SM:=(Zs zW
  ZaC)
def zA:GM:=ZO 2 2 Zal
def Zex:SM:=(ZL (Zcg (mOp neM (ZI ["End"] "nxt" (Zd 0)) (ZI ["End"] "first" (Zd 0))) (mOp eqM (mOp ixM (Zd 1) (mC (.int 3))) (mCB zr (Zc (ZI ["End"] "first" (Zd 0)) (Zc (mC (.int 1)) Zk))))))
def ZbE:GM:=ZO 2 2 Zex
def Zao:SM:=(mIf (zL (mCB Z8 (Zc (Zd 1) (Zc (mC (.int 16)) Zk)))) (Zs (ZH ["End"] "una" (Zd 0) (mOp ixM (Zd 1) (mC (.int 3))))
    (Zs (ZH ["End"] "state" (Zd 0) (mC (.str "open")))
    (ZH ["End"] "owes_answer" (Zd 0) (mC (.bl true))))) (Zs (ZH ["End"] "state" (Zd 0) (mC (.str "syn come")))
    (Zs (zG (mCB zd (Zc (Zd 0) (Zc (Zd 2) Zk))))
    (ZH ["End"] "owes_syn" (Zd 0) (mC (.bl true))))))
def ZaR:SM:=Zao
def zK:GM:=ZO 3 3 ZaR
def Zek:SM:=(mIf (zL (mCB Z8 (Zc (Zd 1) (Zc (mC (.int 16)) Zk)))) (Zs (ZH ["End"] "state" (Zd 0) (mC (.str "closed")))
    (ZH ["End"] "error" (Zd 0) (mC (.str "refused")))) ZM)
def ZfL:SM:=Zek
def ZeG:GM:=ZO 2 2 ZfL
def zH:SM:=(mIf (zL (mCB Z8 (Zc (Zd 1) (Zc (mC (.int 2)) Zk)))) (Zs (zG (mCB ZbK (Zc (Zd 0) (Zc (Zd 1) Zk))))
        (zG (mCB zK (Zc (Zd 0) (Zc (Zd 1) (Zc (Zd 2) Zk)))))) ZM)
def Z9:SM:=(mIf (zL (mCB Z8 (Zc (Zd 1) (Zc (mC (.int 4)) Zk)))) (zG (mCB ZeG (Zc (Zd 0) (Zc (Zd 1) Zk)))) zH)
def ZZ:SM:=(mIf (ZfI (zL (mCB Z8 (Zc (Zd 1) (Zc (mC (.int 16)) Zk)))) (Zdg (zL (mCB ZbE (Zc (Zd 0) (Zc (Zd 1) Zk)))))) (zG (mCB Z1 (Zc (Zd 0) (Zc (Zd 1) Zk)))) Z9)
def Z7:SM:=ZZ
def ZU:GM:=ZO 3 3 Z7
def ZdY:SM:=(ZL (Zef leM ltM (mC (.int 0)) (mCB zF (Zc (Zd 1) (Zc (ZI ["End"] "rcv" (Zd 0)) Zk))) (mCB zP (Zc (Zd 0) Zk))))
def zo:GM:=ZO 2 2 ZdY
def ZfM:SM:=(mIf (ZK (mOp eqM (Zd 2) (mC (.int 0)))) (ZL (Zef leM leM (mC (.int 0)) (mCB zF (Zc (mOp ixM (Zd 1) (mC (.int 2))) (Zc (ZI ["End"] "rcv" (Zd 0)) Zk))) (mC (.int 64)))) ZM)
def Ziu:SM:=(Zs (ZX 2 (mCB ZcB (Zc (Zd 1) Zk)))
  (Zs ZfM
  (Zs (ZX 3 (mCB zr (Zc (mOp ixM (Zd 1) (mC (.int 2))) (Zc (mOp Zgz (Zd 2) (mC (.int 1))) Zk))))
  (ZL (ZmO (mCB zo (Zc (Zd 0) (Zc (mOp ixM (Zd 1) (mC (.int 2))) Zk))) (mCB zo (Zc (Zd 0) (Zc (Zd 3) Zk))))))))
def ZgE:GM:=ZO 2 4 Ziu
def zl:SM:=(mIf (mOr (Zdg (zL (mCB Zbi (Zc (Zd 0) Zk)))) (ZK (mOp neM (ZI ["End"] "una" (Zd 0)) (ZI ["End"] "nxt" (Zd 0))))) Zf8 ZM)
def ZaU:SM:=(mIf (ZK (mOp eqM (ZI ["End"] "state" (Zd 0)) (mC (.str "last ack")))) (ZH ["End"] "state" (Zd 0) (mC (.str "closed"))) ZM)
def ZaT:SM:=(mIf (ZK (mOp eqM (ZI ["End"] "state" (Zd 0)) (mC (.str "closing")))) (Zs (ZH ["End"] "state" (Zd 0) (mC (.str "time wait")))
      (ZH ["End"] "since" (Zd 0) (Zd 1))) ZaU)
def ZaS:SM:=(mIf (ZK (mOp eqM (ZI ["End"] "state" (Zd 0)) (mC (.str "wait one")))) (ZH ["End"] "state" (Zd 0) (mC (.str "wait two"))) ZaT)
def zq:SM:=(Zs zl
  ZaS)
def ZT:GM:=ZO 2 2 zq
def Zeu:SM:=(Zs (ZH ["End"] "wnd" (Zd 0) (mOp ixM (Zd 1) (mC (.int 5))))
  (Zs (ZH ["End"] "told" (Zd 0) (mOp ixM (Zd 1) (mC (.int 2))))
  (ZH ["End"] "told_by" (Zd 0) (mOp ixM (Zd 1) (mC (.int 3))))))
def ZaF:GM:=ZO 2 2 Zeu
def Zaa:SM:=(mIf (mOr (ZK (mOp eqM (ZI ["End"] "nxt" (Zd 0)) (ZI ["End"] "first" (Zd 0)))) (ZK (mOp neM (mOp ixM (Zd 1) (mC (.int 3))) (ZI ["End"] "nxt" (Zd 0))))) (Zs (zG (mCB Z1 (Zc (Zd 0) (Zc (Zd 1) Zk))))
    (ZL (mC (.bl false)))) ZM)
def Zay:SM:=(Zs Zaa
  (Zs (ZH ["End"] "una" (Zd 0) (mOp ixM (Zd 1) (mC (.int 3))))
  (Zs (ZH ["End"] "state" (Zd 0) (Zf9 (zL (ZI ["End"] "has_closed" (Zd 0))) (mC (.str "wait one")) (mC (.str "open"))))
  (Zs (zG (mCB ZaF (Zc (Zd 0) (Zc (Zd 1) Zk))))
  (ZL (mC (.bl true)))))))
def zt:GM:=ZO 2 2 Zay
def Ze1:SM:=(mIf (ZK (mOp eqM (mOp ixM (Zd 1) (mC (.int 2))) (ZI ["End"] "told" (Zd 0)))) (ZL (ZnE (mCB Zci (Zc (ZI ["End"] "told_by" (Zd 0)) (Zc (mOp ixM (Zd 1) (mC (.int 3))) Zk))))) ZM)
def Zgm:SM:=(Zs Ze1
  (ZL (mCB Zci (Zc (mOp ixM (Zd 1) (mC (.int 2))) (Zc (ZI ["End"] "told" (Zd 0)) Zk)))))
def Zdc:GM:=ZO 2 2 Zgm
def Zca:SM:=(mIf (ZK (mOp neM (ZI ["End"] "una" (Zd 0)) (ZI ["End"] "nxt" (Zd 0)))) (zG (mCB zd (Zc (Zd 0) (Zc (Zd 2) Zk)))) ZM)
def Zax:SM:=(mIf (zL (Zd 4)) (Zs (zG (mCB Zch (Zc (ZI ["End"] "written" (Zd 0)) (Zc (mCB zF (Zc (Zd 3) (Zc (ZI ["End"] "una" (Zd 0)) Zk))) Zk))))
    (Zs (ZH ["End"] "una" (Zd 0) (Zd 3))
    Zca)) ZM)
def Zaw:SM:=(mIf (zL (mCB Zci (Zc (ZI ["End"] "una" (Zd 0)) (Zc (Zd 3) Zk)))) Zf8 ZM)
def Zbf:SM:=(mIf (mOr (zL (Zd 4)) (zL (mCB Zdc (Zc (Zd 0) (Zc (Zd 1) Zk))))) (zG (mCB ZaF (Zc (Zd 0) (Zc (Zd 1) Zk)))) ZM)
def Zbe:SM:=(mIf (mOr (zL (Zd 5)) (ZK (mOp eqM (ZI ["End"] "wnd" (Zd 0)) (mC (.int 0))))) (ZH ["End"] "tries" (Zd 0) (mC (.int 0))) ZM)
def Za9:SM:=(Zs (ZX 3 (mOp ixM (Zd 1) (mC (.int 3))))
  (Zs (ZX 4 (mCB Zci (Zc (Zd 3) (Zc (ZI ["End"] "una" (Zd 0)) Zk))))
  (Zs Zax
  (Zs Zaw
  (Zs (ZX 5 (mOp eqM (ZI ["End"] "wnd" (Zd 0)) (mC (.int 0))))
  (Zs Zbf
  Zbe))))))
def zQ:GM:=ZO 3 6 Za9
def zC:SM:=(mIf (ZK (mOp eqM (ZI ["End"] "state" (Zd 0)) (mC (.str "syn come")))) (ZL (mCB zt (Zc (Zd 0) (Zc (Zd 1) Zk)))) ZM)
def Zab:SM:=(mIf (zL (mCB Zci (Zc (mOp ixM (Zd 1) (mC (.int 3))) (Zc (ZI ["End"] "nxt" (Zd 0)) Zk)))) (Zs (ZH ["End"] "owes_answer" (Zd 0) (mC (.bl true)))
    (ZL (mC (.bl false)))) ZM)
def zJ:SM:=(Zs zC
  (Zs Zab
  (Zs (zG (mCB zQ (Zc (Zd 0) (Zc (Zd 1) (Zc (Zd 2) Zk)))))
  (Zs (zG (mCB ZT (Zc (Zd 0) (Zc (Zd 2) Zk))))
  (ZL (mOp neM (ZI ["End"] "state" (Zd 0)) (mC (.str "closed"))))))))
def Z2:GM:=ZO 3 3 zJ
def Zcr:SM:=(mIf (ZK (mOp eqM (ZI ["End"] "state" (Zd 0)) (mC (.str "time wait")))) Zf8 ZM)
def Zcq:SM:=(mIf (ZK (mOp eqM (mOp ixM (Zd 1) (mC (.int 2))) (ZI ["End"] "rcv" (Zd 0)))) (Zs (ZH ["End"] "state" (Zd 0) (mC (.str "closed")))
    (ZH ["End"] "error" (Zd 0) (mC (.str "reset")))) (ZH ["End"] "owes_answer" (Zd 0) (mC (.bl true))))
def Zdn:SM:=(Zs Zcr
  Zcq)
def Zbn:GM:=ZO 2 2 Zdn
def ZbB:SM:=(ZcJ (ZfI (ZK (mOp neM (ZI ["End"] "rcv" (Zd 0)) (ZI ["End"] "early_fin" (Zd 0)))) (ZK (Zrj (ZI ["End"] "rcv" (Zd 0)) (ZI ["End"] "early" (Zd 0))))) (Zs (Zeg 1 (ZnF (ZI ["End"] "early" (Zd 0)) (ZI ["End"] "rcv" (Zd 0))))
    (ZH ["End"] "rcv" (Zd 0) (mCB zr (Zc (ZI ["End"] "rcv" (Zd 0)) (Zc (mC (.int 1)) Zk))))) 200)
def ZdC:SM:=(Zs (Zhy 1 Zk)
  (Zs ZbB
  (Zee 1 (zG (mCB ZfZ (Zc (ZI ["End"] "come" (Zd 0)) (Zc (Zd 1) Zk)))))))
def Za4:GM:=ZO 1 2 ZdC
def Ze3:SM:=(mIf (ZK (mOp eqM (ZI ["End"] "state" (Zd 0)) (mC (.str "wait one")))) (ZH ["End"] "state" (Zd 0) (mC (.str "closing"))) (Zs (ZH ["End"] "state" (Zd 0) (mC (.str "time wait")))
      (ZH ["End"] "since" (Zd 0) (Zd 1))))
def Zdo:SM:=(mIf (ZK (mOp eqM (ZI ["End"] "state" (Zd 0)) (mC (.str "open")))) (ZH ["End"] "state" (Zd 0) (mC (.str "close wait"))) Ze3)
def Zen:SM:=(Zs (ZH ["End"] "rcv" (Zd 0) (mCB zr (Zc (ZI ["End"] "rcv" (Zd 0)) (Zc (mC (.int 1)) Zk))))
  Zdo)
def Zcl:GM:=ZO 2 2 Zen
def Za8:SM:=(mIf (zL (mCB zo (Zc (Zd 0) (Zc (Zd 4) Zk)))) (zG (ZmQ (ZI ["End"] "early" (Zd 0)) (Zd 4) (Zd 3))) ZM)
def ZcU:SM:=(Zri (Zc (mOp ixM (Zd 1) (mC (.int 7))) Zk) 2 3 (Zs (ZX 4 (mCB zr (Zc (mOp ixM (Zd 1) (mC (.int 2))) (Zc (Zd 2) Zk))))
    Za8))
def ZcT:SM:=(mIf (ZK (mOp gtM (mCB Zdr (Zc (mOp ixM (Zd 1) (mC (.int 7))) Zk)) (mC (.int 0)))) (ZH ["End"] "owes_answer" (Zd 0) (mC (.bl true))) ZM)
def ZdL:SM:=(Zs ZcU
  ZcT)
def ZbO:GM:=ZO 2 5 ZdL
def Zdm:SM:=(mIf (Zdg (zL (mCB Z8 (Zc (Zd 1) (Zc (mC (.int 1)) Zk))))) Zf8 ZM)
def ZaQ:SM:=(mIf (ZfI (ZK (mOp isM (ZI ["End"] "early_fin" (Zd 0)) (mC .non))) (zL (mCB zo (Zc (Zd 0) (Zc (Zd 2) Zk))))) (ZH ["End"] "early_fin" (Zd 0) (Zd 2)) ZM)
def Zem:SM:=(Zs Zdm
  (Zs (ZH ["End"] "owes_answer" (Zd 0) (mC (.bl true)))
  (Zs (ZX 2 (mCB zr (Zc (mOp ixM (Zd 1) (mC (.int 2))) (Zc (mCB Zdr (Zc (mOp ixM (Zd 1) (mC (.int 7))) Zk)) Zk))))
  ZaQ)))
def Zck:GM:=ZO 2 3 Zem
def Zbd:SM:=(mIf (ZK (mOp ZbX (ZI ["End"] "state" (Zd 0)) (ZaO (Zc (mC (.str "open")) (Zc (mC (.str "wait one")) (Zc (mC (.str "wait two")) Zk)))))) Zf8 ZM)
def Zb9:SM:=(mIf (ZK (mOp eqM (ZI ["End"] "rcv" (Zd 0)) (ZI ["End"] "early_fin" (Zd 0)))) (zG (mCB Zcl (Zc (Zd 0) (Zc (Zd 2) Zk)))) ZM)
def ZbI:SM:=(Zs Zbd
  (Zs (zG (mCB ZbO (Zc (Zd 0) (Zc (Zd 1) Zk))))
  (Zs (zG (mCB Zck (Zc (Zd 0) (Zc (Zd 1) Zk))))
  (Zs (zG (mCB Za4 (Zc (Zd 0) Zk)))
  Zb9))))
def ZaG:GM:=ZO 3 3 ZbI
def ZbH:SM:=(mIf (zL (mCB Z8 (Zc (Zd 1) (Zc (mC (.int 4)) Zk)))) Zf8 ZM)
def ZcR:SM:=(mIf (ZfI (ZK (mOp eqM (ZI ["End"] "state" (Zd 0)) (mC (.str "syn come")))) (ZfI (zL (mCB Z8 (Zc (Zd 1) (Zc (mC (.int 2)) Zk)))) (Zdg (zL (mCB Z8 (Zc (Zd 1) (Zc (mC (.int 16)) Zk))))))) (ZH ["End"] "owes_syn" (Zd 0) (mC (.bl true))) (ZH ["End"] "owes_answer" (Zd 0) (mC (.bl true))))
def ZcQ:SM:=(mIf (ZK (mOp eqM (ZI ["End"] "state" (Zd 0)) (mC (.str "time wait")))) (ZH ["End"] "since" (Zd 0) (Zd 2)) ZM)
def Zcy:SM:=(Zs ZbH
  (Zs ZcR
  ZcQ))
def Zbh:GM:=ZO 3 3 Zcy
def ZaB:SM:=(mIf (ZfI (zL (mCB Z8 (Zc (Zd 1) (Zc (mC (.int 16)) Zk)))) (zL (mCB Z2 (Zc (Zd 0) (Zc (Zd 1) (Zc (Zd 2) Zk)))))) (zG (mCB ZaG (Zc (Zd 0) (Zc (Zd 1) (Zc (Zd 2) Zk))))) ZM)
def zV:SM:=(mIf (zL (mCB Z8 (Zc (Zd 1) (Zc (mC (.int 2)) Zk)))) (ZH ["End"] "owes_answer" (Zd 0) (mC (.bl true))) ZaB)
def zB:SM:=(mIf (zL (mCB Z8 (Zc (Zd 1) (Zc (mC (.int 4)) Zk)))) (zG (mCB Zbn (Zc (Zd 0) (Zc (Zd 1) Zk)))) zV)
def zk:SM:=(mIf (Zdg (zL (mCB ZgE (Zc (Zd 0) (Zc (Zd 1) Zk))))) (zG (mCB Zbh (Zc (Zd 0) (Zc (Zd 1) (Zc (Zd 2) Zk))))) zB)
def zy:SM:=zk
def zg:GM:=ZO 3 3 zy
def Zir:SM:=(ZL (Zcg (mOp eqM (mOp ixM (Zd 1) (mC (.int 1))) (ZI ["End"] "ours" (Zd 0))) (ZmO (mOp inM (ZI ["End"] "state" (Zd 0)) (ZaO (Zc (mC (.str "closed")) (Zc (mC (.str "listen")) Zk)))) (mOp eqM (mOp ixM (Zd 1) (mC (.int 0))) (ZI ["End"] "theirs" (Zd 0))))))
def ZeJ:GM:=ZO 2 2 Zir
def Zce:SM:=(mIf (Zdg (zL (mCB Zah (Zc (Zd 1) Zk)))) (ZL (mC (.bl false))) ZM)
def Zcd:SM:=(mIf (Zdg (zL (mCB ZeJ (Zc (Zd 0) (Zc (Zd 3) Zk))))) (ZL (mC (.bl false))) ZM)
def Zeo:SM:=(mIf (ZK (mOp eqM (ZI ["End"] "state" (Zd 0)) (mC (.str "syn sent")))) (zG (mCB ZU (Zc (Zd 0) (Zc (Zd 3) (Zc (Zd 2) Zk))))) (zG (mCB zg (Zc (Zd 0) (Zc (Zd 3) (Zc (Zd 2) Zk))))))
def Zc1:SM:=(mIf (ZK (mOp eqM (ZI ["End"] "state" (Zd 0)) (mC (.str "listen")))) (zG (mCB zA (Zc (Zd 0) (Zc (Zd 3) Zk)))) Zeo)
def Zcc:SM:=(mIf (ZK (mOp eqM (ZI ["End"] "state" (Zd 0)) (mC (.str "closed")))) (zG (mCB ZaL (Zc (Zd 0) (Zc (Zd 3) Zk)))) Zc1)
def Zdq:SM:=(Zs Zce
  (Zs (ZX 3 (mCB ZiW (Zc (Zd 1) Zk)))
  (Zs Zcd
  (Zs Zcc
  (ZL (mC (.bl true)))))))
def z6:GM:=ZO 3 4 Zdq
def ZdA:SM:=(mIf (mOr (zL (ZI ["End"] "has_closed" (Zd 0))) (ZK (mOp ZbX (ZI ["End"] "state" (Zd 0)) (ZaO (Zc (mC (.str "syn sent")) (Zc (mC (.str "syn come")) (Zc (mC (.str "open")) (Zc (mC (.str "close wait")) Zk)))))))) (ZL (mC (.int 0))) ZM)
def Zfm:SM:=(Zs ZdA
  (Zs (ZX 2 (mCB ZfZ (Zc (ZI ["End"] "written" (Zd 0)) (Zc (Zd 1) Zk))))
  (Zs (ZH ["End"] "behind" (Zd 0) (mCB zr (Zc (ZI ["End"] "behind" (Zd 0)) (Zc (Zd 2) Zk))))
  (ZL (Zd 2)))))
def Zd7:GM:=ZO 2 3 Zfm
def Zdl:SM:=(mIf (ZfI (zL (Zd 2)) (ZfI (ZK (mOp gtM (mCB zP (Zc (Zd 0) Zk)) (mC (.int 0)))) (ZK (mOp inM (ZI ["End"] "state" (Zd 0)) (ZaO (Zc (mC (.str "open")) (Zc (mC (.str "wait one")) (Zc (mC (.str "wait two")) Zk)))))))) (ZH ["End"] "owes_answer" (Zd 0) (mC (.bl true))) ZM)
def ZeW:SM:=(Zs (ZX 2 (mOp eqM (mCB zP (Zc (Zd 0) Zk)) (mC (.int 0))))
  (Zs (ZX 3 (mCB Zch (Zc (ZI ["End"] "come" (Zd 0)) (Zc (Zd 1) Zk))))
  (Zs Zdl
  (ZL (Zd 3)))))
def ZeH:GM:=ZO 2 4 ZeW
def Zmr:SM:=(ZL (mOp Zbq (mOp Z0 (Zd 0) (Zd 1)) (mC (.int 4294967296))))
def ZcO:GM:=ZO 2 2 Zmr
def Zhj:SM:=(mIf (ZK (mOp eqM (mOp Zbq (Zd 0) (mC (.int 2))) (mC (.int 0)))) (ZL (mOp Zbq (mOp Zgz (mC (.int 4294967296)) (mOp Zbq (mOp ZfK (Zd 0) (mC (.int 2))) (mC (.int 90)))) (mC (.int 4294967296)))) ZM)
def Zjr:SM:=(Zs Zhj
  (ZL (Zd 0)))
def Zfj:GM:=ZO 1 1 Zjr
def Zhg:SM:=(ZL (ZaO (Zc (mOp ixM (Zd 0) (mC (.int 1))) (Zc (mOp ixM (Zd 0) (mC (.int 0))) (Zc (Zd 1) (Zc (Zd 2) (Zc (Zd 3) (Zc (Zd 4) (Zc (mC (.int 0)) (Zc (mCB ZfE (Zc (Zd 5) Zk)) Zk))))))))))
def Zc6:GM:=ZO 6 6 Zhg
def Ze6:SM:=(mIf (zL (ZI ["End"] "has_closed" (Zd 0))) (ZL (mC (.bl false))) ZM)
def Zhf:SM:=(mIf (ZK (mOp inM (ZI ["End"] "state" (Zd 0)) (ZaO (Zc (mC (.str "listen")) (Zc (mC (.str "syn sent")) Zk))))) (Zs (ZH ["End"] "state" (Zd 0) (mC (.str "closed")))
    (ZL (mC (.bl true)))) ZM)
def Zhe:SM:=(mIf (ZK (mOp ZbX (ZI ["End"] "state" (Zd 0)) (ZaO (Zc (mC (.str "syn come")) (Zc (mC (.str "open")) (Zc (mC (.str "close wait")) Zk)))))) (ZL (mC (.bl false))) ZM)
def Zhd:SM:=(mIf (ZK (mOp eqM (ZI ["End"] "state" (Zd 0)) (mC (.str "close wait")))) (ZH ["End"] "state" (Zd 0) (mC (.str "last ack"))) ZM)
def Zhc:SM:=(mIf (ZK (mOp eqM (ZI ["End"] "state" (Zd 0)) (mC (.str "open")))) (ZH ["End"] "state" (Zd 0) (mC (.str "wait one"))) Zhd)
def ZgS:SM:=(Zs Ze6
  (Zs Zhf
  (Zs Zhe
  (Zs (ZH ["End"] "has_closed" (Zd 0) (mC (.bl true)))
  (Zs Zhc
  (ZL (mC (.bl true))))))))
def Zfe:GM:=ZO 1 1 ZgS
def Zms:SM:=(ZL (Zcg (mCB Zfw (Zc (Zd 0) (Zc (mC (.ty "int")) Zk))) (Zcg (ZnE (mCB Zfw (Zc (Zd 0) (Zc (mC (.ty "bool")) Zk)))) (Zef leM leM (mC (.int 0)) (Zd 0) (mC (.int 255))))))
def ZgL:GM:=ZO 1 1 Zms
def b_l_read_1:SM:=(mIf (mOr (Zdg (zL (mCB Zfw (Zc (Zd 0) (Zc (mC (.ty "list")) Zk))))) (ZK (mOp ltM (mCB Zdr (Zc (Zd 0) Zk)) (mC (.int 20))))) (ZL (mC .non)) ZM)
def b_l_read_2:SM:=(mIf (Zdg (zL (mCB ZrV (Zc (mComp (mIn (Zd 0)) [] (mCB ZgL (Zc (Zd 0) Zk))) Zk)))) (ZL (mC .non)) ZM)
def b_l_read_3:SM:=(mIf (mOr (ZK (mOp ZbX (mOp ixM (Zd 0) (mC (.int 12))) (ZaO (Zc (mC (.int 80)) (Zc (mC (.int 96)) Zk))))) (mOr (ZK (mOp gtM (mOp ixM (Zd 0) (mC (.int 13))) (mC (.int 31)))) (ZK (mOp gtM (mOp Z0 (mOp ixM (Zd 0) (mC (.int 18))) (mOp ixM (Zd 0) (mC (.int 19)))) (mC (.int 0)))))) (ZL (mC .non)) ZM)
def b_l_read_4:SM:=(mIf (mOr (Zdg (ZK (Zef leM leM (Zd 1) (mCB Zdr (Zc (Zd 0) Zk)) (mOp Z0 (Zd 1) (mC (.int 16)))))) (ZK (mOp neM (mCB ZcD (Zc (Zd 0) Zk)) (mC (.int 65535))))) (ZL (mC .non)) ZM)
def Ziv:SM:=(mIf (mOr (ZK (mOp eqM (mOp Zbq (mOp ZfK (mOp ixM (Zd 0) (mC (.int 13))) (mC (.int 2))) (mC (.int 2))) (mC (.int 0)))) (mOr (ZK (mOp neM (mSl (Zd 0) (ZbF (mC (.int 20))) (ZbF (mC (.int 22)))) (Zb0 (Zc (mC (.int 2)) (Zc (mC (.int 4)) Zk))))) (ZK (mOp ltM (Zd 2) (mC (.int 4)))))) (ZL (mC .non)) ZM)
def b_l_read_6:SM:=(mIf (ZK (mOp eqM (Zd 1) (mC (.int 24)))) (Zs (ZX 2 (mOp Z0 (mOp ZbY (mOp ixM (Zd 0) (mC (.int 22))) (mC (.int 256))) (mOp ixM (Zd 0) (mC (.int 23)))))
    Ziv) ZM)
def Zmq:SM:=(Zs b_l_read_1
  (Zs b_l_read_2
  (Zs (ZX 1 (mOp ZfK (mOp ixM (Zd 0) (mC (.int 12))) (mC (.int 4))))
  (Zs b_l_read_3
  (Zs b_l_read_4
  (Zs (ZX 2 (mC (.int 0)))
  (Zs b_l_read_6
  (Zs (ZX 3 (mComp (ZcW (Zc (mC (.int 8)) Zk)) [0] (mOp Z0 (mOp ZbY (mC (.int 256)) (mOp ixM (Zd 1) (mOp ZbY (mC (.int 2)) (Zd 0)))) (mOp ixM (Zd 1) (mOp Z0 (mOp ZbY (mC (.int 2)) (Zd 0)) (mC (.int 1)))))))
  (Zs (ZX 4 (ZaO (Zc (mOp ixM (Zd 3) (mC (.int 0))) (Zc (mOp ixM (Zd 3) (mC (.int 1))) (Zc (mOp Z0 (mOp ZbY (mOp ixM (Zd 3) (mC (.int 2))) (mC (.int 65536))) (mOp ixM (Zd 3) (mC (.int 3)))) (Zc (mOp Z0 (mOp ZbY (mOp ixM (Zd 3) (mC (.int 4))) (mC (.int 65536))) (mOp ixM (Zd 3) (mC (.int 5)))) Zk))))))
  (ZL (mOp Z0 (Zd 4) (ZaO (Zc (mOp ixM (Zd 0) (mC (.int 13))) (Zc (mOp ixM (Zd 3) (mC (.int 7))) (Zc (Zd 2) (Zc (mCB ZfE (Zc (mSl (Zd 0) (ZbF (Zd 1)) Za2) Zk)) Zk))))))))))))))))
def ZgJ:GM:=ZO 1 5 Zmq
def ZdF:SM:=(mIf (ZK (mOp eqM (Zd 4) (Zb0 Zk))) (Zee 2 (ZL (Zd 2))) ZM)
def Ze7:SM:=(ZeA (ZcW (Zc (mC (.int 40)) Zk)) (gNm 3) (Zs (ZX 4 (mCB ZcL (Zc (Zd 0) (Zc (Zd 1) Zk))))
    (Zs ZdF
    (Zeg 2 (mCB ZgJ (Zc (Zd 4) Zk))))))
def Zjp:SM:=(Zs (Zhy 2 Zk)
  (Zs Ze7
  (Zee 2 (ZL (Zd 2)))))
def Zgc:GM:=ZO 2 5 Zjp
def Ziw:SM:=(Zs (ZX 4 (ZaO (Zc (mOp Zbq (mCB Zb1 (Zc (Zd 0) (Zc (Zd 1) Zk))) (mC (.int 65536))) (Zc (mOp Zbq (mCB Zb1 (Zc (Zd 0) (Zc (mOp Z0 (Zd 1) (mC (.int 1))) Zk))) (mC (.int 65536))) Zk))))
  (Zs (ZX 5 (mCB Zfj (Zc (mCB Zb1 (Zc (Zd 0) (Zc (mOp Z0 (Zd 1) (mC (.int 2))) Zk))) Zk)))
  (Zs (ZX 6 (mCB Zfj (Zc (mCB Zb1 (Zc (Zd 0) (Zc (mOp Z0 (Zd 1) (mC (.int 3))) Zk))) Zk)))
  (Zs (ZX 7 (mCB ZeI (Zc (mOp ixM (Zd 4) (mC (.int 0))) (Zc (mC (.int 7)) (Zc (Zd 5) (Zc (mC (.bl false)) Zk))))))
  (Zs (zG (mCB z6 (Zc (Zd 7) (Zc (mCB Zcw (Zc (ZaO (Zc (mOp ixM (Zd 4) (mC (.int 1))) (Zc (mOp ixM (Zd 4) (mC (.int 0))) (Zc (Zd 6) (Zc (mC (.int 0)) (Zc (mC (.int 2)) (Zc (Zd 2) (Zc (Zd 3) (Zc (ZaO Zk) Zk))))))))) Zk)) (Zc (mC (.int 0)) Zk)))))
  (Zs (zG (mCB ZcL (Zc (Zd 7) (Zc (mC (.int 0)) Zk))))
  (Zs (zG (mCB z6 (Zc (Zd 7) (Zc (mCB Zcw (Zc (ZaO (Zc (mOp ixM (Zd 4) (mC (.int 1))) (Zc (mOp ixM (Zd 4) (mC (.int 0))) (Zc (mCB ZcO (Zc (Zd 6) (Zc (mC (.int 1)) Zk))) (Zc (mCB ZcO (Zc (Zd 5) (Zc (mC (.int 1)) Zk))) (Zc (mC (.int 16)) (Zc (Zd 2) (Zc (mC (.int 0)) (Zc (ZaO Zk) Zk))))))))) Zk)) (Zc (mC (.int 0)) Zk)))))
  (ZL (ZaO (Zc (Zd 7) (Zc (Zd 4) (Zc (mCB ZcO (Zc (Zd 5) (Zc (mC (.int 1)) Zk))) (Zc (mCB ZcO (Zc (Zd 6) (Zc (mC (.int 1)) Zk))) Zk)))))))))))))
def ZdV:GM:=ZO 4 8 Ziw
end
end My
namespace My
open PySem L2 L2.MM
noncomputable section
def bears (s:Seg) (f:Int):Bool:=decide (bit s.flags f=1)
def Zht (s:Seg):Int:=s.data.length+bit s.flags 2+bit s.flags 1
def ZfU (s:Seg):Seg:=if bears s 16=true then ⟨s.goal,s.src,s.ans,0,4,0,0,[]⟩ else ⟨s.goal,s.src,0,Zv s.num (Zht s),20,0,0,[]⟩
def Zbj (e:Zw) (s:Seg):Zw:=if bears s 4=true then e else { e with owed_reset:=some (ZfU s) }
def hearSyn (e:Zw) (s:Seg):Zw:={ e with rcv:=Zv s.num 1,wnd:=s.win,told:=s.num,told_by:=if bears s 16=true then s.ans else 0,most:=if s.most=0 then e.most else s.most }
def Zbm (e:Zw) (s:Seg):Zw:=
  if bears s 4=true then e
  else if bears s 16=true then Zbj e s
  else if bears s 2=true then { hearSyn { e with theirs:=s.src } s with state:=.synCome }
  else e
def Zeq (e:Zw) (s:Seg):Bool:=!decide (e.nxt=e.first) && decide (s.ans=Zv e.first 1)
def Zad (e:Zw) (s:Seg) (now:Int):Zw:=
  if bears s 16=true∧Zeq e s=false then Zbj e s
  else if bears s 4=true then (if bears s 16=true then { e with state:=.closed,error:=.refused } else e)
  else if bears s 2=true then
    (if bears s 16=true then { hearSyn e s with una:=s.ans,state:=.opn,owes_answer:=true }
     else { zh { hearSyn e s with state:=.synCome } now with owes_syn:=true })
  else e
def ZeN (e:Zw) (s:Seg):Bool:=decide (s.goal=e.ours) && (decide (e.state∈[State.closed,.listen]) || decide (s.src=e.theirs))
def ZeS (e:Zw):Bool×Zw:=
  if e.has_closed=true then (false,e)
  else if e.state=.listen∨e.state=.synSent then (true,{ e with state:=.closed })
  else if e.state=.opn then (true,{ e with has_closed:=true,state:=.waitOne })
  else if e.state=.closeWait then (true,{ e with has_closed:=true,state:=.lastAck })
  else if e.state=.synCome then (true,{ e with has_closed:=true })
  else (false,e)
section
variable {θ:Sto} {l:Nat} {e:Zw} {s:Seg} {now f:Int}
@[simp] theorem ZxI:Z8 [s.d,.int f] θ=.ok (.bl (bears s f)) θ:=by
  simp [Z8,Zjl,bears]
theorem Zgw:ZcB [s.d] θ=.ok (.int (Zht s)) θ:=Zqp s θ
@[simp] theorem ZtA:ZbN [s.d] θ=.ok (ZfU s).d θ:=by
  by_cases c:bears s 16=true
  · simp [ZbN,ZdI,ZcS,c,ZfU,ZjA]
  · simp [ZbN,ZdI,ZcS,c,ZfU,ZjA,Zgw]
@[simp] theorem ZtB (h:l+3 < θ.length):Z1 [.ref l,s.d] (upE θ l e)=.ok .non (upE θ l (Zbj e s)):=by
  by_cases c:bears s 4=true
  · simp [Z1,Zb7,Zbz,h,c,Zbj]
  · simp [Z1,Zb7,Zbz,h,c,Zbj]
@[simp] theorem Zn7 (h:l+3 < θ.length):ZaL [.ref l,s.d] (upE θ l e)=.ok .non (upE θ l (Zbj e s)):=by
  simp [ZaL,Zdp,h]
@[simp] theorem Zum (h:l+3 < θ.length):ZbK [.ref l,s.d] (upE θ l e)=.ok .non (upE θ l (hearSyn e s)):=by
  by_cases c:bears s 16=true<;>by_cases c2:s.most=0<;>simp [ZbK,Zgn,Ze2,h,c,c2,hearSyn]
@[simp] theorem Zn6 (h:l+3 < θ.length):zA [.ref l,s.d] (upE θ l e)=.ok .non (upE θ l (Zbm e s)):=by
  by_cases c:bears s 4=true
  · simp [zA,Zal,zW,h,c,Zbm]
  · by_cases c1:bears s 16=true
    · simp [zA,Zal,zW,ZaD,ZaC,h,c,c1,Zbm]
    · by_cases c2:bears s 2=true
      · simp [zA,Zal,zW,ZaD,ZaC,h,c,c1,c2,Zbm]
      · simp [zA,Zal,zW,ZaD,ZaC,h,c,c1,c2,Zbm]
@[simp] theorem Zr3 (h:l+3 < θ.length):ZbE [.ref l,s.d] (upE θ l e)=.ok (.bl (Zeq e s)) (upE θ l e):=by
  by_cases c:e.nxt=e.first<;>simp [ZbE,Zex,h,Zeq,c]
@[simp] theorem Zmy (h:l+3 < θ.length):ZU [.ref l,s.d,.int now] (upE θ l e)=.ok .non (upE θ l (Zad e s now)):=by
  by_cases c:bears s 16=true
  · by_cases c1:Zeq e s=true
    · by_cases c2:bears s 4=true
      · simp [ZU,Z7,ZZ,Z9,ZeG,ZfL,Zek,h,c,c1,c2,Zad]
      · by_cases c3:bears s 2=true
        · simp [ZU,Z7,ZZ,Z9,zH,zK,ZaR,Zao,h,c,c1,c2,c3,Zad]
        · simp [ZU,Z7,ZZ,Z9,zH,h,c,c1,c2,c3,Zad]
    · simp [ZU,Z7,ZZ,h,c,c1,Zad]
  · by_cases c2:bears s 4=true
    · simp [ZU,Z7,ZZ,Z9,ZeG,ZfL,Zek,h,c,c2,Zad]
    · by_cases c3:bears s 2=true
      · simp [ZU,Z7,ZZ,Z9,zH,zK,ZaR,Zao,h,c,c2,c3,Zad]
      · simp [ZU,Z7,ZZ,Z9,zH,h,c,c2,c3,Zad]
@[simp] theorem Zwg (h:l+3 < θ.length):ZeJ [.ref l,s.d] (upE θ l e)=.ok (.bl (ZeN e s)) (upE θ l e):=by
  simp [ZeJ,Zir,h,ZeN]
theorem Znb (h:l+3 < θ.length):Zfe [.ref l] (upE θ l e)=.ok (.bl (ZeS e).1) (upE θ l (ZeS e).2):=by
  by_cases c:e.has_closed=true
  · simp [Zfe,ZgS,Ze6,h,c,ZeS]
  · cases s:e.state<;>simp [Zfe,ZgS,Ze6,Zhf,Zhe,Zhd,Zhc,h,c,ZeS,s]
theorem Zhr (h:l+3 < θ.length) {r:List Int} (hb:Byt r) (hr:Zas r=true) (hf:ZeN e (Zby r)=true) (hs:e.state=.closed):z6 [.ref l,il r,.int now] (upE θ l e)=.ok (.bl true) (upE θ l (Zbj e (Zby r))):=by
  simp [z6,Zdq,Zce,Zcd,Zcc,Zc7 hb,hr,Zm9 hb hr,h,hf,hs]
theorem Zhq (h:l+3 < θ.length) {r:List Int} (hb:Byt r) (hr:Zas r=true) (hf:ZeN e (Zby r)=true) (hs:e.state=.listen):z6 [.ref l,il r,.int now] (upE θ l e)=.ok (.bl true) (upE θ l (Zbm e (Zby r))):=by
  simp [z6,Zdq,Zce,Zcd,Zcc,Zc1,Zc7 hb,hr,Zm9 hb hr,h,hf,hs]
theorem Zgy (h:l+3 < θ.length) {r:List Int} (hb:Byt r) (hr:Zas r=true) (hf:ZeN e (Zby r)=true) (hs:e.state=.synSent):z6 [.ref l,il r,.int now] (upE θ l e)=.ok (.bl true) (upE θ l (Zad e (Zby r) now)):=by
  simp [z6,Zdq,Zce,Zcd,Zcc,Zc1,Zeo,Zc7 hb,hr,Zm9 hb hr,h,hf,hs]
@[simp] theorem ZxG {n k:Int}:ZcO [.int n,.int k] θ=.ok (.int (Zv n k)) θ:=by simp [ZcO,Zmr,Zv]
def Zbs (n:Int):Int:=if n % 2=0 then (4294967296-n/2 % 90) % 4294967296 else n
@[simp] theorem Zwf {n:Int}:Zfj [.int n] θ=.ok (.int (Zbs n)) θ:=by
  by_cases c:n % 2=0<;>simp [Zfj,Zjr,Zhj,Zbs,c]
end
end
end My
namespace My
open PySem L2 L2.MM
noncomputable section
section
variable {θ:Sto} {ρ:List Sl} {fi fo fe ff:EM} {fa:AM} {i j k:Nat} {b:SM} {x:D} {r:List D}
theorem nr' {p:Prop} (h:p):p:=h
@[simp] theorem ZBs:Zrj fi fo ρ θ=(fi ρ θ).bind fun y θ=>(fo ρ θ).bind fun d θ=>match ZlY y,ZgP θ d with
  | some k,some (_,kvs)=>.ok (.bl (valD kvs k).isSome) θ
  | _,_=>.bad:=nr' rfl
@[simp] theorem Zz9:ZnF fo fe ρ θ=(fo ρ θ).bind fun d θ=>match ZgP θ d with
  | none=>.bad
  | some _=>(fe ρ θ).bind fun y θ=>match ZlY y,ZgP θ d with
    | some k,some (l,kvs)=>match valD kvs k with
      | some v=>.ok v (θ.set l (.dK (dropD kvs k)))
      | none=>.bad
    | _,_=>.bad:=nr' rfl
@[simp] theorem Zxz:ZmQ fo fe ff ρ θ=(fo ρ θ).bind fun d θ=>match ZgP θ d with
  | none=>.bad
  | some _=>(fe ρ θ).bind fun y θ=>(ff ρ θ).bind fun z θ=>match ZlY y,ZgP θ d with
    | some k,some (l,kvs)=>if kvs.length<BIG then (match valD kvs k with
      | some v=>.ok v θ
      | none=>.ok z (θ.set l (.dK (putD kvs k z)))) else .bad
    | _,_=>.bad:=nr' rfl
@[simp] theorem Zz6 {n:Int}:ZlY (.int n)=some (.inl n):=nr' rfl
end
abbrev EL:=List (Int×Int)
def atE (m:EL) (n:Int):Option Int:=(m.find? fun p=>decide (p.1=n)).map (·.2)
def Zdy (m:EL) (n:Int):EL:=m.filter fun p=>decide (p.1≠n)
def Zg3 (m:EL) (n b:Int):EL:=match atE m n with | some _=>m | none=>m++[(n,b)]
abbrev ed (p:Int×Int):Key×D:=(Sum.inl p.1,D.int p.2)
theorem ZfQ (n:Int):∀m:EL,valD (m.map ed) (.inl n)=(atE m n).map D.int
  | []=>rfl
  | p::r=>by
    have ih:=ZfQ n r
    unfold valD atE at ih ⊢
    by_cases e:p.1=n
    · simp [ed,e]
    · simpa [ed,e] using ih
theorem Zma (n:Int):∀m:EL,dropD (m.map ed) (.inl n)=(Zdy m n).map ed
  | []=>rfl
  | p::r=>by
    have ih:=Zma n r
    unfold dropD Zdy at ih ⊢
    by_cases e:p.1=n
    · simpa [ed,e] using ih
    · simpa [ed,e] using ih
theorem ZrT (n:Int):∀m:EL,((m.map ed).any fun kv=>decide (kv.1=Sum.inl n))=(atE m n).isSome
  | []=>rfl
  | p::r=>by
    have ih:=ZrT n r
    unfold atE at ih ⊢
    by_cases e:p.1=n
    · simp [ed,e]
    · simpa [ed,e] using ih
theorem Zsy (n b:Int) (m:EL) (h:atE m n=none):putD (m.map ed) (.inl n) (.int b)=(m++[(n,b)]).map ed:=by
  unfold putD
  rw [ZrT,h]
  simp [ed]
section
variable {θ:Sto} {l:Nat} {e:Zw} {s:Seg} {now:Int}
theorem dk3 (h:l+3 < θ.length):ZgP (upE θ l e) (.ref (l+3))=some (l+3,e.early.map ed):=by
  have:(upE θ l e)[l+3]?=some (c3 e):=by
    unfold upE
    rw [List.getElem?_set_self (by simpa using h)]
  show (match (upE θ l e)[l+3]? with | some (Cell.dK kvs)=>some (l+3,kvs) | _=>none)=_
  rw [this]
  rfl
theorem Zws (h:l+3 < θ.length) (m:EL):(upE θ l e).set (l+3) (.dK (m.map ed))=upE θ l { e with early:=m }:=by
  unfold upE
  rw [List.set_set]
  rfl
end
def inWin (e:Zw) (n:Int):Bool:=decide (0≤ZY n e.rcv) && decide (ZY n e.rcv<ZR e)
def ZcX (e:Zw) (s:Seg):Bool:=if Zht s=0 then decide (0≤ZY s.num e.rcv) && decide (ZY s.num e.rcv≤64) else inWin e s.num || inWin e (Zv s.num (Zht s-1))
def ZdN (e:Zw) (s:Seg) (now:Int):Zw:=
  if bears s 4=true then e
  else if e.state=.timeWait then { e with owes_answer:=true,since:=now }
  else if e.state=.synCome∧bears s 2=true∧bears s 16=false then { e with owes_syn:=true }
  else { e with owes_answer:=true }
def Zfk (e:Zw) (s:Seg):Zw:=if e.state=.timeWait then e else if s.num=e.rcv then { e with state:=.closed,error:=.reset } else { e with owes_answer:=true }
def ZaY (a b:Int):Bool:=decide (0<ZY a b)
def Zds (e:Zw) (s:Seg):Zw:={ e with wnd:=s.win,told:=s.num,told_by:=s.ans }
def ZaE (e:Zw) (s:Seg):Bool×Zw:=
  if e.nxt=e.first∨¬s.ans=e.nxt then (false,Zbj e s)
  else (true,Zds { e with una:=s.ans,state:=if e.has_closed=true then .waitOne else .opn } s)
def isNewer (e:Zw) (s:Seg):Bool:=if s.num=e.told then !ZaY e.told_by s.ans else ZaY s.num e.told
def Zcx (e:Zw) (s:Seg) (now:Int):Zw:=
  if ZaY s.ans e.una=true then
    (if s.ans=e.nxt then { e with written:=e.written.drop (ZY s.ans e.una).toNat,una:=s.ans } else zh { e with written:=e.written.drop (ZY s.ans e.una).toNat,una:=s.ans } now)
  else e
def zN (e:Zw) (s:Seg) (now:Int):Zw:=
  let e1:=Zcx e s now
  if ZaY e1.una s.ans=true then e1
  else
    let e2:=if (ZaY s.ans e.una || isNewer e1 s)=true then Zds e1 s else e1
    if e1.wnd=0∨e2.wnd=0 then { e2 with tries:=0 } else e2
def Zfd (e:Zw):Bool:=ZaY e.nxt e.behind
def Za7 (e:Zw) (now:Int):Zw:=
  if Zfd e=false∨¬e.una=e.nxt then e
  else if e.state=.waitOne then { e with state:=.waitTwo }
  else if e.state=.closing then { e with state:=.timeWait,since:=now }
  else if e.state=.lastAck then { e with state:=.closed }
  else e
def z8 (e:Zw) (s:Seg) (now:Int):Bool×Zw:=
  if e.state=.synCome then ZaE e s
  else if ZaY s.ans e.nxt=true then (false,{ e with owes_answer:=true })
  else (!decide ((Za7 (zN e s now) now).state=.closed),Za7 (zN e s now) now)
def Zbc (e:Zw) (num:Int):Nat→List Int→Zw
  | _,[]=>e
  | k,b::r=>Zbc (if inWin e (Zv num k)=true then { e with early:=Zg3 e.early (Zv num k) b } else e) num (k+1) r
def ZaP (e:Zw) (s:Seg):Zw:=if 0<s.data.length then { Zbc e s.num 0 s.data with owes_answer:=true } else Zbc e s.num 0 s.data
def Zb2 (e:Zw) (s:Seg):Zw:=
  if bears s 1=false then e
  else if e.early_fin=none∧inWin e (Zv s.num s.data.length)=true then { e with owes_answer:=true,early_fin:=some (Zv s.num s.data.length) }
  else { e with owes_answer:=true }
def drawn:Nat→Zw→List Int×Zw
  | 0,e=>([],e)
  | n+1,e=>if e.early_fin=some e.rcv then ([],e) else match atE e.early e.rcv with
    | none=>([],e)
    | some b=>(b::(drawn n { e with early:=Zdy e.early e.rcv,rcv:=Zv e.rcv 1 }).1,(drawn n { e with early:=Zdy e.early e.rcv,rcv:=Zv e.rcv 1 }).2)
def ZhA (e:Zw) (r:List Int):Zw:={ e with come:=e.come++Zbg r none (some (ZR e)) }
def Zgg (e:Zw) (now:Int):Zw:=
  if e.state=.opn then { e with rcv:=Zv e.rcv 1,state:=.closeWait }
  else if e.state=.waitOne then { e with rcv:=Zv e.rcv 1,state:=.closing }
  else { e with rcv:=Zv e.rcv 1,state:=.timeWait,since:=now }
section
variable {θ:Sto} {l:Nat} {e:Zw} {s:Seg} {now n a b:Int}
@[simp] theorem ZAh:Zci [.int a,.int b] θ=.ok (.bl (ZaY a b)) θ:=by simp [Zci,Zmo,ZaY]
@[simp] theorem Zuc (h:l+3 < θ.length):Zbi [.ref l] (upE θ l e)=.ok (.bl (Zfd e)) (upE θ l e):=by
  simp [Zbi,ZdZ,h,Zfd]
@[simp] theorem ZtD (h:l+3 < θ.length):zo [.ref l,.int n] (upE θ l e)=.ok (.bl (inWin e n)) (upE θ l e):=by
  by_cases c:0≤ZY n e.rcv<;>simp [zo,ZdY,h,inWin,ZR,c]<;>exact decide_eq_decide.mpr Iff.rfl
@[simp] theorem ZAi (h:l+3 < θ.length):ZgE [.ref l,s.d] (upE θ l e)=.ok (.bl (ZcX e s)) (upE θ l e):=by
  by_cases c:Zht s=0
  · by_cases c1:0≤ZY s.num e.rcv<;>simp [ZgE,Ziu,ZfM,h,Zgw,c,c1,ZcX]
  · by_cases c1:inWin e s.num=true<;>simp [ZgE,Ziu,ZfM,h,Zgw,c,c1,ZcX]
@[simp] theorem Ztz (h:l+3 < θ.length):Zbh [.ref l,s.d,.int now] (upE θ l e)=.ok .non (upE θ l (ZdN e s now)):=by
  by_cases c4:bears s 4=true
  · simp [Zbh,Zcy,ZbH,h,c4,ZdN]
  · by_cases ct:e.state=.timeWait
    · simp [Zbh,Zcy,ZbH,ZcR,ZcQ,h,c4,ct,ZdN]
    · by_cases cs:e.state=.synCome<;>by_cases c2:bears s 2=true<;>by_cases c16:bears s 16=true<;>simp [Zbh,Zcy,ZbH,ZcR,ZcQ,h,c4,ct,cs,c2,c16,ZdN]
@[simp] theorem Zsg (h:l+3 < θ.length):Zbn [.ref l,s.d] (upE θ l e)=.ok .non (upE θ l (Zfk e s)):=by
  by_cases ct:e.state=.timeWait
  · simp [Zbn,Zdn,Zcr,Zcq,h,ct,Zfk]
  · by_cases c:s.num=e.rcv<;>simp [Zbn,Zdn,Zcr,Zcq,h,ct,c,Zfk]
@[simp] theorem ZrZ (h:l+3 < θ.length):ZaF [.ref l,s.d] (upE θ l e)=.ok .non (upE θ l (Zds e s)):=by
  simp [ZaF,Zeu,h,Zds]
@[simp] theorem Zqs (h:l+3 < θ.length):zt [.ref l,s.d] (upE θ l e)=.ok (.bl (ZaE e s).1) (upE θ l (ZaE e s).2):=by
  by_cases c1:e.nxt=e.first
  · simp [zt,Zay,Zaa,h,c1,ZaE]
  · by_cases c2:s.ans=e.nxt
    · by_cases c3:e.has_closed=true<;>simp [zt,Zay,Zaa,h,c1,c2,c3,ZaE]
    · simp [zt,Zay,Zaa,h,c1,c2,ZaE]
@[simp] theorem Zuk (h:l+3 < θ.length):Zdc [.ref l,s.d] (upE θ l e)=.ok (.bl (isNewer e s)) (upE θ l e):=by
  by_cases c:s.num=e.told<;>simp [Zdc,Zgm,Ze1,h,c,isNewer]
theorem Zsa (h:l+3 < θ.length):Zch [.ref (l+1),.int n] (upE θ l e)=.ok (il (e.written.take n.toNat)) (upE θ l { e with written:=e.written.drop n.toNat }):=by
  by_cases c:0<n
  · simp [Zch,Zdk,h,Zeh,Zb6,c,show 0≤n by omega,show ¬n<0 by omega]
  · have z:n.toNat=0:=by omega
    by_cases c0:n<0
    · simp [Zch,Zdk,h,Zeh,Zb6,z,c0,Zb3]
    · have n0:n=0:=by omega
      simp [Zch,Zdk,h,Zeh,Zb6,n0,Zb3]
theorem Zr9 (h:l+3 < θ.length):Zch [.ref (l+2),.int n] (upE θ l e)=.ok (il (e.come.take n.toNat)) (upE θ l { e with come:=e.come.drop n.toNat }):=by
  by_cases c:0<n
  · simp [Zch,Zdk,h,Zeh,Zb6,c,show 0≤n by omega,show ¬n<0 by omega]
  · have z:n.toNat=0:=by omega
    by_cases c0:n<0
    · simp [Zch,Zdk,h,Zeh,Zb6,z,c0,Zb3]
    · have n0:n=0:=by omega
      simp [Zch,Zdk,h,Zeh,Zb6,n0,Zb3]
@[simp] theorem Zr1 (h:l+3 < θ.length):zQ [.ref l,s.d,.int now] (upE θ l e)=.ok .non (upE θ l (zN e s now)):=by
  have tk:=fun (e:Zw) (n:Int)=>Zsa (θ:=θ) (l:=l) (e:=e) (n:=n) h
  have h2:Zax [.val (.ref l),.val s.d,.val (.int now),.val (.int s.ans),.val (.bl (ZaY s.ans e.una)),.no] (upE θ l e)=.ok (.nx,[.val (.ref l),.val s.d,.val (.int now),.val (.int s.ans),.val (.bl (ZaY s.ans e.una)),.no]) (upE θ l (Zcx e s now)):=by
    unfold Zcx
    by_cases c1:ZaY s.ans e.una=true
    · rw [if_pos c1]
      by_cases c2:s.ans=e.nxt
      · rw [if_pos c2,c1]
        simp [Zax,Zca,h,tk,c2]
      · rw [if_neg c2,c1]
        simp [Zax,Zca,h,tk,c2]
    · rw [if_neg c1]
      simp [Zax,c1]
  unfold zN
  obtain ⟨e1,he1⟩:∃x,x=Zcx e s now:=⟨_,rfl⟩
  rw [←he1] at h2 ⊢
  obtain ⟨g,hg⟩:∃x,x=ZaY s.ans e.una:=⟨_,rfl⟩
  rw [←hg] at h2 ⊢
  clear he1
  by_cases c3:ZaY e1.una s.ans=true
  · simp [zQ,Za9,h,←hg,h2,Zaw,c3]
  · have w0:∀x:Zw,(if (g || isNewer e1 s)=true then Zds e1 s else e1)=x→zQ [.ref l,s.d,.int now] (upE θ l e)=.ok .non (upE θ l (if e1.wnd=0∨x.wnd=0 then { x with tries:=0 } else x)):=by
      intro x hx
      have h4:Zbf [.val (.ref l),.val s.d,.val (.int now),.val (.int s.ans),.val (.bl g),.val (.bl (decide (e1.wnd=0)))] (upE θ l e1)=.ok (.nx,[.val (.ref l),.val s.d,.val (.int now),.val (.int s.ans),.val (.bl g),.val (.bl (decide (e1.wnd=0)))]) (upE θ l x):=by
        rw [←hx]
        cases g
        · by_cases c:isNewer e1 s=true<;>simp [Zbf,h,c]
        · simp [Zbf,h]
      by_cases c5:e1.wnd=0
      · rw [if_pos (.inl c5)]
        simp [zQ,Za9,h,←hg,h2,Zaw,c3,c5] at h4 ⊢
        simp [h4,Zbe,h]
      · by_cases c6:x.wnd=0
        · rw [if_pos (.inr c6)]
          simp [zQ,Za9,h,←hg,h2,Zaw,c3,c5] at h4 ⊢
          simp [h4,Zbe,h,c6]
        · rw [if_neg (by intro z; exact z.elim c5 c6)]
          simp [zQ,Za9,h,←hg,h2,Zaw,c3,c5] at h4 ⊢
          simp [h4,Zbe,h,c6]
    simp only [if_neg c3]
    exact w0 _ rfl
@[simp] theorem ZtE (h:l+3 < θ.length):ZT [.ref l,.int now] (upE θ l e)=.ok .non (upE θ l (Za7 e now)):=by
  by_cases c1:Zfd e=true
  · by_cases c2:e.una=e.nxt
    · cases c:e.state<;>simp [ZT,zq,zl,ZaU,ZaT,ZaS,h,c,c1,c2,Za7]
    · simp [ZT,zq,zl,h,c1,c2,Za7]
  · simp [ZT,zq,zl,h,c1,Za7]
@[simp] theorem ZvM (h:l+3 < θ.length):Z2 [.ref l,s.d,.int now] (upE θ l e)=.ok (.bl (z8 e s now).1) (upE θ l (z8 e s now).2):=by
  by_cases c1:e.state=.synCome
  · simp [Z2,zJ,zC,h,c1,z8]
  · by_cases c2:ZaY s.ans e.nxt=true
    · simp [Z2,zJ,zC,Zab,h,c1,c2,z8]
    · simp [Z2,zJ,zC,Zab,h,c1,c2,z8]
end
end
end My
namespace My
open PySem L2 L2.MM
noncomputable section
theorem Zi7 (m:EL) (n b:Int):(Zg3 m n b).length≤m.length+1:=by
  unfold Zg3
  cases atE m n<;>simp
section
variable {θ:Sto} {l:Nat} {e:Zw} {s:Seg} {now n b:Int}
abbrev keepB:SM:=Zs (ZX 4 (mCB zr (Zc (mOp ixM (Zd 1) (mC (.int 2))) (Zc (Zd 2) Zk)))) Za8
theorem Zsf (h:l+3 < θ.length) (k:Nat) (x:Sl) (he:e.early.length<1000):keepB [.val (.ref l),.val s.d,.val (.int k),.val (.int b),x] (upE θ l e)=.ok (.nx,[.val (.ref l),.val s.d,.val (.int k),.val (.int b),.val (.int (Zv s.num k))]) (upE θ l (if inWin e (Zv s.num k)=true then { e with early:=Zg3 e.early (Zv s.num k) b } else e)):=by
  have hd:=fun (e:Zw)=>dk3 (θ:=θ) (l:=l) (e:=e) h
  have hs:=fun (e:Zw) (m:EL)=>Zws (θ:=θ) (l:=l) (e:=e) h m
  have hB:(e.early.map ed).length<BIG:=by simp [BIG]; omega
  obtain ⟨n,hn⟩:∃n,n=Zv s.num k:=⟨_,rfl⟩
  by_cases c:inWin e n=true
  · unfold Zg3
    cases c2:atE e.early n with
    | some v=>
      simp [Za8,h,←hn,c,hd,hB,ZfQ,c2,-List.length_map]
    | none=>
      simp [Za8,h,←hn,c,hd,hB,ZfQ,c2,Zsy,hs,-List.length_map,-List.map_append]
  · simp [Za8,h,←hn,c]
theorem Zm7 (h:l+3 < θ.length):∀(r:List Int) (k:Nat) (x y z:Sl) (e:Zw),e.early.length+r.length<1000→
    ∃x' y' z',forE 2 3 keepB k (r.map D.int) [.val (.ref l),.val s.d,x,y,z] (upE θ l e)=.ok (.nx,[.val (.ref l),.val s.d,x',y',z']) (upE θ l (Zbc e s.num k r))
  | [],k,x,y,z,e,_=>⟨x,y,z,rfl⟩
  | b::r,k,x,y,z,e,hl=>by
    have hl':e.early.length+r.length+1<1000:=by simpa [Nat.add_assoc] using hl
    show ∃x' y' z',(keepB [.val (.ref l),.val s.d,.val (.int k),.val (.int b),z] (upE θ l e)).bind (Zfu (forE 2 3 keepB (k+1) (r.map D.int)))=_
    rw [Zsf h k z (by omega)]
    exact Zm7 h r (k+1) _ _ _ _ (by
      split
      · have:=Zi7 e.early (Zv s.num k) b
        show (Zg3 e.early (Zv s.num k) b).length+r.length<1000
        omega
      · omega)
@[simp] theorem Zlx (h:l+3 < θ.length) (hl:e.early.length+s.data.length<1000):ZbO [.ref l,s.d] (upE θ l e)=.ok .non (upE θ l (ZaP e s)):=by
  obtain ⟨x,y,z,g⟩:=Zm7 (s:=s) h s.data 0 .no .no .no e hl
  have h2:ZcU [.val (.ref l),.val s.d,.no,.no,.no] (upE θ l e)=.ok (.nx,[.val (.ref l),.val s.d,x,y,z]) (upE θ l (Zbc e s.num 0 s.data)):=by
    rw [←g]
    simp [ZcU,Zri]
    rfl
  obtain ⟨e1,he1⟩:∃q,q=Zbc e s.num 0 s.data:=⟨_,rfl⟩
  unfold ZaP
  rw [←he1] at h2 ⊢
  by_cases c:0<s.data.length
  · rw [if_pos c]
    simp [ZbO,ZdL,h2,ZcT,h,c]
  · rw [if_neg c]
    simp [ZbO,ZdL,h2,ZcT,h,c]
@[simp] theorem ZuA (h:l+3 < θ.length) (e:Zw) (n:Int):za ["End"] "early_fin" (.int n) (.ref l) (upE θ l e)=some (upE θ l { e with early_fin:=some n }):=ZlF h e (some n)
@[simp] theorem ZvU (r:Option Int):ZcF (Zhv r)=r.isNone:=by cases r<;>rfl
theorem Zlw (h:l+3 < θ.length):ZaQ [.val (.ref l),.val s.d,.val (.int n)] (upE θ l e)=.ok (.nx,[.val (.ref l),.val s.d,.val (.int n)]) (upE θ l (if e.early_fin=none∧inWin e n=true then { e with early_fin:=some n } else e)):=by
  by_cases c2:e.early_fin=none
  · by_cases c3:inWin e n=true
    · rw [if_pos ⟨c2,c3⟩]
      have q:∀f,e.early_fin=f→f=none→ZaQ [.val (.ref l),.val s.d,.val (.int n)] (upE θ l e)=.ok (.nx,[.val (.ref l),.val s.d,.val (.int n)]) (upE θ l { e with early_fin:=some n }):=by
        intro f hf h0
        have h1:e.early_fin.isNone=true:=by rw [hf,h0]; rfl
        simp [ZaQ,h,h1,c3]
      exact q _ rfl c2
    · rw [if_neg fun z=>c3 z.2]
      have h1:e.early_fin.isNone=true:=by rw [c2]; rfl
      simp [ZaQ,h,h1,c3]
  · rw [if_neg fun z=>c2 z.1]
    have h1:e.early_fin.isNone=false:=by cases q:e.early_fin<;>first | exact absurd q c2 | rfl
    simp [ZaQ,h,h1]
@[simp] theorem Zmx (h:l+3 < θ.length):Zck [.ref l,s.d] (upE θ l e)=.ok .non (upE θ l (Zb2 e s)):=by
  unfold Zb2
  by_cases c1:bears s 1=true
  · obtain ⟨n,hn⟩:∃n,n=Zv s.num s.data.length:=⟨_,rfl⟩
    have k2:=Zlw (e:={ e with owes_answer:=true }) (s:=s) (n:=n) h
    rw [←hn,c1]
    simp [Zck,Zem,Zdm,h,c1,←hn,k2]
    rfl
  · simp [Zck,Zem,Zdm,c1]
@[simp] theorem ZAI (n:Int) (r:Option Int):neM (.int n) (Zhv r) θ=.ok (.bl (!decide (r=some n))) θ:=by
  cases r with
  | none=>rw [ZhY (by exact ZdH rfl rfl rfl rfl)]; simp [look,Zhv]
  | some m=>simp [Zhv,eq_comm]
@[simp] theorem ZA4 (n:Int) (r:Option Int):eqM (.int n) (Zhv r) θ=.ok (.bl (decide (r=some n))) θ:=by
  cases r with
  | none=>rw [ZgO (by exact ZdH rfl rfl rfl rfl)]; simp [look,Zhv]
  | some m=>simp [Zhv,eq_comm]
abbrev ZrC:TMr:=ZfI (ZK (mOp neM (ZI ["End"] "rcv" (Zd 0)) (ZI ["End"] "early_fin" (Zd 0)))) (ZK (Zrj (ZI ["End"] "rcv" (Zd 0)) (ZI ["End"] "early" (Zd 0))))
abbrev ZrD:SM:=Zs (Zeg 1 (ZnF (ZI ["End"] "early" (Zd 0)) (ZI ["End"] "rcv" (Zd 0))))
    (ZH ["End"] "rcv" (Zd 0) (mCB zr (Zc (ZI ["End"] "rcv" (Zd 0)) (Zc (mC (.int 1)) Zk))))
theorem Zsk (h:l+3 < θ.length) (x:Sl):ZrC [.val (.ref l),x] (upE θ l e)=.ok (!decide (e.early_fin=some e.rcv) && (atE e.early e.rcv).isSome) (upE θ l e):=by
  have hd:=fun (e:Zw)=>dk3 (θ:=θ) (l:=l) (e:=e) h
  by_cases c:e.early_fin=some e.rcv<;>simp [h,hd,ZfQ,c]
theorem Zsl (h:l+3 < θ.length) {b:Int} (xs:List D) (hx:xs.length<BIG) (hv:atE e.early e.rcv=some b):ZrD [.val (.ref l),.own xs] (upE θ l e)=.ok (.nx,[.val (.ref l),.own (xs++[.int b])]) (upE θ l { e with early:=Zdy e.early e.rcv,rcv:=Zv e.rcv 1 }):=by
  have hd:=fun (e:Zw)=>dk3 (θ:=θ) (l:=l) (e:=e) h
  have hs:=fun (e:Zw) (m:EL)=>Zws (θ:=θ) (l:=l) (e:=e) h m
  simp [h,hd,ZfQ,hv,Zma,hs,hx]
theorem ZrB {m:EL} {n b:Int} (h:atE m n=some b):(Zdy m n).length<m.length:=by
  induction m with
  | nil=>simp [atE] at h
  | cons p r ih=>
    unfold Zdy atE at *
    by_cases e:p.1=n
    · simp [e]
      exact Nat.lt_succ_of_le (List.length_filter_le ..)
    · simp [e] at h ⊢
      have:=ih (by simpa using h)
      simpa using this
theorem Zna (h:l+3 < θ.length):∀(n:Nat) (e:Zw) (xs:List Int),e.early.length<n→xs.length+n<1000→ZcJ ZrC ZrD n [.val (.ref l),.own (xs.map D.int)] (upE θ l e)=.ok (.nx,[.val (.ref l),.own ((xs++(drawn n e).1).map D.int)]) (upE θ l (drawn n e).2)
  | 0,e,xs,hn,_=>absurd hn (Nat.not_lt_zero _)
  | n+1,e,xs,hn,hx=>by
    rw [Zhw,Zsk h]
    unfold drawn
    by_cases c:e.early_fin=some e.rcv
    · simp [c]
    · cases c2:atE e.early e.rcv with
      | none=>simp [c]
      | some b=>
        have:=Zna h n { e with early:=Zdy e.early e.rcv,rcv:=Zv e.rcv 1 } (xs++[b]) (by have:=ZrB c2; simp only; omega) (by simp; omega)
        rw [if_neg c]
        simp only [c,decide_false,Bool.not_false,Bool.true_and,Option.isSome_some,R.bind,if_true]
        rw [Zsl h (xs.map D.int) (by simp [BIG]; omega) c2]
        simp only [R.bind,Zfu]
        rw [List.map_append] at this
        simpa [List.append_assoc] using this
theorem Zif:∀(n:Nat) (e:Zw),(drawn n e).2.come=e.come
  | 0,e=>rfl
  | n+1,e=>by
    unfold drawn
    split
    · rfl
    · split
      · rfl
      · exact Zif n _
theorem ZnP {r:List Int} {k:Int} (h:0≤k):((Zbg r none (some k)).length:Int)≤k:=by
  rw [Zeh r h]
  have:=List.length_take_le k.toNat r
  omega
theorem Zuj (h:l+3 < θ.length) (hc:e.come.length≤64) (r:List Int):ZfZ [.ref (l+2),il r] (upE θ l e)=.ok (.int (Zbg r none (some (ZR e))).length) (upE θ l (ZhA e r)):=by
  have h1:e.come.length+(Zbg r none (some (ZR e))).length≤100000:=by
    have:=ZnP (r:=r) (k:=ZR e) (by unfold ZR; omega)
    unfold ZR at *
    omega
  simp [ZfZ,Zj0,h,ZhA,h1]
@[simp] theorem ZxE (h:l+3 < θ.length):Zd8 [.ref (l+1)] (upE θ l e)=.ok (.int (64-(e.written.length:Int))) (upE θ l e):=by
  simp [Zd8,Zin,h]
theorem Zui (h:l+3 < θ.length) (hc:e.written.length≤64) (r:List Int):ZfZ [.ref (l+1),il r] (upE θ l e)=.ok (.int (Zbg r none (some (64-(e.written.length:Int)))).length) (upE θ l { e with written:=e.written++Zbg r none (some (64-(e.written.length:Int))) }):=by
  have h1:e.written.length+(Zbg r none (some (64-(e.written.length:Int)))).length≤100000:=by
    have:=ZnP (r:=r) (k:=64-(e.written.length:Int)) (by omega)
    omega
  simp [ZfZ,Zj0,h,h1]
def Zgi (e:Zw):Zw:=ZhA (drawn 200 e).2 (drawn 200 e).1
theorem Zho (h:l+3 < θ.length) (hc:e.come.length≤64) (he:e.early.length<200):Za4 [.ref l] (upE θ l e)=.ok .non (upE θ l (Zgi e)):=by
  have g:=Zna h 200 e [] he (by simp)
  have g1:ZbB [.val (.ref l),.own []] (upE θ l e)=.ok (.nx,[.val (.ref l),.own ((drawn 200 e).1.map D.int)]) (upE θ l (drawn 200 e).2):=by
    have q:ZbB=ZcJ ZrC ZrD 200:=rfl
    rw [q]
    simpa using g
  have hc1:(drawn 200 e).2.come.length≤64:=by rw [Zif]; exact hc
  obtain ⟨e1,he1⟩:∃q,q=(drawn 200 e).2:=⟨_,rfl⟩
  obtain ⟨r1,hr1⟩:∃q,q=(drawn 200 e).1:=⟨_,rfl⟩
  unfold Zgi
  rw [←he1,←hr1] at g1 ⊢
  rw [←he1] at hc1
  have tl:=Zuj (e:=e1) h hc1 r1
  simp [Za4,ZdC,g1,h,tl]
@[simp] theorem Zun (h:l+3 < θ.length):Zcl [.ref l,.int now] (upE θ l e)=.ok .non (upE θ l (Zgg e now)):=by
  by_cases c1:e.state=.opn
  · simp [Zcl,Zen,Zdo,h,c1,Zgg]
  · by_cases c2:e.state=.waitOne<;>simp [Zcl,Zen,Ze3,Zdo,h,c1,c2,Zgg]
def ZbV (e:Zw) (s:Seg):Zw:=Zgi (Zb2 (ZaP e s) s)
def Zat (e:Zw) (s:Seg) (now:Int):Zw:=
  if e.state=.opn∨e.state=.waitOne∨e.state=.waitTwo then
    (if (ZbV e s).early_fin=some (ZbV e s).rcv then Zgg (ZbV e s) now else ZbV e s)
  else e
theorem Zg4 (num:Int):∀(r:List Int) (k:Nat) (e:Zw),(Zbc e num k r).early.length≤e.early.length+r.length
  | [],k,e=>Nat.le_refl _
  | b::r,k,e=>by
    unfold Zbc
    refine Nat.le_trans (Zg4 num r (k+1) _) ?_
    split
    · have:=Zi7 e.early (Zv num k) b
      simp only [List.length_cons]
      omega
    · simp only [List.length_cons]; omega
theorem ZiF (e:Zw) (s:Seg):(Zb2 e s).early=e.early:=by
  unfold Zb2
  split
  · rfl
  · split<;>rfl
theorem ZjM (e:Zw) (s:Seg):(ZaP e s).early.length≤e.early.length+s.data.length:=by
  unfold ZaP
  split<;>exact Zg4 ..
theorem Zgd (num:Int):∀(r:List Int) (k:Nat) (e:Zw),(Zbc e num k r).come=e.come
  | [],k,e=>rfl
  | b::r,k,e=>by
    unfold Zbc
    rw [Zgd num r (k+1) _]
    split<;>rfl
theorem ZjL (e:Zw) (s:Seg):(Zb2 e s).come=e.come:=by
  unfold Zb2
  split
  · rfl
  · split<;>rfl
theorem ZiG (e:Zw) (s:Seg):(ZaP e s).come=e.come:=by
  unfold ZaP
  split<;>exact Zgd ..
theorem ZiD (h:l+3 < θ.length) (hc:e.come.length≤64) (hl:e.early.length+s.data.length<200):ZaG [.ref l,s.d,.int now] (upE θ l e)=.ok .non (upE θ l (Zat e s now)):=by
  unfold Zat
  by_cases c:e.state=.opn∨e.state=.waitOne∨e.state=.waitTwo
  · rw [if_pos c]
    have k1:=Zlx (e:=e) (s:=s) h (by omega)
    have k2:=Zmx (e:=ZaP e s) (s:=s) h
    have k3:=Zho (e:=Zb2 (ZaP e s) s) h (by rw [ZjL,ZiG]; exact hc) (by rw [ZiF]; have:=ZjM e s; omega)
    have k4:Zgi (Zb2 (ZaP e s) s)=ZbV e s:=rfl
    rw [k4] at k3
    obtain ⟨e3,he3⟩:∃q,q=ZbV e s:=⟨_,rfl⟩
    rw [←he3] at k3 ⊢
    have c':e.state∈[State.opn,.waitOne,.waitTwo]:=by simpa using c
    by_cases c2:e3.early_fin=some e3.rcv
    · simp [ZaG,ZbI,Zbd,h,c,k1,k2,k3,Zb9,c2]
    · simp [ZaG,ZbI,Zbd,h,c,k1,k2,k3,Zb9,c2]
  · rw [if_neg c]
    simp [ZaG,ZbI,Zbd,h,c]
def Zae (e:Zw) (s:Seg) (now:Int):Zw:=
  if ZcX e s=false then ZdN e s now
  else if bears s 4=true then Zfk e s
  else if bears s 2=true then { e with owes_answer:=true }
  else if bears s 16=true then (if (z8 e s now).1=true then Zat (z8 e s now).2 s now else (z8 e s now).2)
  else e
theorem ZjR (e:Zw) (s:Seg) (now:Int):(z8 e s now).2.early=e.early:=by
  unfold z8
  split
  · unfold ZaE
    split
    · unfold Zbj; split<;>rfl
    · rfl
  · split
    · rfl
    · show (Za7 (zN e s now) now).early=e.early
      have h1:(Zcx e s now).early=e.early:=by
        unfold Zcx
        split
        · split<;>rfl
        · rfl
      have h2:(zN e s now).early=e.early:=by
        unfold zN
        simp only
        split
        · exact h1
        · split
          · split<;>exact h1
          · split<;>exact h1
      unfold Za7
      split
      · exact h2
      · split
        · exact h2
        · split
          · exact h2
          · split<;>exact h2
theorem Zl2 (e:Zw) (s:Seg) (now:Int):(z8 e s now).2.come=e.come:=by
  unfold z8
  split
  · unfold ZaE
    split
    · unfold Zbj; split<;>rfl
    · rfl
  · split
    · rfl
    · show (Za7 (zN e s now) now).come=e.come
      have h1:(Zcx e s now).come=e.come:=by
        unfold Zcx
        split
        · split<;>rfl
        · rfl
      have h2:(zN e s now).come=e.come:=by
        unfold zN
        simp only
        split
        · exact h1
        · split
          · split<;>exact h1
          · split<;>exact h1
      unfold Za7
      split
      · exact h2
      · split
        · exact h2
        · split
          · exact h2
          · split<;>exact h2
theorem Zgx (h:l+3 < θ.length) (hc:e.come.length≤64) (hl:e.early.length+s.data.length<200):zg [.ref l,s.d,.int now] (upE θ l e)=.ok .non (upE θ l (Zae e s now)):=by
  unfold Zae
  by_cases c1:ZcX e s=true
  · by_cases c2:bears s 4=true
    · simp [zg,zy,zk,zB,h,c1,c2]
    · by_cases c3:bears s 2=true
      · simp [zg,zy,zk,zB,zV,h,c1,c2,c3]
      · by_cases c4:bears s 16=true
        · have hs:=ZiD (e:=(z8 e s now).2) (s:=s) (now:=now) h (by rw [Zl2]; exact hc) (by rw [ZjR]; exact hl)
          by_cases c5:(z8 e s now).1=true
          · simp [zg,zy,zk,zB,zV,ZaB,h,c1,c2,c3,c4,c5,hs]
          · simp [zg,zy,zk,zB,zV,ZaB,h,c1,c2,c3,c4,c5]
        · simp [zg,zy,zk,zB,zV,ZaB,h,c1,c2,c3,c4]
  · simp [zg,zy,zk,h,c1]
theorem Zhp (h:l+3 < θ.length) (hc:e.come.length≤64) {r:List Int} (hb:Byt r) (hr:Zas r=true) (hf:ZeN e (Zby r)=true) (hl:e.early.length+(Zby r).data.length<200) (h1:¬e.state=.closed) (h2:¬e.state=.listen) (h3:¬e.state=.synSent):z6 [.ref l,il r,.int now] (upE θ l e)=.ok (.bl true) (upE θ l (Zae e (Zby r) now)):=by
  simp [z6,Zdq,Zce,Zcd,Zcc,Zc1,Zeo,Zc7 hb,hr,Zm9 hb hr,h,hf,h1,h2,h3,Zgx h hc hl]
def ZbQ (e:Zw) (s:Seg) (now:Int):Zw:=
  match e.state with
  | .closed=>Zbj e s
  | .listen=>Zbm e s
  | .synSent=>Zad e s now
  | _=>Zae e s now
theorem ZcZ (h:l+3 < θ.length) (hc:e.come.length≤64) (hs:s.Ok) (hf:ZeN e s=true) (hl:e.early.length<150):z6 [.ref l,il (putL s),.int now] (upE θ l e)=.ok (.bl true) (upE θ l (ZbQ e s now)):=by
  have hb:=Znl hs.put
  have hr:=ZiT hs
  have hg:=ZnL hs
  have hd:s.data.length≤16:=hs.data.2
  unfold ZbQ
  cases c:e.state
  · simp only
    rw [Zhr h hb hr (by rw [hg]; exact hf) c,hg]
  · simp only
    rw [Zhq h hb hr (by rw [hg]; exact hf) c,hg]
  · simp only
    rw [Zgy h hb hr (by rw [hg]; exact hf) c,hg]
  all_goals
    simp only
    rw [Zhp h hc hb hr (by rw [hg]; exact hf) (by rw [hg]; omega) (by rw [c]; decide) (by rw [c]; decide) (by rw [c]; decide),hg]
def ZeT (e:Zw):Bool:=!e.has_closed && decide (e.state∈[State.synSent,.synCome,.opn,.closeWait])
def ZiJ (e:Zw) (r:List Int):List Int:=Zbg r none (some (64-(e.written.length:Int)))
def Zju (e:Zw) (r:List Int):Zw:=if ZeT e=true then { e with written:=e.written++ZiJ e r,behind:=Zv e.behind (ZiJ e r).length } else e
theorem Zr8 (h:l+3 < θ.length) (hc:e.written.length≤64) (r:List Int):Zd7 [.ref l,il r] (upE θ l e)=.ok (.int (if ZeT e=true then (ZiJ e r).length else 0)) (upE θ l (Zju e r)):=by
  have hw:ZiJ e r=Zbg r none (some (64-(e.written.length:Int))):=rfl
  unfold Zju ZeT
  by_cases c:e.has_closed=true
  · simp [Zd7,Zfm,ZdA,h,c]
  · by_cases c2:e.state∈[State.synSent,.synCome,.opn,.closeWait]
    · have c2':e.state=State.synSent∨e.state=State.synCome∨e.state=State.opn∨e.state=State.closeWait:=by simpa using c2
      simp [Zd7,Zfm,ZdA,h,c,c2',←hw,Zui h hc]
    · have c2':¬(e.state=State.synSent∨e.state=State.synCome∨e.state=State.opn∨e.state=State.closeWait):=by simpa using c2
      simp [Zd7,Zfm,ZdA,h,c,c2']
def Zqx (e:Zw) (n:Int):Zw:=
  if ZR e=0∧0<ZR { e with come:=e.come.drop n.toNat }∧e.state∈[State.opn,.waitOne,.waitTwo] then { e with come:=e.come.drop n.toNat,owes_answer:=true } else { e with come:=e.come.drop n.toNat }
theorem Zue (h:l+3 < θ.length):ZeH [.ref l,.int n] (upE θ l e)=.ok (il (e.come.take n.toNat)) (upE θ l (Zqx e n)):=by
  have tk:=Zr9 (θ:=θ) (l:=l) (e:=e) (n:=n) h
  obtain ⟨e1,he1⟩:∃q:Zw,q={ e with come:=e.come.drop n.toNat }:=⟨_,rfl⟩
  obtain ⟨k1,hk1⟩:∃q,q=il (e.come.take n.toNat):=⟨_,rfl⟩
  have s1:e.state=e1.state:=by rw [he1]
  unfold Zqx
  have e2:({ e with come:=e.come.drop n.toNat,owes_answer:=true }:Zw)={ e1 with owes_answer:=true }:=by rw [he1]
  rw [e2,←he1,←hk1,s1]
  rw [←he1,←hk1] at tk
  by_cases c1:ZR e=0
  · by_cases c2:0<ZR e1
    · by_cases c3:e1.state∈[State.opn,.waitOne,.waitTwo]
      · have c3':e1.state=State.opn∨e1.state=State.waitOne∨e1.state=State.waitTwo:=by simpa using c3
        simp [ZeH,ZeW,Zdl,h,tk,c1,c2,c3']
      · have c3':¬(e1.state=State.opn∨e1.state=State.waitOne∨e1.state=State.waitTwo):=by simpa using c3
        simp [ZeH,ZeW,Zdl,h,tk,c1,c2,c3']
    · simp [ZeH,ZeW,Zdl,h,tk,c1,c2]
  · simp [ZeH,ZeW,Zdl,h,tk,c1]
end
end
end My
namespace My
open PySem L2 L2.MM
noncomputable section
theorem Zq0 {n k:Int} (h : -2147483648≤k∧k<2147483648):ZY (Zv n k) n=k:=by
  unfold ZY Zv; omega
theorem Zcn {n j k:Int} (h : -2147483648≤j-k∧j-k<2147483648):ZY (Zv n j) (Zv n k)=j-k:=by
  unfold ZY Zv; omega
@[simp] theorem ZhR (n:Int):ZY n n=0:=by
  unfold ZY; omega
@[simp] theorem ZgD (n:Int):ZaY n n=false:=by simp [ZaY]
theorem ZaK (n j k:Int):Zv (Zv n j) k=Zv n (j+k):=by
  unfold Zv; omega
theorem ZaJ (n k:Int):0≤Zv n k∧Zv n k≤4294967295:=by
  unfold Zv; omega
theorem Zof {n:Int} (h:0≤n∧n≤4294967295):Zv n 0=n:=by
  unfold Zv; omega
theorem ZsH {n k:Int} (h:0<k∧k<4294967296):¬Zv n k=n:=by
  unfold Zv; omega
theorem ZdS {n j k:Int} (h:0≤j∧0≤k∧j<4294967296∧k<4294967296):Zv n j=Zv n k↔j=k:=by
  unfold Zv; omega
def ZeD (num:Int):Nat→List Int→EL
  | _,[]=>[]
  | k,b::r=>(Zv num k,b)::ZeD num (k+1) r
theorem Zd3 (p:Int×Int) (m:EL) (n:Int):atE (p::m) n=if p.1=n then some p.2 else atE m n:=by
  unfold atE
  by_cases h:p.1=n<;>simp [h]
theorem Ztq (m m':EL) (n:Int) (h:atE m n=none):atE (m++m') n=atE m' n:=by
  induction m with
  | nil=>rfl
  | cons p r ih=>
    rw [Zd3] at h
    rw [List.cons_append,Zd3]
    by_cases e:p.1=n
    · rw [if_pos e] at h; cases h
    · rw [if_neg e] at h ⊢
      exact ih h
theorem Zn1 (num:Int):∀(r:List Int) (k j:Nat),j<k→k+r.length<4294967296→atE (ZeD num k r) (Zv num j)=none
  | [],k,j,_,_=>rfl
  | b::r,k,j,h,hl=>by
    have hl':k+r.length+1<4294967296:=by simpa [Nat.add_assoc] using hl
    rw [ZeD,Zd3,if_neg (by rw [ZdS (by omega)]; omega)]
    exact Zn1 num r (k+1) j (by omega) (by omega)
theorem ZmW (m:EL) (n:Int) (h:atE m n=none):Zdy m n=m:=by
  induction m with
  | nil=>rfl
  | cons p r ih=>
    rw [Zd3] at h
    by_cases e:p.1=n
    · rw [if_pos e] at h; cases h
    · rw [if_neg e] at h
      unfold Zdy at *
      rw [List.filter_cons_of_pos (by simp [e]),ih h]
theorem ZoA (num b:Int) (r:List Int) (k:Nat) (hl:k+1+r.length<4294967296):Zdy ((Zv num k,b)::ZeD num (k+1) r) (Zv num k)=ZeD num (k+1) r:=by
  have:=ZmW (ZeD num (k+1) r) (Zv num k) (Zn1 num r (k+1) k (by omega) hl)
  unfold Zdy at *
  rw [List.filter_cons_of_neg (by simp),this]
theorem Zh8 (num:Int):∀(r:List Int) (k:Nat) (e:Zw),k+r.length<4294967296→(∀i:Nat,k≤i→i<k+r.length→inWin e (Zv num i)=true∧atE e.early (Zv num i)=none)→Zbc e num k r={ e with early:=e.early++ZeD num k r }
  | [],k,e,_,_=>by simp [Zbc,ZeD]
  | b::r,k,e,hl,h=>by
    have hl':k+r.length+1<4294967296:=by simpa [Nat.add_assoc] using hl
    obtain ⟨h1,h2⟩:=h k (Nat.le_refl _) (by simp)
    unfold Zbc
    rw [if_pos h1]
    have h3:Zg3 e.early (Zv num k) b=e.early++[(Zv num k,b)]:=by unfold Zg3; rw [h2]
    rw [h3,Zh8 num r (k+1) _ (by omega)]
    · simp [ZeD]
    · intro i hi hj
      obtain ⟨g1,g2⟩:=h i (by omega) (by simp; omega)
      refine ⟨g1,?_⟩
      show atE (e.early++[(Zv num k,b)]) (Zv num i)=none
      rw [Ztq _ _ _ g2,Zd3,if_neg (by rw [ZdS (by omega)]; omega)]
      rfl
theorem Zmb (num:Int):∀(r:List Int) (k n:Nat) (e:Zw),k+r.length<4294967296→r.length<n→e.rcv=Zv num k→e.early=ZeD num k r→(∀i:Nat,k≤i→i<k+r.length→¬e.early_fin=some (Zv num i))→drawn n e=(r,{ e with early:=[],rcv:=Zv num (k+r.length:Nat) })
  | [],k,0,e,_,hn,_,_,_=>by simp at hn
  | [],k,n+1,e,_,_,h1,h2,_=>by
    unfold drawn
    have:atE e.early e.rcv=none:=by rw [h2]; rfl
    have he:e={ e with early:=[],rcv:=Zv num k }:=by
      obtain ⟨_⟩:=e
      simp only [ZeD] at h1 h2
      subst h1 h2
      rfl
    split
    · simpa using he
    · rw [this]
      simpa using he
  | b::r,k,0,e,_,hn,_,_,_=>by simp at hn
  | b::r,k,n+1,e,hl,hn,h1,h2,h3=>by
    have hl':k+r.length+1<4294967296:=by simpa [Nat.add_assoc] using hl
    have hn':r.length<n:=by simpa using hn
    unfold drawn
    rw [if_neg (by rw [h1]; exact h3 k (Nat.le_refl _) (by simp))]
    have:atE e.early e.rcv=some b:=by rw [h2,h1,ZeD,Zd3]; simp
    rw [this]
    simp only
    have g:=Zmb num r (k+1) n { e with early:=Zdy e.early e.rcv,rcv:=Zv e.rcv 1 } (by omega) hn' (by show Zv e.rcv 1=_; rw [h1,ZaK]; simp) (by show Zdy e.early e.rcv=_; rw [h2,h1,ZeD,ZoA _ _ _ _ (by omega)]) (fun i hi hj=>h3 i (by omega) (by simp; omega))
    rw [g]
    simp [Nat.add_assoc,Nat.add_comm 1]
theorem ZnQ {r:List Int} {k:Int} (h:(r.length:Int)≤k):Zbg r none (some k)=r:=by
  rw [Zeh r (by omega)]
  exact List.take_of_length_le (by omega)
theorem ZeC {e:Zw} {s:Seg} (hd:s.data.length≤16) (hn:s.num=e.rcv) (hr:0≤e.rcv∧e.rcv≤4294967295) (he:e.early=[]) (hf:e.early_fin=none) (hw:e.come.length+s.data.length+(if bears s 1=true then 1 else 0)≤64) :
    ZbV e s={ e with come:=e.come++s.data,rcv:=Zv e.rcv s.data.length,owes_answer:=e.owes_answer || decide (0<s.data.length) || bears s 1,early_fin:=if bears s 1=true then some (Zv e.rcv s.data.length) else none }:=by
  have w:∀i:Nat,i<s.data.length∨(i=s.data.length∧bears s 1=true)→inWin e (Zv e.rcv i)=true:=by
    intro i hi
    unfold inWin ZR
    rw [Zq0 (by omega)]
    have:(i:Int)<64-e.come.length:=by
      rcases hi with hi | ⟨rfl,hi⟩
      · omega
      · rw [if_pos hi] at hw; omega
    simp; omega
  have k1:Zbc e s.num 0 s.data={ e with early:=ZeD e.rcv 0 s.data }:=by
    rw [hn,Zh8 e.rcv s.data 0 e (by omega) (fun i _ hi=>⟨w i (.inl (by omega)),by rw [he]; rfl⟩),he]
    rfl
  have k2:ZaP e s={ e with early:=ZeD e.rcv 0 s.data,owes_answer:=e.owes_answer || decide (0<s.data.length) }:=by
    unfold ZaP
    rw [k1]
    by_cases c:0<s.data.length
    · rw [if_pos c]; simp [c]
    · rw [if_neg c]; simp [c]
  obtain ⟨oa,hoa⟩:∃x,x=(e.owes_answer || decide (0<s.data.length)):=⟨_,rfl⟩
  rw [←hoa] at k2 ⊢
  have k3:Zb2 (ZaP e s) s={ e with early:=ZeD e.rcv 0 s.data,owes_answer:=oa || bears s 1,early_fin:=if bears s 1=true then some (Zv e.rcv s.data.length) else none }:=by
    rw [k2]
    unfold Zb2
    by_cases c:bears s 1=true
    · have iw:inWin ({ e with early:=ZeD e.rcv 0 s.data,owes_answer:=oa }) (Zv s.num s.data.length)=true:=by
        rw [hn]; exact w _ (.inr ⟨rfl,c⟩)
      rw [if_neg (by simp [c]),if_pos ⟨hf,iw⟩,hn]
      simp [c]
    · rw [if_pos (by simpa using c)]
      simp [c,hf]
  unfold ZbV Zgi
  rw [k3]
  obtain ⟨bf,hbf⟩:∃x,x=bears s 1:=⟨_,rfl⟩
  rw [←hbf]
  rw [Zmb e.rcv s.data 0 200 _ (by omega) (by omega) (by simpa using (Zof hr).symm) rfl (by
    intro i _ hi
    simp only
    cases bf
    · simp
    · simp only [if_true,Option.some.injEq]
      rw [ZdS (by omega)]
      omega)]
  unfold ZhA
  simp only
  rw [ZnQ (by unfold ZR; simp only; split at hw<;>omega)]
  simp [he]
end
end My
namespace My
open PySem L2 L2.MM
noncomputable section
@[simp] theorem ZBR {f:Int} (h0:0≤f) (h1:f≤31):bit f 1=f % 2:=(ZrR ⟨h0,h1⟩).1
@[simp] theorem Zxn {f:Int} (h0:0≤f) (h1:f≤31):bit f 2=f/2 % 2:=(ZrR ⟨h0,h1⟩).2.1
@[simp] theorem ZBQ {f:Int} (h0:0≤f) (h1:f≤31):bit f 4=f/4 % 2:=(ZrR ⟨h0,h1⟩).2.2.1
@[simp] theorem ZA9 {f:Int} (h0:0≤f) (h1:f≤31):bit f 16=f/16 % 2:=(ZrR ⟨h0,h1⟩).2.2.2.2
@[simp] theorem Zxo {a b c d f w m k:Int} {x:List Int}:bears ⟨a,b,c,d,f,w,m,x⟩ k=decide (bit f k=1):=rfl
@[simp] theorem ZxO {a b c d f w m:Int} {x:List Int}:Zht ⟨a,b,c,d,f,w,m,x⟩=x.length+bit f 2+bit f 1:=rfl
def Zqw:Option Seg→List Int
  | none=>[]
  | some s=>putL s
@[simp] theorem ZuE:Zqw none=[]:=rfl
@[simp] theorem ZuD (s:Seg):Zqw (some s)=putL s:=rfl
theorem Znh {base:Sto} {l:Nat} {e:Zw} {t:Int} {r:Option Seg} {e':Zw} (hl:l+3<base.length) (g:Zau e t=(r,e')) (hp:∀s,r=some s→s.Put):ZcL [.ref l,.int t] (upE base l e)=.ok (il (Zqw r)) (upE base l e'):=by
  rw [Zud hl (by rw [g]; exact hp),g]
  unfold Zjz
  rw [g]
  cases r<;>rfl
theorem Zoc {base:Sto} {l:Nat} {e:Zw} {t:Int} {e':Zw} (hl:l+3<base.length) (g:Zau e t=(none,e')):ZcL [.ref l,.int t] (upE base l e)=.ok (il []) (upE base l e'):=Znh hl g (fun s h=>by cases h)
theorem ZiR {base:Sto} {l:Nat} {e:Zw} {t:Int} {e':Zw} {s:Seg} (hl:l+3<base.length) (g:Zau e t=(some s,e')) (hp:s.Ok):ZcL [.ref l,.int t] (upE base l e)=.ok (il (putL s)) (upE base l e'):=Znh hl g (fun s h=>by cases h; exact hp.put)
theorem ZuH (s:Seg):putL s≠[]:=fun z=>by
  have:=Znk (s:=s)
  rw [z] at this
  simp at this
  split at this<;>omega
def synE (a b f g W m:Int):Zw:={ newEnd a b f false with state:=.synCome,rcv:=Zv g 1,wnd:=W,told:=g,told_by:=0,most:=if m=0 then 12 else m }
def Zdt (a b f g W m t:Int):Zw:={ synE a b f g W m with nxt:=Zv f 1,since:=t }
def Zdw (a b f g W m t:Int):Zw:={ newEnd a b f false with state:=.opn,una:=Zv f 1,nxt:=Zv f 1,rcv:=Zv g 1,wnd:=W,told:=Zv g 1,told_by:=Zv f 1,most:=if m=0 then 12 else m,since:=t }
section
variable {a b f g W m t t' x:Int} {ex:List Int} {fl:Int}
theorem ZwQ (hf:fl=2∨fl=3):ZbQ (newEnd a x f false) ⟨b,a,g,0,fl,W,m,ex⟩ t=synE a b f g W m:=by
  rcases hf with rfl | rfl<;>simp [ZbQ,newEnd,Zbm,hearSyn,synE]
theorem ZwP:Zau (synE a b f g W m) t=(some ⟨a,b,f,Zv g 1,18,64,16,[]⟩,Zdt a b f g W m t):=by
  simp [Zau,Zb4,zv,ZfG,newEnd,ZfX,zh,synE,Zdt]
theorem ZwO:ZbQ (Zdt a b f g W m t) ⟨b,a,Zv g 1,Zv f 1,16,W,0,[]⟩ t'=Zdw a b f g W m t:=by
  have h2:¬Zv f 1=f:=ZsH (by omega)
  have ft:ZcX (Zdt a b f g W m t) ⟨b,a,Zv g 1,Zv f 1,16,W,0,[]⟩=true:=by
    simp [ZcX,Zdt,synE,newEnd]
  have go:z8 (Zdt a b f g W m t) ⟨b,a,Zv g 1,Zv f 1,16,W,0,[]⟩ t'=(true,Zdw a b f g W m t):=by
    simp [z8,ZaE,Zdt,synE,newEnd,h2,Zds,Zdw]
  have st:ZbV (Zdw a b f g W m t) ⟨b,a,Zv g 1,Zv f 1,16,W,0,[]⟩=Zdw a b f g W m t:=by
    rw [ZeC (by simp) rfl (ZaJ _ _) rfl rfl (by simp [Zdw,newEnd])]
    simp [Zdw,newEnd,ZaK]
  have hs:Zat (Zdw a b f g W m t) ⟨b,a,Zv g 1,Zv f 1,16,W,0,[]⟩ t'=Zdw a b f g W m t:=by
    unfold Zat
    rw [st]
    simp [Zdw,newEnd]
  have:ZbQ (Zdt a b f g W m t) ⟨b,a,Zv g 1,Zv f 1,16,W,0,[]⟩ t'=Zae (Zdt a b f g W m t) ⟨b,a,Zv g 1,Zv f 1,16,W,0,[]⟩ t':=rfl
  rw [this]
  unfold Zae
  rw [ft,go,hs]
  simp
end
section
variable {θ:Sto} {l:Nat} {e:Zw} {s:Seg} {now n:Int}
theorem Zmh (θ:Sto) (e e':Zw):upE (θ++cells θ.length e) θ.length e'=θ++cells θ.length e':=by
  have h0:∀(i:Nat) (c:Cell) (r:Sto),(θ++r).set (θ.length+i) c=θ++r.set i c:=by
    intro i c r
    rw [List.set_append_right _ _ (by omega)]
    congr 2
    omega
  have h1:∀(c:Cell) (r:Sto),(θ++r).set θ.length c=θ++r.set 0 c:=fun c r=>h0 0 c r
  unfold upE cells
  rw [h1,h0,h0,h0]
  rfl
theorem ZhL {a b n k f w:Int} {x:List Int} (θ:Sto):Zc6 [.tup [.int a,.int b],.int n,.int k,.int f,.int w,il x] θ=.ok (Seg.mk b a n k f w 0 x).d θ:=by
  simp [Zc6,Zhg,ZtL]
theorem ZgY {a b n k f w m:Int} {x:List Int} (ha:0≤a∧a≤65535) (hb:0≤b∧b≤65535) (hn:0≤n∧n≤4294967295) (hk:0≤k∧k≤4294967295) (hf:0≤f∧f≤31) (hw:0≤w∧w≤65535) (hm:m=0∨(4≤m∧m≤65535∧f/2 % 2=1)) (hx:(∀z∈x,0≤z∧z≤255)∧x.length≤16):(Seg.mk a b n k f w m x).Ok:=⟨ha,hb,hn,hk,hf,hw,hm,hx⟩
theorem Zff:(∀z∈([]:List Int),0≤z∧z≤255)∧([]:List Int).length≤16:=⟨by simp,by simp⟩
theorem Zl6 {n:Int} (h:0≤n∧n≤4294967295):0≤Zbs n∧Zbs n≤4294967295:=by
  unfold Zbs
  split<;>omega
theorem Zn5 {ns:List Int} {base W m:Int} (θ:Sto) (hW:0≤W∧W≤65535) (hm:m=0∨(4≤m∧m≤65535)) :
    ZdV [.scr ns,.int base,.int W,.int m] θ=.ok (.tup [.ref θ.length,.tup [.int (mix ns base % 65536),.int (mix ns (base+1) % 65536)],.int (Zv (Zbs (mix ns (base+2))) 1),.int (Zv (Zbs (mix ns (base+3))) 1)])
      (θ++cells θ.length (Zdw (mix ns base % 65536) (mix ns (base+1) % 65536) (Zbs (mix ns (base+2))) (Zbs (mix ns (base+3))) W m 0)):=by
  obtain ⟨a,ha⟩:∃x,x=mix ns base % 65536:=⟨_,rfl⟩
  obtain ⟨b,hb⟩:∃x,x=mix ns (base+1) % 65536:=⟨_,rfl⟩
  obtain ⟨f,hf⟩:∃x,x=Zbs (mix ns (base+2)):=⟨_,rfl⟩
  obtain ⟨g,hg⟩:∃x,x=Zbs (mix ns (base+3)):=⟨_,rfl⟩
  have ra:0≤a∧a≤65535:=by omega
  have rb:0≤b∧b≤65535:=by omega
  have rf:0≤f∧f≤4294967295:=by rw [hf]; exact Zl6 (by have:=Zrc ns (base+2); omega)
  have rg:0≤g∧g≤4294967295:=by rw [hg]; exact Zl6 (by have:=Zrc ns (base+3); omega)
  rw [←ha,←hb,←hf,←hg]
  have k1:(Seg.mk b a g 0 2 W m []).Ok:=ZgY rb ra rg (by omega) (by omega) hW (hm.imp id fun h=>⟨h.1,h.2,by decide⟩) Zff
  have k2:(Seg.mk a b f (Zv g 1) 18 64 16 []).Ok:=ZgY ra rb rf (ZaJ _ _) (by omega) (by omega) (.inr (by decide)) Zff
  have k3:(Seg.mk b a (Zv g 1) (Zv f 1) 16 W 0 []).Ok:=ZgY rb ra (ZaJ _ _) (ZaJ _ _) (by omega) hW (.inl rfl) Zff
  have hl:θ.length+3<(θ++cells θ.length (newEnd a 7 f false)).length:=by simp [cells]
  have q1:=Zqn (a:=a) (b:=7) (c:=f) (act:=false) θ
  have q2:=ZcZ (e:=newEnd a 7 f false) (now:=0) hl (by simp [newEnd]) k1 (by simp [ZeN,newEnd]) (by simp [newEnd])
  have q3:=ZiR hl (ZwP (a:=a) (b:=b) (f:=f) (g:=g) (W:=W) (m:=m) (t:=0)) k2
  have q4:=ZcZ (e:=Zdt a b f g W m 0) (now:=0) hl (by simp [Zdt,synE,newEnd]) k3 (by simp [ZeN,newEnd,Zdt,synE]) (by simp [newEnd,Zdt,synE])
  rw [ZwQ (.inl rfl)] at q2
  rw [ZwO] at q4
  rw [Zmh,Zmh] at q2 q3 q4
  have b1:=fun θ=>ZfR k1 θ
  have b3:=fun θ=>ZfR k3 θ
  obtain ⟨e1,he1⟩:∃x,x=newEnd a 7 f false:=⟨_,rfl⟩
  obtain ⟨e2,he2⟩:∃x,x=synE a b f g W m:=⟨_,rfl⟩
  obtain ⟨e3,he3⟩:∃x,x=Zdt a b f g W m 0:=⟨_,rfl⟩
  obtain ⟨e4,he4⟩:∃x,x=Zdw a b f g W m 0:=⟨_,rfl⟩
  rw [←he1] at q1 q2
  rw [←he2] at q2 q3
  rw [←he3] at q3 q4
  rw [←he4] at q4 ⊢
  simp [ZdV,Ziw,←ha,←hb,←hf,←hg,ZjA,b1,b3,q1,q2,q3,q4]
end
end
end My
namespace My
open PySem L2 L2.MM
noncomputable section
theorem ZsV (x y z:Int) (θ:Sto):ZbX (.int x) (.tup [.int y,.int z]) θ=.ok (.bl (!decide (x=y∨x=z))) θ:=by
  have e:inD θ (.int x) (.tup [.int y,.int z])=some (decide (y=x) || (decide (z=x) || false)):=rfl
  have e2:(decide (y=x) || (decide (z=x) || false))=decide (x=y∨x=z):=by
    rw [Bool.eq_iff_iff]
    simp only [Bool.or_eq_true,decide_eq_true_eq,Bool.false_eq_true,or_false]
    constructor
    · rintro (h | h)
      · exact .inl h.symm
      · exact .inr h.symm
    · rintro (h | h)
      · exact .inl h.symm
      · exact .inr h.symm
  unfold ZbX
  rw [e,e2]
theorem Zse {z:Int} (h:0≤z∧z≤255) (θ:Sto):ZgL [.int z] θ=.ok (.bl true) θ:=by
  have h1:Zfw [.int z,.ty "int"] θ=.ok (.bl true) θ:=rfl
  have h2:Zfw [.int z,.ty "bool"] θ=.ok (.bl false) θ:=rfl
  simp [ZgL,Zms,h1,h2,h.1,h.2]
theorem Ztk {α:Type} (xs:List α):ZjZ (xs.map fun _=>D.bl true)=some (List.replicate xs.length true):=by
  induction xs with
  | nil=>rfl
  | cons x xs ih=>rw [List.map_cons,ZjZ,ih]; rfl
theorem ZrU (n:Nat):(List.replicate n true).all id=true:=by
  induction n with
  | zero=>rfl
  | succ n ih=>rw [List.replicate_succ,List.all_cons,ih]; rfl
theorem Zsd {a:List Int} (h:Byt a) (hr:Zas a=true) (θ:Sto):ZgJ [il a] θ=.ok (Zby a).d θ:=by
  obtain ⟨l1,l2,l3,l4⟩:=Zg6 hr
  have hr':=hr
  unfold Zas at hr'
  simp only [Bool.and_eq_true,decide_eq_true_eq,Bool.or_eq_true] at hr'
  obtain ⟨r1,r2,r3,r4,r5,r6,r7⟩:=hr'
  have gg:∀i:Nat,i<a.length→0≤gt a i∧gt a i≤255:=fun i hi=>by
    unfold gt
    have:=h.1 a[i] (List.getElem_mem hi)
    rw [List.getD_eq_getElem?_getD,List.getElem?_eq_getElem hi]
    exact this
  have b13:=gg 13 (by omega)
  have b18:=gg 18 (by omega)
  have b19:=gg 19 (by omega)
  have ix:∀i:Nat,i<a.length→ixM (il a) (.int (i:Int)) θ=.ok (.int (gt a i)) θ:=fun i hi=>Zcp (a:=a) (θ:=θ) (i:=(i:Int)) (by omega) (by omega)
  have i12:ixM (il a) (.int 12) θ=.ok (.int (gt a 12)) θ:=ix 12 (by omega)
  have i13:ixM (il a) (.int 13) θ=.ok (.int (gt a 13)) θ:=ix 13 (by omega)
  have i18:ixM (il a) (.int 18) θ=.ok (.int (gt a 18)) θ:=ix 18 (by omega)
  have i19:ixM (il a) (.int 19) θ=.ok (.int (gt a 19)) θ:=ix 19 (by omega)
  have z5:gt a 18+gt a 19=0:=by unfold at2 at r5; simp only [Nat.reduceAdd] at r5; omega
  have len20:¬(a.length:Int)<20:=by omega
  have R1:∀r,b_l_read_1 (.val (il a)::r) θ=.ok (.nx,.val (il a)::r) θ:=by
    intro r
    simp [b_l_read_1,isT,len20]
  have R2:∀r,b_l_read_2 (.val (il a)::r) θ=.ok (.nx,.val (il a)::r) θ:=by
    intro r
    have cp:=Zi4 (ρ:=.val (il a)::r) (θ:=θ) (fi:=mIn (Zd 0)) (src:=[]) (elt:=mCB ZgL (Zc (Zd 0) Zk)) (d:=il a) (xs:=a.map D.int) (θ':=θ) (fun _=>.bl true) (by simp) rfl (by have:=h.2; simp [BIG]; omega) (by
      intro x hx
      obtain ⟨z,hz,rfl⟩:=List.mem_map.mp hx
      simp [Zse (h.1 z hz)])
    have al:ZrV [D.lst ((a.map D.int).map fun _=>D.bl true)] θ=.ok (.bl true) θ:=by
      rw [Zv8,Ztk]
      simp only [ZrU]
    obtain ⟨q,hq⟩:∃x,x=D.lst ((a.map D.int).map fun _=>D.bl true):=⟨_,rfl⟩
    rw [←hq] at cp al
    simp [b_l_read_2,cp,al]
  have hb:Zbl a=gt a 12/4:=by unfold Zbl; rcases r2 with e | e<;>rw [e]<;>rfl
  have q4:gt a 12/4≤a.length∧(a.length:Int)≤gt a 12/4+16:=by rw [←hb]; omega
  have R3:∀r,b_l_read_3 (.val (il a)::r) θ=.ok (.nx,.val (il a)::r) θ:=by
    intro r
    simp [b_l_read_3,i12,i13,i18,i19,ZsV,r2,z5,show ¬(31:Int)<gt a 13 by omega]
  have fo:=ZiL h θ
  rw [r7] at fo
  have R4:∀r,b_l_read_4 (.val (il a)::.val (.int (gt a 12/4))::r) θ=.ok (.nx,.val (il a)::.val (.int (gt a 12/4))::r) θ:=by
    intro r
    simp [b_l_read_4,fo,q4.1,q4.2]
  obtain ⟨hd,hhd⟩:∃x,x=gt a 12/4:=⟨_,rfl⟩
  rw [←hhd] at R4 hb q4
  have R6:∀x y,b_l_read_6 [.val (il a),.val (.int hd),.val (.int 0),x,y] θ=.ok (.nx,[.val (il a),.val (.int hd),.val (.int (if Zbl a=24 then at2 a 22 else 0)),x,y]) θ:=by
    intro x y
    by_cases c:hd=24
    · have lo:=(l2.resolve_left (by rw [hb,c]; decide)).2
      have i20:gt a 20=2∧gt a 21=4∧gt a 13/2 % 2=1∧4≤at2 a 22:=by
        have:=lo.2
        unfold longOk at this
        simp only [Bool.and_eq_true,decide_eq_true_eq] at this
        obtain ⟨t1,t2,t3,t4⟩:=this
        rw [Zxn (by omega) (by omega)] at t1
        exact ⟨t2,t3,t1,t4⟩
      obtain ⟨e20,e21,e13,e22⟩:=i20
      have i22:ixM (il a) (.int 22) θ=.ok (.int (gt a 22)) θ:=ix 22 (by omega)
      have i23:ixM (il a) (.int 23) θ=.ok (.int (gt a 23)) θ:=ix 23 (by omega)
      have cu:Zbg a (some 20) (some 22)=[2,4]:=by
        have:Zbg a (some 20) (some 22)=[gt a 20,gt a 21]:=by
          rw [ZnO _ (by decide) (by decide),show (20:Int).toNat=20 from rfl,show (22:Int).toNat-20=2 from rfl,List.drop_eq_getElem_cons (show 20<a.length by omega),List.drop_eq_getElem_cons (show 21<a.length by omega)]
          rw [List.take_succ_cons,List.take_succ_cons,List.take_zero]
          unfold gt
          rw [List.getD_eq_getElem?_getD,List.getD_eq_getElem?_getD,List.getElem?_eq_getElem (show 20<a.length by omega),List.getElem?_eq_getElem (show 21<a.length by omega)]
          rfl
        rw [this,e20,e21]
      have m22:gt a 22*256+gt a 23=at2 a 22:=by unfold at2; simp only [Nat.reduceAdd]; omega
      have mb:Zfb (gt a 22) 256:=.inr (by omega)
      rw [hb,if_pos c]
      simp [b_l_read_6,Ziv,c,i22,i23,i13,e13,cu,m22,mb,show ¬at2 a 22<4 by omega]
    · rw [hb,if_neg c]
      simp [b_l_read_6,c]
  have cp:=fun y z=>Zi5 (ρ:=[.val (il a),.val (.int hd),.val (.int (if Zbl a=24 then at2 a 22 else 0)),y,z]) (θ:=θ) (fi:=ZcW (Zc (mC (.int 8)) Zk)) (src:=[0])
    (elt:=mOp Z0 (mOp ZbY (mC (.int 256)) (mOp ixM (Zd 1) (mOp ZbY (mC (.int 2)) (Zd 0)))) (mOp ixM (Zd 1) (mOp Z0 (mOp ZbY (mC (.int 2)) (Zd 0)) (mC (.int 1))))) (lo:=0) (n:=8) (θ':=θ) (fun k=>.int (256*gt a (2*k).toNat+gt a (2*k+1).toNat))
    (by simp) (by simp [BIG]) (by
      intro i hi
      have j1:=Zcp (a:=a) (θ:=θ) (i:=2*(i:Int)) (by omega) (by omega)
      have j2:=Zcp (a:=a) (θ:=θ) (i:=2*(i:Int)+1) (by omega) (by omega)
      simp [Zfb,j1,j2])
  have wl:(List.range 8).map (fun (i:Nat)=>D.int (256*gt a (2*((0:Int)+(i:Int))).toNat+gt a (2*((0:Int)+(i:Int))+1).toNat))=[.int (at2 a 0),.int (at2 a 2),.int (at2 a 4),.int (at2 a 6),.int (at2 a 8),.int (at2 a 10),.int (at2 a 12),.int (at2 a 14)]:=rfl
  have dr:Zbg a (some hd) none=a.drop hd.toNat:=Zb6 a (by omega)
  have c4:at2 a 4*65536+at2 a 6=at4 a 4:=by unfold at4; simp only [Nat.reduceAdd]; omega
  have c8:at2 a 8*65536+at2 a 10=at4 a 8:=by unfold at4; simp only [Nat.reduceAdd]; omega
  obtain ⟨most,hmo⟩:∃x,x=if Zbl a=24 then at2 a 22 else 0:=⟨_,rfl⟩
  rw [←hmo] at R6 cp
  unfold Zby
  rw [←hmo,hb]
  obtain ⟨W,hW⟩:∃x,x=(List.range 8).map (fun (i:Nat)=>D.int (256*gt a (2*((0:Int)+(i:Int))).toNat+gt a (2*((0:Int)+(i:Int))+1).toNat)):=⟨_,rfl⟩
  rw [←hW] at wl
  simp only [←hW] at cp
  have w0:ixM (.lst W) (.int 0) θ=.ok (.int (at2 a 0)) θ:=by rw [wl]; rfl
  have w1:ixM (.lst W) (.int 1) θ=.ok (.int (at2 a 2)) θ:=by rw [wl]; rfl
  have w2:ixM (.lst W) (.int 2) θ=.ok (.int (at2 a 4)) θ:=by rw [wl]; rfl
  have w3:ixM (.lst W) (.int 3) θ=.ok (.int (at2 a 6)) θ:=by rw [wl]; rfl
  have w4:ixM (.lst W) (.int 4) θ=.ok (.int (at2 a 8)) θ:=by rw [wl]; rfl
  have w5:ixM (.lst W) (.int 5) θ=.ok (.int (at2 a 10)) θ:=by rw [wl]; rfl
  have w7:ixM (.lst W) (.int 7) θ=.ok (.int (at2 a 14)) θ:=by rw [wl]; rfl
  obtain ⟨wd,hwd⟩:∃x,x=D.lst W:=⟨_,rfl⟩
  rw [←hwd] at w0 w1 w2 w3 w4 w5 w7
  simp only [←hwd] at cp
  have mb:∀x:Int,Zfb x 65536:=fun x=>.inr (by omega)
  simp [ZgJ,Zmq,R1,R2,i12,R3,←hhd,R4,R6,cp,w0,w1,w2,w3,w4,w5,w7,mb,i13,dr,c4,c8,Seg.d]
end
end My
namespace My
open PySem L2 L2.MM
noncomputable section
inductive Gives (t:Int):Zw→List Seg→Zw→Prop
  | nil {e e':Zw} (h:Zau e t=(none,e')):Gives t e [] e'
  | cons {e e1 e':Zw} {s:Seg} {r:List Seg} (h:Zau e t=(some s,e1)) (hs:s.Ok) (hr:Gives t e1 r e'):Gives t e (s::r) e'
section
variable {θ:Sto} {l:Nat} {t:Int}
abbrev Zvh:SM:=Zs (ZX 4 (mCB ZcL (Zc (Zd 0) (Zc (Zd 1) Zk)))) (Zs ZdF (Zeg 2 (mCB ZgJ (Zc (Zd 4) Zk))))
theorem Zur (h:l+3 < θ.length) {e e':Zw} (g:Zau e t=(none,e')) (acc:List D) (x y:Sl):Zvh [.val (.ref l),.val (.int t),.own acc,x,y] (upE θ l e)=.ok (.rt (.lst acc),[.val (.ref l),.val (.int t),.val (.lst acc),x,.val (il [])]) (upE θ l e'):=by
  simp [Zoc h g,ZdF,Zb3]
theorem Zuq (h:l+3 < θ.length) {e e':Zw} {s:Seg} (g:Zau e t=(some s,e')) (hs:s.Ok) (acc:List D) (ha:acc.length<BIG) (x y:Sl):Zvh [.val (.ref l),.val (.int t),.own acc,x,y] (upE θ l e)=.ok (.nx,[.val (.ref l),.val (.int t),.own (acc++[s.d]),x,.val (il (putL s))]) (upE θ l e'):=by
  have lr:=Zsd (Znl hs.put) (ZiT hs) (upE θ l e')
  rw [ZnL hs] at lr
  simp [ZiR h g hs,ZdF,Zb3,ZuH,lr,ha]
theorem Zup (h:l+3 < θ.length) {e e':Zw} {segs:List Seg} (g:Gives t e segs e'):∀(xs:List D) (acc:List D) (x y:Sl),segs.length<xs.length→acc.length+segs.length<1000→
    ∃ρ,ZcP (.rng 0 40) ((List.range 40).map fun (i:Nat)=>D.int (0+(i:Int))) (gNm 3) Zvh xs [.val (.ref l),.val (.int t),.own acc,x,y] (upE θ l e)=.ok (.rt (.lst (acc++segs.map Seg.d)),ρ) (upE θ l e'):=by
  induction g with
  | nil g=>
    intro xs acc x y hx ha
    match xs,hx with
    | d::xs,_=>
      refine ⟨[.val (.ref l),.val (.int t),.val (.lst acc),.val d,.val (il [])],?_⟩
      simp only [ZcP,Zc2,if_true]
      have:gNm 3 d [.val (.ref l),.val (.int t),.own acc,x,y]=some [.val (.ref l),.val (.int t),.own acc,.val d,y]:=rfl
      rw [this]
      simp only
      rw [Zur h g]
      simp [Zfu,R.bind]
  | cons g hs _ ih=>
    intro xs acc x y hx ha
    match xs,hx with
    | d::xs,hx=>
      obtain ⟨ρ,q⟩:=ih xs (acc++[Seg.d _]) (.val d) (.val (il (putL _))) (by simpa using hx) (by simp at ha ⊢; omega)
      refine ⟨ρ,?_⟩
      simp only [ZcP,Zc2,if_true]
      have:gNm 3 d [.val (.ref l),.val (.int t),.own acc,x,y]=some [.val (.ref l),.val (.int t),.own acc,.val d,y]:=rfl
      rw [this]
      simp only
      rw [Zuq h g hs acc (by simp [BIG] at ha ⊢; omega)]
      simp only [R.bind,Zfu]
      rw [q]
      simp
theorem Zsh (h:l+3 < θ.length) {e e':Zw} {segs:List Seg} (g:Gives t e segs e') (hl:segs.length<40):Zgc [.ref l,.int t] (upE θ l e)=.ok (.lst (segs.map Seg.d)) (upE θ l e'):=by
  obtain ⟨ρ,q⟩:=Zup h g ((List.range 40).map fun (i:Nat)=>D.int (0+(i:Int))) [] .no .no (by simpa using hl) (by simp; omega)
  have q2:Ze7 [.val (.ref l),.val (.int t),.own [],.no,.no] (upE θ l e)=.ok (.rt (.lst (segs.map Seg.d)),ρ) (upE θ l e'):=by
    rw [List.nil_append] at q
    rw [←q]
    simp [Ze7,ZeA]
  simp [Zgc,Zjp,q2]
end
end
end My
namespace My
open PySem L2 L2.MM
noncomputable section
theorem Zmf {nE:EM} {src:List Nat} {elt:EM} {ρ:List Sl} {θ:Sto} {j:Int} (F:Nat→Int) (hn:nE ρ θ=.ok (.int j) θ) (h0:0≤j) (h1:j≤1000) (he:∀i:Nat,i<j.toNat→elt (ZeP src ρ (.int (i:Int))) θ=.ok (.int (F i)) θ) :
    mComp (ZcW (Zc nE Zk)) src elt ρ θ=.ok (il ((List.range j.toNat).map F)) θ:=by
  have:=Zi5 (ρ:=ρ) (θ:=θ) (fi:=ZcW (Zc nE Zk)) (src:=src) (elt:=elt) (lo:=0) (n:=j.toNat) (θ':=θ) (fun k=>.int (F k.toNat)) (by simp [hn]; omega) (by simp [BIG]; omega) (by
    intro i hi
    simpa using he i hi)
  rw [this]
  simp [il]
end
end My
namespace My
open PySem L2 L2.MM
noncomputable section
structure Q where
  st:State
  una:Int
  nxt:Int
  beh:Int
  rcv:Int
  told:Int
  by_:Int
  wnd:Int
  most:Int
  written:List Int
  come:List Int
  fin:Option Int
  cl:Bool
  oa:Bool
  pr:Bool
  since:Int
  wait:Int
  tries:Int
def qE (a b f g:Int) (q:Q):Zw:=⟨a,b,q.st,.none,f,Zv f q.una,Zv f q.nxt,Zv g q.rcv,q.wnd,Zv g q.told,Zv f q.by_,q.most,q.written,q.come,[],q.fin.map (Zv g ·),q.cl,Zv f q.beh,none,false,q.oa,q.pr,q.since,q.wait,q.tries⟩
def q0 (W m:Int) (t:Int):Q:=⟨.opn,1,1,1,1,1,1,W,if m=0 then 12 else m,[],[],none,false,false,false,t,1000,0⟩
theorem ZAG {n j k:Int} (h1 : -2147483648≤j-k) (h2:j-k<2147483648):ZY (Zv n j) (Zv n k)=j-k:=Zcn ⟨h1,h2⟩
theorem ZqX {n j k:Int} (h1 : -2147483648≤j-k) (h2:j-k<2147483648):ZaY (Zv n j) (Zv n k)=decide (0<j-k):=by
  unfold ZaY
  rw [ZAG h1 h2]
end
end My
namespace My
open PySem L2 L2.MM
noncomputable section
section
variable {e:Zw} {t:Int}
theorem Zow (h1:e.owed_reset=none) (h2:e.state=.closed):Zau e t=(none,e):=by
  simp [Zau,h1,h2]
structure Calm (e:Zw) (t:Int):Prop where
  rst:e.owed_reset=none
  st:e.state∉[State.closed,.listen,.synSent,.synCome]
  tw:e.state=.timeWait→t-e.since<120000
  due:¬e.nxt=e.una→t-e.since<e.wait
theorem Calm.go (c:Calm e t):Zau e t=Zb4 e t:=by
  have hs:=c.st
  simp only [List.mem_cons,List.not_mem_nil,or_false,not_or] at hs
  have h1:¬(e.state=.timeWait∧120000≤t-e.since):=fun h=>by have:=c.tw h.1; omega
  have h2:¬(e.state=.closed∨e.state=.listen):=fun h=>h.elim hs.1 hs.2.1
  have h3:¬(¬e.nxt=e.una∧ZdW e t=true):=fun h=>by
    have:=c.due h.1
    have h2:=h.2
    unfold ZdW at h2
    simp at h2
    omega
  unfold Zau
  rw [c.rst]
  simp only [if_neg h1]
  rw [if_neg h2,if_neg h3]
theorem Calm.notSyn (c:Calm e t):¬(e.state=.synSent∨e.state=.synCome):=by
  have hs:=c.st
  simp only [List.mem_cons,List.not_mem_nil,or_false,not_or] at hs
  exact fun h=>h.elim hs.2.2.1 hs.2.2.2
theorem Calm.quiet (c:Calm e t) (hm:Zbr e=false∨(¬e.nxt=e.una∧e.wnd-ZY e.nxt e.una≤0)) (hp:e.probes=false):Zau e t=Zac e:=by
  have a1:zv e t=(none,e):=by
    unfold zv
    rw [if_neg c.notSyn,if_pos (hm.elim .inr fun h=>.inl h.2)]
  have a2:zp e t=(none,e):=by
    unfold zp
    rw [if_pos (hm.elim (fun h=>.inr (.inr h)) fun h=>.inl h.1)]
    obtain ⟨⟩:=e
    simp only at hp
    subst hp
    rfl
  rw [c.go]
  unfold Zb4
  rw [a1]
  simp only [a2]
theorem Zrr (c:Calm e t) (hm:Zbr e=false∨(¬e.nxt=e.una∧e.wnd-ZY e.nxt e.una≤0)) (hp:e.probes=false) (ho:e.owes_answer=false):Zau e t=(none,e):=by
  rw [c.quiet hm hp]
  simp [Zac,ho]
theorem Zox (c:Calm e t) (hm:Zbr e=false∨(¬e.nxt=e.una∧e.wnd-ZY e.nxt e.una≤0)) (hp:e.probes=false) (ho:e.owes_answer=true):Zau e t=(some (Zdu e e.nxt 0 []),{ e with owes_answer:=false }):=by
  rw [c.quiet hm hp]
  simp [Zac,ho]
theorem Zrt (c:Calm e t) (hw:0<e.wnd-ZY e.nxt e.una) (hm:Zbr e=true):Zau e t=(some (z7 { (if e.nxt=e.una then zh e t else e) with owes_answer:=false } (e.wnd-ZY e.nxt e.una)).1,(z7 { (if e.nxt=e.una then zh e t else e) with owes_answer:=false } (e.wnd-ZY e.nxt e.una)).2):=by
  have a1:zv e t=(some (z7 { (if e.nxt=e.una then zh e t else e) with owes_answer:=false } (e.wnd-ZY e.nxt e.una)).1,(z7 { (if e.nxt=e.una then zh e t else e) with owes_answer:=false } (e.wnd-ZY e.nxt e.una)).2):=by
    unfold zv
    rw [if_neg c.notSyn,if_neg (by rw [hm]; simp; omega)]
  rw [c.go]
  unfold Zb4
  rw [a1]
end
section
variable {e:Zw} {s:Seg} {t:Int}
theorem ZjU (hs:e.state∉[State.closed,.listen,.synSent]) (hf:ZcX e s=true) (h4:bears s 4=false) (h2:bears s 2=false) (h16:bears s 16=true):ZbQ e s t=if (z8 e s t).1=true then Zat (z8 e s t).2 s t else (z8 e s t).2:=by
  have:ZbQ e s t=Zae e s t:=by
    unfold ZbQ
    simp only [List.mem_cons,List.not_mem_nil,or_false,not_or] at hs
    split
    · rename_i h; exact absurd h hs.1
    · rename_i h; exact absurd h hs.2.1
    · rename_i h; exact absurd h hs.2.2
    · rfl
  rw [this]
  unfold Zae
  rw [hf,h4,h2,h16]
  simp
theorem ZrG (hs:e.state∉[State.closed,.listen,.synSent]):ZbQ e s t=Zae e s t:=by
  unfold ZbQ
  simp only [List.mem_cons,List.not_mem_nil,or_false,not_or] at hs
  split
  · rename_i h; exact absurd h hs.1
  · rename_i h; exact absurd h hs.2.1
  · rename_i h; exact absurd h hs.2.2
  · rfl
end
end
end My
namespace My
open PySem L2 L2.MM
noncomputable section
section
variable {a b f g W m t:Int}
def qO (W m:Int) (t:Int):Q:=⟨.opn,1,1,1,1,1,1,W,m,[],[],none,false,false,false,t,1000,0⟩
structure ZBS (q:Q) (t:Int):Prop where
  st:q.st∉[State.closed,.listen,.synSent,.synCome]
  tw:q.st=.timeWait→t-q.since<120000
  due:¬q.nxt=q.una→t-q.since<q.wait
  pr:q.pr=false
  un:q.beh≤q.nxt∧q.nxt-q.beh<1000∧0≤q.una∧q.una≤q.nxt∧q.nxt<1000
  fin:q.beh=q.nxt→q.st∉[State.waitOne,.closing,.lastAck]
end
end
end My
namespace My
open PySem L2 L2.MM
noncomputable section
theorem Ztc {nE:EM} {body:SM} {k:Nat} {ρ:List Sl} {θ:Sto} {j:Int} (Inv:Nat→List Sl→Sto→Prop) (Ret:D→Prop) (hn:nE ρ θ=.ok (.int j) θ) (h0:0≤j) (h1:j≤1000) (hi:Inv 0 ρ θ)
    (step:∀(i:Nat) ρ θ,i<j.toNat→Inv i ρ θ→(∃ρ' θ',body (ρ.set k (.val (.int (i:Int)))) θ=.ok (.nx,ρ') θ'∧Inv (i+1) ρ' θ')∨(∃d ρ' θ',body (ρ.set k (.val (.int (i:Int)))) θ=.ok (.rt d,ρ') θ'∧Ret d)) (hk:∀i ρ θ,Inv i ρ θ→k < ρ.length) :
    (∃ρ' θ',ZeA (ZcW (Zc nE Zk)) (gNm k) body ρ θ=.ok (.nx,ρ') θ'∧Inv j.toNat ρ' θ')∨(∃d ρ' θ',ZeA (ZcW (Zc nE Zk)) (gNm k) body ρ θ=.ok (.rt d,ρ') θ'∧Ret d):=by
  obtain ⟨all,hall⟩:∃x,x=(List.range j.toNat).map fun (i:Nat)=>D.int (0+(i:Int)):=⟨_,rfl⟩
  have hm:ZeA (ZcW (Zc nE Zk)) (gNm k) body ρ θ=ZcP (.rng 0 j.toNat) all (gNm k) body all ρ θ:=by
    unfold ZeA
    have:ZcW (Zc nE Zk) ρ θ=.ok (.rng 0 j.toNat) θ:=by simp [hn]; omega
    rw [this,R.bind_ok]
    simp only [Zc2,←hall]
  rw [hm]
  have key:∀(m:Nat) ρ θ,m≤j.toNat→Inv (j.toNat-m) ρ θ→(∃ρ' θ',ZcP (.rng 0 j.toNat) all (gNm k) body (all.drop (j.toNat-m)) ρ θ=.ok (.nx,ρ') θ'∧Inv j.toNat ρ' θ')∨(∃d ρ' θ',ZcP (.rng 0 j.toNat) all (gNm k) body (all.drop (j.toNat-m)) ρ θ=.ok (.rt d,ρ') θ'∧Ret d):=by
    intro m
    induction m with
    | zero=>
      intro ρ θ _ hI
      left
      refine ⟨ρ,θ,?_,by simpa using hI⟩
      rw [Nat.sub_zero,List.drop_eq_nil_of_le (by rw [hall]; simp)]
      simp [ZcP,hall]
    | succ m ih=>
      intro ρ θ hm hI
      have hlt:j.toNat-(m+1)<j.toNat:=by omega
      have hla:j.toNat-(m+1)<all.length:=by rw [hall]; simpa using hlt
      have e:j.toNat-(m+1)+1=j.toNat-m:=by omega
      have hx:all[j.toNat-(m+1)]=D.int (((j.toNat-(m+1):Nat):Int)):=by simp [hall]
      have hg:gNm k (D.int (((j.toNat-(m+1):Nat):Int))) ρ=some (ρ.set k (.val (.int ((j.toNat-(m+1):Nat):Int)))):=by
        have:=hk _ _ _ hI
        simp [gNm,this]
      have hit:(Src.rng 0 j.toNat).items θ=some all:=by rw [Zc2,hall]
      rw [List.drop_eq_getElem_cons hla,hx,e]
      simp only [ZcP,hit,if_true,hg]
      rcases step _ ρ θ hlt hI with ⟨ρ',θ',h,hI'⟩ | ⟨d,ρ',θ',h,hR⟩
      · rw [h,R.bind_ok,ZdM]
        exact ih ρ' θ' (by omega) (by rw [←e]; exact hI')
      · right
        exact ⟨d,ρ',θ',by rw [h]; rfl,hR⟩
  have:=key j.toNat ρ θ (Nat.le_refl _) (by rw [Nat.sub_self]; exact hi)
  rw [Nat.sub_self,List.drop_zero] at this
  exact this
theorem Zru {α:Type} {F:α→D} {fE:EM} {body:SM} {k:Nat} {ρ:List Sl} {θ θ0:Sto} (Inv:List α→List Sl→Sto→Prop) (Ret:D→Prop) (xs:List α) (hn:fE ρ θ0=.ok (.lst (xs.map F)) θ) (hi:Inv xs ρ θ)
    (step:∀x r ρ θ,Inv (x::r) ρ θ→(∃ρ' θ',body (ρ.set k (.val (F x))) θ=.ok (.nx,ρ') θ'∧Inv r ρ' θ')∨(∃d ρ' θ',body (ρ.set k (.val (F x))) θ=.ok (.rt d,ρ') θ'∧Ret d)) (hk:∀i ρ θ,Inv i ρ θ→k < ρ.length) :
    (∃ρ' θ',ZeA (mIn fE) (gNm k) body ρ θ0=.ok (.nx,ρ') θ'∧Inv [] ρ' θ')∨(∃d ρ' θ',ZeA (mIn fE) (gNm k) body ρ θ0=.ok (.rt d,ρ') θ'∧Ret d):=by
  have hm:ZeA (mIn fE) (gNm k) body ρ θ0=ZcP (.seq (.lst (xs.map F))) (xs.map F) (gNm k) body (xs.map F) ρ θ:=by
    unfold ZeA
    have:mIn fE ρ θ0=.ok (.seq (.lst (xs.map F))) θ:=by simp [hn]
    rw [this,R.bind_ok]
    rfl
  rw [hm]
  have key:∀(ys:List α) ρ θ,Inv ys ρ θ→(∃ρ' θ',ZcP (.seq (.lst (xs.map F))) (xs.map F) (gNm k) body (ys.map F) ρ θ=.ok (.nx,ρ') θ'∧Inv [] ρ' θ')∨(∃d ρ' θ',ZcP (.seq (.lst (xs.map F))) (xs.map F) (gNm k) body (ys.map F) ρ θ=.ok (.rt d,ρ') θ'∧Ret d):=by
    intro ys
    induction ys with
    | nil=>
      intro ρ θ hI
      left
      refine ⟨ρ,θ,?_,hI⟩
      have hit:(Src.seq (.lst (xs.map F))).items θ=some (xs.map F):=rfl
      simp [ZcP,hit]
    | cons y ys ih=>
      intro ρ θ hI
      have hg:gNm k (F y) ρ=some (ρ.set k (.val (F y))):=by
        have:=hk _ _ _ hI
        simp [gNm,this]
      have hit:(Src.seq (.lst (xs.map F))).items θ=some (xs.map F):=rfl
      rw [List.map_cons]
      simp only [ZcP,hit,if_true,hg]
      rcases step _ _ ρ θ hI with ⟨ρ',θ',h,hI'⟩ | ⟨d,ρ',θ',h,hR⟩
      · rw [h,R.bind_ok,ZdM]
        exact ih ρ' θ' hI'
      · right
        exact ⟨d,ρ',θ',by rw [h]; rfl,hR⟩
  exact key xs ρ θ hi
end
end My
namespace L2.MM
open PySem PySem.Spec PyProof.Rows
def kvS (kvs:List (Str×Str)):List (Key×V):=kvs.map fun p=>(.inr p.1,.str p.2)
def trS (kvs:List (Str×Str)):List (TE×TE):=kvs.map fun p=>(tC (.str p.1),tC (.str p.2))
def Zhm (kvs:List (Str×Str)) (x:Str):Option Str:=(kvs.find? fun p=>decide (p.1=x)).map (·.2)
theorem ZjE:∀(kvs:List (Str×Str)) (σ:St) (H:Hp) (Q:List (V×V)→Hp→Prop),Q (kvs.map fun p=>(V.str p.1,V.str p.2)) H→Zjv (trS kvs) σ H Q
  | [],_,_,_,h=>h
  | p::r,σ,H,Q,h=>ZjE r σ H (fun ps H3=>Q ((V.str p.1,V.str p.2)::ps) H3) h
theorem Zmt (x:Str):∀kvs:List (Str×Str),valV (kvS kvs) (.inr x)=(Zhm kvs x).map V.str
  | []=>rfl
  | p::r=>by
    have ih:=Zmt x r
    unfold valV kvS Zhm at ih ⊢
    by_cases e:p.1=x
    · simp [List.find?_cons,e]
    · have e2:¬((Sum.inr p.1:Key)=Sum.inr x):=fun z=>e (by injection z)
      simp only [List.map_cons,List.find?_cons,decide_eq_false e,decide_eq_false e2]
      exact ih
theorem ZwF {X:Cx} {pos p p':Pos} {j j'} {ks:List (Option Expr)} {vs:List Expr} {a b:Str} {kvs:List (Str×Str)} (h:PPs X pos ks vs (trS kvs)):PPs X pos (some (.Constant (.str a) j p)::ks) (.Constant (.str b) j' p'::vs) (trS ((a,b)::kvs)):=ZqI ZmH ZmH h
section
variable {X:Cx}
def ZnD (kvs:List (Str×Str)) (fi:EM):EM:=fun ρ θ=>(fi ρ θ).bind fun y θ=>match y with
  | .str x=>match Zhm kvs x with
    | some s=>.ok (.str s) θ
    | none=>.bad
  | _=>.bad
def Zh4 (kvs:List (Str×Str)) (fi ff:EM):EM:=fun ρ θ=>(fi ρ θ).bind fun y θ=>(ff ρ θ).bind fun z θ=>match y with
  | .str x=>match Zhm kvs x with
    | some s=>.ok (.str s) θ
    | none=>.ok z θ
  | _=>.bad
theorem ZsY {kvs:List (Str×Str)} {keys:List (Option Expr)} {values:List Expr} {i:Expr} {fi:EM} {pos pos':Pos} {k:Nat} (hr:Room k X.A) (hp:PPs X pos keys values (trS kvs)) (hi:ME X i fi) (hm:Zdf [] (kvS kvs)=kvS kvs) (hk:kvs.length≤15)
    (hall:keys.all (·.isSome)=true) (hl:keys.length=values.length) (h0:keys≠[]) (h15:keys.length≤15) (hs:Zvx i):ME X (.Subscript (.Dict keys values pos) i pos') (ZnD kvs fi):=by
  refine PE.imp (ZsL (Zmu hr) (Znp hp hall hl h0 h15) hi hs) fun σ H Q h=>?_
  obtain ⟨B,θ,ρ,F,w⟩:=h
  intro p hp0
  refine ZjE kvs σ _ _ ?_
  refine ⟨zi,kvS kvs,by unfold kvS; rw [List.map_map]; rfl,by unfold kvS; rw [List.length_map]; exact hk,?_⟩
  rw [hm,Zm5]
  have G:=F.good
  have E0:=Zb5 G hp0 (.dK (kvS kvs))
  have F0:=F.ext E0 (Zdh G hp0 _)
  refine Z4 (step F0 (w.trans E0)) ?_
  rintro y H2 ⟨B2,θ2,dy,E2,F2,ry,w2⟩
  obtain ⟨_,h2⟩:=Bx.ok.ext (G.okNone hp0) E2.toExtS zi
  cases dy with
  | str x=>
    cases (show y=.str x from ry)
    simp only at w2
    have hv:=Zmt x kvs
    cases e:Zhm kvs x with
    | none=>rw [e] at w2; exact w2.elim
    | some t=>
      rw [e] at w2 hv
      refine ⟨p,.str t,rfl,?_,ZP (Rel:=RepV) F2.good (show RepV B2 H2 (.str t) (.str t) from rfl) w2⟩
      have:=DGet.k (k:=.inr x) h2
      rw [hv] at this
      exact this
  | _=>exact w2.elim
theorem Zrd {kvs:List (Str×Str)} {keys:List (Option Expr)} {values:List Expr} {i f:Expr} {fi ff:EM} {pos apos cpos:Pos} {k:Nat} (hr:Room k X.A) (hp:PPs X pos keys values (trS kvs)) (hi:ME X i fi) (hf:ME X f ff) (hm:Zdf [] (kvS kvs)=kvS kvs) (hk:kvs.length≤15)
    (hall:keys.all (·.isSome)=true) (hl:keys.length=values.length) (h0:keys≠[]) (h15:keys.length≤15) (m:M2 X (.Dict keys values pos) "get" apos i f cpos):ME X (.Call (.Attribute (.Dict keys values pos) "get" apos) [i,f] [] cpos) (Zh4 kvs fi ff):=by
  refine PE.imp (ZqT (Zmu hr) (Znp hp hall hl h0 h15) hi hf m) fun σ H Q h=>?_
  obtain ⟨B,θ,ρ,F,w⟩:=h
  intro p hp0
  refine ZjE kvs σ _ _ ?_
  refine ⟨zi,kvS kvs,by unfold kvS; rw [List.map_map]; rfl,by unfold kvS; rw [List.length_map]; exact hk,?_⟩
  rw [hm,Zm5]
  have G:=F.good
  have E0:=Zb5 G hp0 (.dK (kvS kvs))
  have F0:=F.ext E0 (Zdh G hp0 _)
  refine ⟨p,rfl,.inl ⟨_,.inl zi⟩,?_⟩
  refine Z4 (step F0 (w.trans E0)) ?_
  rintro y H2 ⟨B2,θ2,dy,E2,F2,ry,w2⟩
  obtain ⟨k2,h2⟩:=Bx.ok.ext (G.okNone hp0) E2.toExtS zi
  refine Z4 (step F2 w2) ?_
  rintro z H3 ⟨B3,θ3,dz,E3,F3,rz,w3⟩
  obtain ⟨_,h3⟩:=k2.ext E3.toExtS h2
  cases dy with
  | str x=>
    cases (show y=.str x from ry)
    simp only at w3
    have hv:=Zmt x kvs
    refine ⟨_,DGet.k (k:=.inr x) h3,?_⟩
    rw [hv]
    cases e:Zhm kvs x with
    | none=>rw [e] at w3; exact ZP (Rel:=RepV) F3.good rz w3
    | some t=>
      rw [e] at w3
      exact ZP (Rel:=RepV) F3.good (show RepV B3 H3 (.str t) (.str t) from rfl) w3
  | _=>exact w3.elim
end
section
variable {ρ:List Sl} {θ:Sto}
end
end L2.MM
namespace L2.MM
open PySem L2
structure BE (X:Cx) (e:Expr) (f:EM):Prop where
  h:ME X e f
structure BA (X:Cx) (es:List Expr) (f:AM):Prop where
  h:MA X es f
structure BS (X:Cx) (st:Stmt) (f:SM):Prop where
  h:MS X st f
section
variable {X:Cx} {e:Expr} {es:List Expr} {f:EM} {fs:AM} {pos:Pos}
theorem Zvq {c} (h:BA X es fs):BE X (.Tuple es c pos) (ZaO fs):=⟨zc h.h⟩
theorem Zvr:BA X [] Zk:=⟨Zf⟩
end
end L2.MM
namespace L2.MM
open PySem PySem.Spec PyProof.Rows
structure BP (X:Cx) (pos:Pos) (keys:List (Option Expr)) (values:List Expr) (kvs:List (Str×Str)):Prop where
  h:PPs X pos keys values (trS kvs)
  m:Zdf [] (kvS kvs)=kvS kvs
  a:keys.all (·.isSome)=true
  l:keys.length=values.length
  n:kvs.length=keys.length
theorem Zf6:∀(kvs:List (Str×Str)) (acc:List (Key×V)),(kvs.map (·.1)).Nodup→(∀p∈kvs,∀q∈acc,¬q.1=.inr p.1)→Zdf acc (kvS kvs)=acc++kvS kvs
  | [],acc,_,_=>by simp [kvS,Zdf]
  | p::r,acc,hn,h=>by
    rw [List.map_cons,List.nodup_cons] at hn
    have e:Zez acc (.inr p.1) (.str p.2)=acc++[(.inr p.1,.str p.2)]:=by
      unfold Zez
      rw [if_neg]
      rw [List.any_eq_true]
      rintro ⟨q,hq,z⟩
      exact h p (List.mem_cons_self) q hq (by simpa using z)
    show Zdf (Zez acc (.inr p.1) (.str p.2)) (kvS r)=_
    rw [e,Zf6 r _ hn.2]
    · rw [List.append_assoc]; rfl
    · intro p' hp' q hq
      rcases List.mem_append.mp hq with hq | hq
      · exact h p' (List.mem_cons_of_mem _ hp') q hq
      · rw [List.mem_singleton] at hq
        subst hq
        intro z
        have:p.1=p'.1:=by injection z
        exact hn.1 (this ▸ List.mem_map_of_mem hp')
theorem ZmZ {X:Cx} {pos:Pos}:BP X pos [] [] []:=⟨ZsE,rfl,rfl,rfl,rfl⟩
theorem Zdz {X:Cx} {pos p p':Pos} {j j'} {ks:List (Option Expr)} {vs:List Expr} {a b:Str} {kvs:List (Str×Str)} (h:BP X pos ks vs kvs) (hn:(a::kvs.map (·.1)).Nodup):BP X pos (some (.Constant (.str a) j p)::ks) (.Constant (.str b) j' p'::vs) ((a,b)::kvs):=
  ⟨ZwF h.h,by have:=Zf6 ((a,b)::kvs) [] hn (fun _ _ _ hq=>absurd hq List.not_mem_nil); simpa using this,by rw [List.all_cons,h.a]; rfl,by rw [List.length_cons,List.length_cons,h.l],by rw [List.length_cons,List.length_cons,h.n]⟩
section
variable {X:Cx} {pos apos cpos pos' p1 p2:Pos} {k0:Option Expr} {keys:List (Option Expr)} {values:List Expr} {kvs:List (Str×Str)} {x y:Str} {fi ff:EM} {k:Nat}
theorem Ztm (hr:Room k X.A) (hp:BP X pos (k0::keys) values kvs) (h15:kvs.length≤15) (hi:ME X (.Name x p1) fi):BE X (.Subscript (.Dict (k0::keys) values pos) (.Name x p1) pos') (ZnD kvs fi):=
  ⟨ZsY hr hp.h hi hp.m h15 hp.a hp.l (List.cons_ne_nil _ _) (hp.n ▸ h15) (fun _ _=>rfl)⟩
theorem Zmm (hr:Room k X.A) (hp:BP X pos (k0::keys) values kvs) (h15:kvs.length≤15) (hi:ME X (.Name x p1) fi) (hf:ME X (.Name y p2) ff) (hl:(apos.endLine == cpos.line)=true):BE X (.Call (.Attribute (.Dict (k0::keys) values pos) "get" apos) [.Name x p1,.Name y p2] [] cpos) (Zh4 kvs fi ff):=
  ⟨Zrd hr hp.h hi hf hp.m h15 hp.a hp.l (List.cons_ne_nil _ _) (hp.n ▸ h15) ⟨rfl,rfl,hl,rfl⟩⟩
variable {e:Expr} {es:List Expr} {f:EM} {fs:AM}
theorem Zvt {c:Bool} {j} (h:BA X es fs):BA X (.Constant (.bool c) j pos::es) (Zc (mC (.bl c)) fs):=⟨Za zD h.h rfl⟩
theorem Zvs {i:Expr} (h0:BE X (.Subscript e i pos) f) (h:BA X es fs):BA X (.Subscript e i pos::es) (Zc f fs):=⟨Za h0.h h.h rfl⟩
theorem ZmY {pos:Pos} (h:BE X e f):BS X (.Return (some e) pos) (ZL f):=⟨Zu h.h⟩
theorem ZhZ {st:Stmt} {f:SM} (h:BS X st f):MSs X [st] f:=Zi h.h
end
end L2.MM
namespace My
open PySem L2 L2.MM
noncomputable section
def ZmK (q:Q):Int:=if 16<q.most then 16 else q.most
def room (q:Q):Int:=q.wnd-(q.nxt-q.una)
def Zey (q:Q):Prop:=q.st∈[State.opn,.waitOne,.closeWait,.closing,.lastAck]∧q.nxt<q.beh
def ZfC (q:Q):Prop:=q.st∈[State.waitOne,.closing,.lastAck]∧q.nxt=q.beh
instance (q:Q):Decidable (Zey q):=by unfold Zey; infer_instance
instance (q:Q):Decidable (ZfC q):=by unfold ZfC; infer_instance
def ZcG (q:Q) (r:Int):Int:=mn3 (ZmK q) (q.beh-q.nxt) r
def sinceQ (q:Q) (t:Int):Q:=if q.nxt=q.una then { q with since:=t,wait:=1000,tries:=0 } else q
def Zfy (a b f g:Int) (q:Q) (r:Int):Seg:=⟨a,b,Zv f q.nxt,Zv g q.rcv,if q.nxt+ZcG q r=q.beh then 24 else 16,64-q.come.length,0,(q.written.drop (q.nxt-q.una).toNat).take (ZcG q r).toNat⟩
def ZjS (a b f g:Int) (q:Q):Seg:=⟨a,b,Zv f q.nxt,Zv g q.rcv,17,64-q.come.length,0,[]⟩
def Zvw (a b f g:Int) (q:Q):Seg:=⟨a,b,Zv f q.nxt,Zv g q.rcv,16,64-q.come.length,0,[]⟩
def Zq8 (q:Q) (r:Int) (t:Int):Q:={ sinceQ q t with nxt:=q.nxt+ZcG q r,oa:=false,pr:=false }
def ZlQ (q:Q) (t:Int):Q:={ sinceQ q t with nxt:=q.nxt+1,oa:=false,pr:=false }
structure WF (q:Q):Prop where
  una:0≤q.una∧q.una≤q.nxt
  nxt:q.nxt≤q.beh+1∧q.beh<1000000
  wr:q.una≤q.beh→(q.written.length:Int)=q.beh-q.una
  wnd:0≤q.wnd∧q.wnd≤65535
  most:4≤q.most
  come:q.come.length≤64
  byt:∀z∈q.written,0≤z∧z≤255
structure CalmQ (q:Q) (t:Int):Prop where
  st:q.st∉[State.closed,.listen,.synSent,.synCome]
  tw:q.st=.timeWait→t-q.since<120000
  due:¬q.nxt=q.una→t-q.since<q.wait
section
variable {a b f g t:Int} {q:Q}
theorem CalmQ.on (h:CalmQ q t):Calm (qE a b f g q) t:=⟨rfl,h.st,h.tw,fun z=>h.due fun y=>z (by show Zv f q.nxt=Zv f q.una; rw [y])⟩
theorem WF.uns (w:WF q):ZcK (qE a b f g q)=q.beh-q.nxt:=by
  obtain ⟨u,n,_⟩:=w
  exact Zcn (by omega)
theorem WF.off (w:WF q):ZY (qE a b f g q).nxt (qE a b f g q).una=q.nxt-q.una:=by
  obtain ⟨u,n,_⟩:=w
  exact Zcn (by omega)
theorem WF.same (w:WF q):(qE a b f g q).nxt=(qE a b f g q).una↔q.nxt=q.una:=by
  obtain ⟨u,n,_⟩:=w
  exact ZdS (by omega)
theorem WF.newD (w:WF q):Za3 (qE a b f g q)=decide (Zey q):=by
  unfold Za3
  rw [w.uns,Bool.eq_iff_iff,Bool.and_eq_true,decide_eq_true_iff,decide_eq_true_iff,decide_eq_true_iff]
  exact and_congr Iff.rfl (by omega)
theorem WF.newF (w:WF q):hasNewFin (qE a b f g q)=decide (ZfC q):=by
  unfold hasNewFin
  rw [w.uns,Bool.eq_iff_iff,Bool.and_eq_true,decide_eq_true_iff,decide_eq_true_iff,decide_eq_true_iff]
  exact and_congr Iff.rfl (by omega)
theorem WF.more (w:WF q):Zbr (qE a b f g q)=(decide (Zey q) || decide (ZfC q)):=by
  unfold Zbr
  rw [w.newD,w.newF]
theorem ZlC (w:WF q) (t:Int):(if (qE a b f g q).nxt=(qE a b f g q).una then zh (qE a b f g q) t else qE a b f g q)=qE a b f g (sinceQ q t):=by
  unfold sinceQ
  by_cases c:q.nxt=q.una
  · rw [if_pos (w.same.mpr c),if_pos c]; rfl
  · rw [if_neg fun z=>c (w.same.mp z),if_neg c]
theorem ZhQ (q:Q) (t:Int):(sinceQ q t).nxt=q.nxt∧(sinceQ q t).una=q.una∧(sinceQ q t).beh=q.beh∧(sinceQ q t).rcv=q.rcv∧(sinceQ q t).st=q.st∧(sinceQ q t).most=q.most∧(sinceQ q t).written=q.written∧(sinceQ q t).come=q.come∧(sinceQ q t).wnd=q.wnd∧(sinceQ q t).told=q.told∧(sinceQ q t).by_=q.by_∧(sinceQ q t).fin=q.fin∧(sinceQ q t).cl=q.cl:=by
  unfold sinceQ
  split<;>exact ⟨rfl,rfl,rfl,rfl,rfl,rfl,rfl,rfl,rfl,rfl,rfl,rfl,rfl⟩
theorem ZrI (w:WF q) (hd:q.nxt<q.beh) {r:Int} (hr:0<r):0<ZcG q r∧ZcG q r≤q.beh-q.nxt∧ZcG q r≤r∧ZcG q r≤16:=by
  have:=w.most
  unfold ZcG mn3 ZmK
  split<;>split<;>split<;>omega
theorem ZmG (w:WF q) (hd:Zey q) {r:Int} (hr:0<r) (p0:Bool):z7 (qE a b f g { q with oa:=false,pr:=p0 }) r=(Zfy a b f g q r,qE a b f g { q with nxt:=q.nxt+ZcG q r,oa:=false,pr:=false }):=by
  obtain ⟨c1,c2,c3,c4⟩:=ZrI w hd.2 hr
  have hu:=w.una
  have hn:=w.nxt
  have wf2:WF { q with oa:=false,pr:=p0 }:=⟨w.una,w.nxt,w.wr,w.wnd,w.most,w.come,w.byt⟩
  unfold z7
  rw [if_pos (by rw [wf2.newD]; exact decide_eq_true hd)]
  have e0:({ qE a b f g { q with oa:=false,pr:=p0 } with probes:=false }:Zw)=qE a b f g { q with oa:=false,pr:=false }:=rfl
  rw [e0]
  have wf3:WF { q with oa:=false,pr:=false }:=⟨w.una,w.nxt,w.wr,w.wnd,w.most,w.come,w.byt⟩
  have nm:Zfg (qE a b f g { q with oa:=false,pr:=false }) r=ZcG q r:=by
    unfold Zfg ZcG
    rw [wf3.uns]
    rfl
  unfold Zfh
  simp only [nm]
  have e1:({ qE a b f g { q with oa:=false,pr:=false } with nxt:=Zv (qE a b f g { q with oa:=false,pr:=false }).nxt (ZcG q r) }:Zw)=qE a b f g { q with nxt:=q.nxt+ZcG q r,oa:=false,pr:=false }:=by
    have:Zv (Zv f q.nxt) (ZcG q r)=Zv f (q.nxt+ZcG q r):=ZaK _ _ _
    show ({ qE a b f g { q with oa:=false,pr:=false } with nxt:=Zv (Zv f q.nxt) (ZcG q r) }:Zw)=_
    rw [this]
    rfl
  rw [e1]
  have u1:ZcK (qE a b f g { q with nxt:=q.nxt+ZcG q r,oa:=false,pr:=false })=q.beh-(q.nxt+ZcG q r):=Zcn (by show _∧_; simp only; omega)
  rw [u1,wf3.off]
  have cu:Zbg (qE a b f g { q with oa:=false,pr:=false }).written (some (q.nxt-q.una)) (some (q.nxt-q.una+ZcG q r))=(q.written.drop (q.nxt-q.una).toNat).take (ZcG q r).toNat:=by
    rw [ZnO _ (by omega) (by omega)]
    congr 1
    omega
  simp only [cu]
  refine Prod.ext ?_ rfl
  unfold Zdu Zfy ZR
  by_cases c:q.nxt+ZcG q r=q.beh
  · rw [if_pos (by omega),if_pos c]; rfl
  · rw [if_neg (by omega),if_neg c]; rfl
theorem Zog (w:WF q) (hd:ZfC q) (r:Int) (p0:Bool):z7 (qE a b f g { q with oa:=false,pr:=p0 }) r=(ZjS a b f g q,qE a b f g { q with nxt:=q.nxt+1,oa:=false,pr:=false }):=by
  have wf2:WF { q with oa:=false,pr:=p0 }:=⟨w.una,w.nxt,w.wr,w.wnd,w.most,w.come,w.byt⟩
  have nd:¬Zey { q with oa:=false,pr:=p0 }:=fun z=>by
    have h1:=z.2
    have h2:=hd.2
    simp only at h1
    omega
  unfold z7
  rw [if_neg (by rw [wf2.newD,decide_eq_false nd]; decide)]
  unfold ZhX
  refine Prod.ext rfl ?_
  show ({ qE a b f g { q with oa:=false,pr:=false } with nxt:=Zv (Zv f q.nxt) 1 }:Zw)=_
  rw [ZaK]
  rfl
theorem Zs7 (c:CalmQ q t) (w:WF q) (hr:0<room q) (hd:Zey q):Zau (qE a b f g q) t=(some (Zfy a b f g q (room q)),qE a b f g (Zq8 q (room q) t)):=by
  have o:=w.off (a:=a) (b:=b) (f:=f) (g:=g)
  have ro:(qE a b f g q).wnd-ZY (qE a b f g q).nxt (qE a b f g q).una=room q:=by rw [o]; rfl
  rw [Zrt c.on (by rw [ro]; exact hr) (by rw [w.more,decide_eq_true hd]; rfl),ZlC w,ro]
  obtain ⟨s1,s2,s3,s4,s5,s6,s7,s8,s9,s10,s11,s12,s13⟩:=ZhQ q t
  have wf':WF (sinceQ q t):=⟨by rw [s1,s2]; exact w.una,by rw [s1,s3]; exact w.nxt,by rw [s2,s3,s7]; exact w.wr,by rw [s9]; exact w.wnd,by rw [s6]; exact w.most,by rw [s8]; exact w.come,by rw [s7]; exact w.byt⟩
  have e0:({ qE a b f g (sinceQ q t) with owes_answer:=false }:Zw)=qE a b f g { sinceQ q t with oa:=false,pr:=(sinceQ q t).pr }:=rfl
  rw [e0,ZmG wf' (by unfold Zey; rw [s5,s1,s3]; exact hd) hr]
  have cc:ZcG (sinceQ q t) (room q)=ZcG q (room q):=by unfold ZcG ZmK; rw [s1,s3,s6]
  have dd:Zfy a b f g (sinceQ q t) (room q)=Zfy a b f g q (room q):=by unfold Zfy; rw [cc,s1,s2,s3,s4,s7,s8]
  rw [dd,cc,s1]
  rfl
theorem Zs6 (c:CalmQ q t) (w:WF q) (hr:0<room q) (hd:ZfC q):Zau (qE a b f g q) t=(some (ZjS a b f g q),qE a b f g (ZlQ q t)):=by
  have o:=w.off (a:=a) (b:=b) (f:=f) (g:=g)
  have ro:(qE a b f g q).wnd-ZY (qE a b f g q).nxt (qE a b f g q).una=room q:=by rw [o]; rfl
  rw [Zrt c.on (by rw [ro]; exact hr) (by rw [w.more,decide_eq_true hd]; simp),ZlC w,ro]
  obtain ⟨s1,s2,s3,s4,s5,s6,s7,s8,s9,s10,s11,s12,s13⟩:=ZhQ q t
  have wf':WF (sinceQ q t):=⟨by rw [s1,s2]; exact w.una,by rw [s1,s3]; exact w.nxt,by rw [s2,s3,s7]; exact w.wr,by rw [s9]; exact w.wnd,by rw [s6]; exact w.most,by rw [s8]; exact w.come,by rw [s7]; exact w.byt⟩
  have e0:({ qE a b f g (sinceQ q t) with owes_answer:=false }:Zw)=qE a b f g { sinceQ q t with oa:=false,pr:=(sinceQ q t).pr }:=rfl
  rw [e0,Zog wf' (by unfold ZfC; rw [s5,s1,s3]; exact hd)]
  have dd:ZjS a b f g (sinceQ q t)=ZjS a b f g q:=by unfold ZjS; rw [s1,s4,s8]
  rw [dd,s1]
  rfl
theorem ZnK (c:CalmQ q t) (w:WF q) (hn:¬(Zey q∨ZfC q)∨(¬q.nxt=q.una∧room q≤0)) (hp:q.pr=false):Zau (qE a b f g q) t=if q.oa=true then (some (Zvw a b f g q),qE a b f g { q with oa:=false }) else (none,qE a b f g q):=by
  have o:=w.off (a:=a) (b:=b) (f:=f) (g:=g)
  have hm:Zbr (qE a b f g q)=false∨(¬(qE a b f g q).nxt=(qE a b f g q).una∧(qE a b f g q).wnd-ZY (qE a b f g q).nxt (qE a b f g q).una≤0):=by
    rcases hn with h | ⟨h1,h2⟩
    · left
      rw [w.more,decide_eq_false fun z=>h (.inl z),decide_eq_false fun z=>h (.inr z)]; rfl
    · right
      exact ⟨fun z=>h1 (w.same.mp z),by rw [o]; exact h2⟩
  by_cases h:q.oa=true
  · rw [if_pos h,Zox c.on hm hp h]; rfl
  · rw [if_neg h,Zrr c.on hm hp (by simpa [qE] using h)]
end
section
variable {a b f g t:Int}
theorem Zti {q:Q} {r:Int} (w:WF q) (hr:0<r) (hd:Zey q) (ha:0≤a∧a≤65535) (hb:0≤b∧b≤65535):(Zfy a b f g q r).Ok:=by
  obtain ⟨c1,c2,c3,c4⟩:=ZrI w hd.2 hr
  have:=w.come
  refine ZgY ha hb (ZaJ _ _) (ZaJ _ _) (by split<;>omega) (by omega) (.inl rfl) ⟨fun z hz=>w.byt z (List.mem_of_mem_drop (List.mem_of_mem_take hz)),?_⟩
  rw [List.length_take]
  omega
theorem Zvj {q:Q} (w:WF q) (ha:0≤a∧a≤65535) (hb:0≤b∧b≤65535):(ZjS a b f g q).Ok:=by
  have:=w.come
  exact ZgY ha hb (ZaJ _ _) (ZaJ _ _) (by omega) (by omega) (.inl rfl) Zff
theorem Zts {q:Q} (w:WF q) (ha:0≤a∧a≤65535) (hb:0≤b∧b≤65535):(Zvw a b f g q).Ok:=by
  have:=w.come
  exact ZgY ha hb (ZaJ _ _) (ZaJ _ _) (by omega) (by omega) (.inl rfl) Zff
end
end
end My
namespace My
open PySem L2 L2.MM
noncomputable section
structure ZB1 (q q':Q):Prop where
  st:q'.st=q.st
  una:q'.una=q.una
  beh:q'.beh=q.beh
  rcv:q'.rcv=q.rcv
  told:q'.told=q.told
  by_:q'.by_=q.by_
  wnd:q'.wnd=q.wnd
  most:q'.most=q.most
  written:q'.written=q.written
  come:q'.come=q.come
  fin:q'.fin=q.fin
  cl:q'.cl=q.cl
section
variable {a b f g t:Int}
end
section
variable {a b f g t:Int}
def qIn (q:Q) (n:Int) (x:List Int) (fin:Bool):Q:={ q with come:=q.come++x,rcv:=n,oa:=q.oa || decide (0<x.length) || fin,fin:=if fin then some (q.rcv+x.length) else none }
end
end
end My
namespace My
open PySem L2 L2.MM
noncomputable section
section
variable {a b f g t:Int}
end
end
end My
namespace My
open PySem L2 L2.MM
noncomputable section
section
variable {a b f g t:Int} {q:Q}
structure Due (q:Q) (t:Int):Prop where
  st:q.st∉[State.closed,.listen,.synSent,.synCome,.timeWait]
  nx:¬q.nxt=q.una
  due:q.wait≤t-q.since
end
end
end My
namespace My
open PySem L2 L2.MM
noncomputable section
section
variable {a b f g t:Int} {q:Q}
end
end
end My
namespace My
open PySem L2 L2.MM
noncomputable section
section
variable {a b f g t:Int} {q:Q}
abbrev S3:List State:=[.opn,.waitOne,.waitTwo]
theorem S3.cases {s:State} (h:s∈S3):s=.opn∨s=.waitOne∨s=.waitTwo:=by simpa using h
theorem ZrH {n W:Int} {x:List Int} {q':Q} (hst:q.st∈S3) (hx:x.length≤16) (hq:q.come.length≤63) (go:z8 (qE a b f g q) ⟨b,a,Zv g q.rcv,Zv f n,16,W,0,x⟩ t=(true,qE a b f g q')) (h1:q'.st∈S3) (h2:q'.fin=none) (h3:q'.rcv=q.rcv) (h4:q'.come.length+x.length≤63) :
    ZbQ (qE a b f g q) ⟨b,a,Zv g q.rcv,Zv f n,16,W,0,x⟩ t=qE a b f g (qIn q' (q.rcv+x.length) x false):=by
  have hs:=S3.cases hst
  have hs':=S3.cases h1
  obtain ⟨s,hsg⟩:∃s:Seg,s=⟨b,a,Zv g q.rcv,Zv f n,16,W,0,x⟩:=⟨_,rfl⟩
  have b4:bears s 4=false:=by rw [hsg]; simp
  have b2:bears s 2=false:=by rw [hsg]; simp
  have b16:bears s 16=true:=by rw [hsg]; simp
  have b1:bears s 1=false:=by rw [hsg]; simp
  have nr:s.num=(qE a b f g q).rcv:=by rw [hsg]; rfl
  have cm:(qE a b f g q).come=q.come:=rfl
  have ft:ZcX (qE a b f g q) s=true:=by
    unfold ZcX inWin ZR
    rw [nr,cm,ZhR]
    have:(q.come.length:Int)<64:=by omega
    simp [this]
  rw [←hsg] at go ⊢
  rw [ZjU (show (qE a b f g q).state∉_ by show q.st∉_; rcases hs with h | h | h<;>rw [h]<;>decide) ft b4 b2 b16,go]
  simp only [if_true]
  unfold Zat
  have sh:(qE a b f g q').state=q'.st:=rfl
  have sda:s.data=x:=by rw [hsg]
  have fn:(qE a b f g q').early_fin=none:=by show q'.fin.map _=none; rw [h2]; rfl
  have stm:=ZeC (e:=qE a b f g q') (s:=s) (by rw [sda]; exact hx) (by rw [nr]; show Zv g q.rcv=Zv g q'.rcv; rw [h3]) (ZaJ _ _) rfl fn (by rw [sda,b1]; show q'.come.length+x.length+_≤64; simp; omega)
  rw [if_pos (by rw [sh]; rcases hs' with h | h | h<;>simp [h]),stm,b1,sda]
  have rr:Zv (qE a b f g q').rcv (x.length:Int)=Zv g (q.rcv+x.length):=by
    show Zv (Zv g q'.rcv) _=_
    rw [ZaK,h3]
  rw [rr]
  simp only [Bool.false_eq_true,if_false,reduceCtorEq,Bool.or_false]
  unfold qIn qE
  simp
end
end
end My
namespace My
open PySem L2 L2.MM
noncomputable section
section
variable {a b f g t:Int} {q:Q}
theorem Zou {x k fl:Int} {d:List Int} (w:WF q) (hw:q.wnd=1000) (hk:k=q.una∨k=q.nxt):∃u v,(u=q.told∨u=x)∧(v=q.by_∨v=k)∧zN (qE a b f g q) ⟨b,a,Zv g x,Zv f k,fl,1000,0,d⟩ t=qE a b f g { q with una:=k,written:=q.written.drop (k-q.una).toNat,told:=u,by_:=v }:=by
  have hu:=w.una
  have hn:=w.nxt
  obtain ⟨s,hs⟩:∃s:Seg,s=⟨b,a,Zv g x,Zv f k,fl,1000,0,d⟩:=⟨_,rfl⟩
  rw [←hs]
  have an:s.ans=Zv f k:=by rw [hs]
  have sw:s.win=1000:=by rw [hs]
  have sn:s.num=Zv g x:=by rw [hs]
  have ho:Zcx (qE a b f g q) s t=qE a b f g { q with una:=k,written:=q.written.drop (k-q.una).toNat }:=by
    unfold Zcx
    rw [an]
    by_cases c:k=q.una
    · rw [if_neg (by show ¬ZaY (Zv f k) (Zv f q.una)=true; rw [c,ZgD]; decide),c]
      simp
    · have kn:k=q.nxt:=hk.resolve_left c
      rw [if_pos (by show ZaY (Zv f k) (Zv f q.una)=true; rw [ZqX (by omega) (by omega)]; simp; omega),if_pos (by show Zv f k=Zv f q.nxt; rw [kn])]
      have oo:ZY (Zv f k) (qE a b f g q).una=k-q.una:=Zcn (by omega)
      rw [oo]
      rfl
  by_cases c:(ZaY s.ans (qE a b f g q).una || isNewer (qE a b f g { q with una:=k,written:=q.written.drop (k-q.una).toNat }) s)=true
  · refine ⟨x,k,.inr rfl,.inr rfl,?_⟩
    unfold zN
    simp only [ho]
    rw [if_neg (by rw [an]; show ¬ZaY (Zv f k) (Zv f k)=true; rw [ZgD]; decide),if_pos c]
    have tw:Zds (qE a b f g { q with una:=k,written:=q.written.drop (k-q.una).toNat }) s=qE a b f g { q with una:=k,written:=q.written.drop (k-q.una).toNat,told:=x,by_:=k }:=by
      unfold Zds
      rw [an,sw,sn]
      unfold qE
      simp only [hw]
    rw [tw,if_neg]
    show ¬(q.wnd=0∨q.wnd=0)
    rw [hw]; decide
  · refine ⟨q.told,q.by_,.inl rfl,.inl rfl,?_⟩
    unfold zN
    simp only [ho]
    rw [if_neg (by rw [an]; show ¬ZaY (Zv f k) (Zv f k)=true; rw [ZgD]; decide),if_neg c,if_neg]
    show ¬(q.wnd=0∨q.wnd=0)
    rw [hw]; decide
def Zl7 (q:Q) (t:Int):Q:=if q.beh<q.nxt∧q.una=q.nxt then (if q.st=.waitOne then { q with st:=.waitTwo } else if q.st=.closing then { q with st:=.timeWait,since:=t } else if q.st=.lastAck then { q with st:=.closed } else q) else q
theorem Zxj (w:WF q):Za7 (qE a b f g q) t=qE a b f g (Zl7 q t):=by
  have hu:=w.una
  have hn:=w.nxt
  unfold Za7 Zl7
  have c1:(Zfd (qE a b f g q)=false∨¬(qE a b f g q).una=(qE a b f g q).nxt)↔¬(q.beh<q.nxt∧q.una=q.nxt):=by
    have p:Zfd (qE a b f g q)=decide (0<q.nxt-q.beh):=by
      show ZaY (Zv f q.nxt) (Zv f q.beh)=_
      exact ZqX (by omega) (by omega)
    have u:(qE a b f g q).una=(qE a b f g q).nxt↔q.una=q.nxt:=ZdS (by omega)
    rw [p,u,decide_eq_false_iff_not]
    omega
  by_cases c:q.beh<q.nxt∧q.una=q.nxt
  · rw [if_neg (fun z=>c1.mp z c),if_pos c]
    have sh:(qE a b f g q).state=q.st:=rfl
    rw [sh]
    by_cases h1:q.st=.waitOne
    · rw [if_pos h1,if_pos h1]; rfl
    · rw [if_neg h1,if_neg h1]
      by_cases h2:q.st=.closing
      · rw [if_pos h2,if_pos h2]; rfl
      · rw [if_neg h2,if_neg h2]
        by_cases h3:q.st=.lastAck
        · rw [if_pos h3,if_pos h3]; rfl
        · rw [if_neg h3,if_neg h3]
  · rw [if_pos (c1.mpr c),if_neg c]
theorem Zja {x k fl:Int} {d:List Int} (w:WF q) (hst:¬q.st=.synCome) (hw:q.wnd=1000) (hk:k=q.una∨k=q.nxt):∃u v,(u=q.told∨u=x)∧(v=q.by_∨v=k)∧
    z8 (qE a b f g q) ⟨b,a,Zv g x,Zv f k,fl,1000,0,d⟩ t=(!decide ((Zl7 { q with una:=k,written:=q.written.drop (k-q.una).toNat,told:=u,by_:=v } t).st=.closed),qE a b f g (Zl7 { q with una:=k,written:=q.written.drop (k-q.una).toNat,told:=u,by_:=v } t)):=by
  have hu:=w.una
  have hn:=w.nxt
  obtain ⟨u,v,h1,h2,hh⟩:=Zou (a:=a) (b:=b) (f:=f) (g:=g) (t:=t) (x:=x) (fl:=fl) (d:=d) w hw hk
  refine ⟨u,v,h1,h2,?_⟩
  have w2:WF { q with una:=k,written:=q.written.drop (k-q.una).toNat,told:=u,by_:=v }:=by
    refine ⟨?_,?_,?_,w.wnd,w.most,w.come,fun z hz=>w.byt z (List.mem_of_mem_drop hz)⟩
    · show 0≤k∧k≤q.nxt; omega
    · exact w.nxt
    · show k≤q.beh→((q.written.drop (k-q.una).toNat).length:Int)=q.beh-k
      intro hb
      have:=w.wr (by omega)
      rw [List.length_drop]
      omega
  unfold z8
  rw [if_neg (show ¬(qE a b f g q).state=.synCome from hst),if_neg (by show ¬ZaY (Zv f k) (Zv f q.nxt)=true; rw [ZqX (by omega) (by omega)]; simp; omega),hh,Zxj w2]
  rfl
def Zvk (q:Q) (t:Int):Q:=if q.st=.opn then { q with rcv:=q.rcv+1,st:=.closeWait } else if q.st=.waitOne then { q with rcv:=q.rcv+1,st:=.closing } else { q with rcv:=q.rcv+1,st:=.timeWait,since:=t }
theorem ZoE {n W:Int} {x:List Int} {q':Q} (hst:q.st∈S3) (hx:x.length≤16) (hq:q.come.length≤63) (go:z8 (qE a b f g q) ⟨b,a,Zv g q.rcv,Zv f n,17,W,0,x⟩ t=(true,qE a b f g q')) (h1:q'.st∈S3) (h2:q'.fin=none) (h3:q'.rcv=q.rcv) (h4:q'.come.length+x.length≤63) :
    ZbQ (qE a b f g q) ⟨b,a,Zv g q.rcv,Zv f n,17,W,0,x⟩ t=qE a b f g (Zvk (qIn q' (q.rcv+x.length) x true) t):=by
  have hs:=S3.cases hst
  have hs':=S3.cases h1
  obtain ⟨s,hsg⟩:∃s:Seg,s=⟨b,a,Zv g q.rcv,Zv f n,17,W,0,x⟩:=⟨_,rfl⟩
  have b4:bears s 4=false:=by rw [hsg]; simp
  have b2:bears s 2=false:=by rw [hsg]; simp
  have b16:bears s 16=true:=by rw [hsg]; simp
  have b1:bears s 1=true:=by rw [hsg]; simp
  have nr:s.num=(qE a b f g q).rcv:=by rw [hsg]; rfl
  have cm:(qE a b f g q).come=q.come:=rfl
  have ft:ZcX (qE a b f g q) s=true:=by
    unfold ZcX inWin ZR
    rw [nr,cm,ZhR]
    have:(q.come.length:Int)<64:=by omega
    simp [this]
  rw [←hsg] at go ⊢
  rw [ZjU (show (qE a b f g q).state∉_ by show q.st∉_; rcases hs with h | h | h<;>rw [h]<;>decide) ft b4 b2 b16,go]
  simp only [if_true]
  unfold Zat
  have sh:(qE a b f g q').state=q'.st:=rfl
  have sda:s.data=x:=by rw [hsg]
  have fn:(qE a b f g q').early_fin=none:=by show q'.fin.map _=none; rw [h2]; rfl
  have stm:=ZeC (e:=qE a b f g q') (s:=s) (by rw [sda]; exact hx) (by rw [nr]; show Zv g q.rcv=Zv g q'.rcv; rw [h3]) (ZaJ _ _) rfl fn (by rw [sda,b1]; show q'.come.length+x.length+_≤64; simp; omega)
  rw [if_pos (by rw [sh]; rcases hs' with h | h | h<;>simp [h]),stm,b1,sda]
  have rr:Zv (qE a b f g q').rcv (x.length:Int)=Zv g (q.rcv+x.length):=by
    show Zv (Zv g q'.rcv) _=_
    rw [ZaK,h3]
  rw [rr]
  simp only [if_true,Bool.or_true]
  unfold Zgg Zvk
  simp only [sh]
  have qs:(qIn q' (q.rcv+x.length) x true).st=q'.st:=rfl
  rw [qs]
  rcases hs' with h | h | h<;>rw [h]<;>simp [qIn,qE,h3,ZaK]
theorem ZoF {m n W:Int} {x:List Int} (hst:q.st∈[State.closeWait,.closing,.lastAck,.timeWait]) (hr:m+x.length+1≤q.rcv∧0≤m∧q.rcv<1000000) :
    ZbQ (qE a b f g q) ⟨b,a,Zv g m,Zv f n,17,W,0,x⟩ t=qE a b f g (if q.st=.timeWait then { q with oa:=true,since:=t } else { q with oa:=true }):=by
  obtain ⟨s,hsg⟩:∃s:Seg,s=⟨b,a,Zv g m,Zv f n,17,W,0,x⟩:=⟨_,rfl⟩
  have b4:bears s 4=false:=by rw [hsg]; simp
  have ls:Zht s=x.length+1:=by rw [hsg]; simp [Zht]
  have i1:inWin (qE a b f g q) s.num=false:=by
    unfold inWin
    have:ZY s.num (qE a b f g q).rcv=m-q.rcv:=by rw [hsg]; exact Zcn (by omega)
    rw [this]
    simp; intro h; omega
  have i2:inWin (qE a b f g q) (Zv s.num (Zht s-1))=false:=by
    unfold inWin
    have:ZY (Zv s.num (Zht s-1)) (qE a b f g q).rcv=m+x.length-q.rcv:=by
      rw [ls,hsg]
      show ZY (Zv (Zv g m) _) (Zv g q.rcv)=_
      rw [ZaK]
      have e:m+((x.length:Int)+1-1)=m+x.length:=by omega
      rw [e]
      exact Zcn (by omega)
    rw [this]
    simp; intro h; omega
  have ft:ZcX (qE a b f g q) s=false:=by
    unfold ZcX
    rw [if_neg (by rw [ls]; omega),i1,i2]; rfl
  have hs:q.st=.closeWait∨q.st=.closing∨q.st=.lastAck∨q.st=.timeWait:=by simpa using hst
  rw [←hsg,ZrG (by show q.st∉_; rcases hs with h | h | h | h<;>rw [h]<;>decide)]
  unfold Zae ZdN
  rw [if_pos ft,if_neg (by rw [b4]; decide)]
  have sh:(qE a b f g q).state=q.st:=rfl
  rw [sh]
  by_cases c:q.st=.timeWait
  · rw [if_pos c,if_pos c]; rfl
  · rw [if_neg c,if_neg c,if_neg (by rcases hs with h | h | h | h<;>rw [h]<;>simp)]; rfl
theorem ZoD {n W:Int} {q':Q} {o:Bool} (hst:q.st∈[State.closeWait,.closing,.lastAck,.timeWait]) (go:z8 (qE a b f g q) ⟨b,a,Zv g q.rcv,Zv f n,16,W,0,[]⟩ t=(o,qE a b f g q')) (h1:o=true→q'.st∉S3) :
    ZbQ (qE a b f g q) ⟨b,a,Zv g q.rcv,Zv f n,16,W,0,[]⟩ t=qE a b f g q':=by
  have hs:q.st=.closeWait∨q.st=.closing∨q.st=.lastAck∨q.st=.timeWait:=by simpa using hst
  obtain ⟨s,hsg⟩:∃s:Seg,s=⟨b,a,Zv g q.rcv,Zv f n,16,W,0,[]⟩:=⟨_,rfl⟩
  have b4:bears s 4=false:=by rw [hsg]; simp
  have b2:bears s 2=false:=by rw [hsg]; simp
  have b16:bears s 16=true:=by rw [hsg]; simp
  have nr:s.num=(qE a b f g q).rcv:=by rw [hsg]; rfl
  have ls:Zht s=0:=by rw [hsg]; simp [Zht]
  have ft:ZcX (qE a b f g q) s=true:=by
    unfold ZcX
    rw [if_pos ls,nr,ZhR]; rfl
  rw [←hsg] at go ⊢
  rw [ZjU (show (qE a b f g q).state∉_ by show q.st∉_; rcases hs with h | h | h | h<;>rw [h]<;>decide) ft b4 b2 b16,go]
  cases o with
  | false=>rfl
  | true=>
    simp only [if_true]
    unfold Zat
    have:=h1 rfl
    simp only [List.mem_cons,List.not_mem_nil,or_false,not_or] at this
    rw [if_neg]
    show ¬(q'.st=.opn∨q'.st=.waitOne∨q'.st=.waitTwo)
    exact fun z=>z.elim this.1 fun z=>z.elim this.2.1 this.2.2
end
end
end My
namespace PySem.W.Fast
def tw1677140217989562528:=0
def tw2589253050178618560:=0
def tw13579345171280853184:=0
def tw8904796314915116256:=0
def tw1006274185423857920:=0
def tw960250498462459168:=0
def tw7271528104028383616:=0
def tw14012066952356442528:=0
def tw6860130145275795872:=0
def tw6948648567908058560:=0
def tw2700868768735903200:=0
def tw16086502075131437568:=0
def tw5452928295509183040:=0
def tw16767139235212103296:=0
def tw18295698874436162176:=0
def tw9108489501051178624:=0
def tw11804655663325598400:=0
def tw8510658698737314496:=0
def tw7649697882802638656:=0
def tw9093453548040383296:=0
def tw17763950656414054208:=0
def tw5194357420459438944:=0
def tw152404568752137088:=0
def tw1266515327073187712:=0
def tw851746530284238752:=0
def tw7649757907969939392:=0
def tw8161727297006502880:=0
def tw13640269770926534624:=0
def tw1514013877583100896:=0
def tw14701343202212465632:=0
def tw6558243951743684705:=0
def tw8628945414975142017:=0
def tw648502125179475105:=0
def tw4377398874122097825:=0
def tw16487292044466895073:=0
def tw7470964892759984385:=0
def tw2591831879400588641:=0
def tw17750382921776666977:=0
def tw11376881425931543905:=0
def tw15805199636204228993:=0
def tw12488294758608416193:=0
def tw11968905305221271009:=0
def tw12347076800610892257:=0
def tw17229668841256229409:=0
def tw3850433599063196321:=0
def tw2558085269968933537:=0
def tw15620752482913942209:=0
def tw14239881782919446369:=0
def tw18340793239587647361:=0
def tw18060708774670522305:=0
def tw6739174999934647298:=0
def tw4218856054034252866:=0
def tw9428457234053238914:=0
def tw13068856161821307010:=0
def tw11353416266280417506:=0
def tw10721945163229363458:=0
def tw18186182022433031586:=0
def tw10417800808172277186:=0
def tw16614822055211497986:=0
def tw1711668241589612066:=0
def tw14204222210860875298:=0
def tw1193523422672544322:=0
def tw2094029209330042498:=0
def tw7811584752608964226:=0
def tw13294540894810212098:=0
def tw16782998371967988482:=0
def tw1609931069682629410:=0
def tw5951567310007527202:=0
def tw16134142212179963778:=0
def tw16106291822035030914:=0
def tw5069795553701536674:=0
def tw15328569652720744451:=0
def tw4422616394165480451:=0
def tw3185106384529590371:=0
def tw12727573093081386083:=0
def tw3289280130600721507:=0
def tw197634421767220355:=0
def tw119951930380015779:=0
def tw2325480169904993443:=0
def tw3193972324987069635:=0
def tw6095373538577305827:=0
def tw14919501366407901411:=0
def tw5730297641583550723:=0
def tw12305900069295582499:=0
def tw7179463691780342115:=0
def tw8528717130178786787:=0
def tw3115442747702630947:=0
def tw14157264467740910115:=0
def tw2937549434365792899:=0
def tw13740756419951550115:=0
def tw4622809243971043011:=0
def tw7143620559610600131:=0
def tw4348523433354821315:=0
def tw9169842338091408099:=0
def tw17168709940725134051:=0
def tw1171536881005395683:=0
def tw1904109493906424579:=0
def tw13237727693336056707:=0
def tw17028620602429257667:=0
def tw87182308721970147:=0
def tw17888382931775623204:=0
def tw10422206038788551748:=0
def tw14991695600014679140:=0
def tw9439994871582667908:=0
def tw537953867080665252:=0
def tw9809541244350075044:=0
def tw10457946393294123204:=0
def tw1893843697936674052:=0
def tw7128055699247539492:=0
def tw399971489622602020:=0
def tw5790799294579294500:=0
def tw694341018871436612:=0
def tw4019657734397074756:=0
def tw6122709048787079556:=0
def tw13760180493906514372:=0
def tw8668233330094490116:=0
def tw9772182521187508804:=0
def tw9213993662586819172:=0
def tw14282708294739945124:=0
def tw1714167495373772484:=0
def tw8064319590496147172:=0
def tw3936584692204174052:=0
def tw10206169389748633380:=0
def tw2801581466457591780:=0
def tw5241075427061292101:=0
def tw2155762710773626949:=0
def tw2908197021245413477:=0
def tw12501594181595379845:=0
def tw16019092183099445413:=0
def tw6346159108888438949:=0
def tw10891019306498441541:=0
def tw16545482194889958757:=0
def tw1994466746839873957:=0
def tw13253218128045985253:=0
def tw11212146925085825541:=0
def tw5263728338210153989:=0
def tw17530222208670930469:=0
def tw6316262320232667685:=0
def tw18112954500864456261:=0
def tw16637956200713633349:=0
def tw18428391313447023205:=0
def tw13529485110370337445:=0
def tw12780147434717611717:=0
def tw1196963167136390917:=0
def tw900443948502938405:=0
def tw6453735403210048453:=0
def tw18010716819002773445:=0
def tw6001396648602075077:=0
def tw10182266893658759141:=0
def tw57241110584344614:=0
def tw6580546182394828870:=0
def tw16064251841980469350:=0
def tw16113860864629580902:=0
def tw17884069616938157190:=0
def tw2649393892905716870:=0
def tw17915021433095754886:=0
def tw1690280632399873190:=0
def tw2696063491935795366:=0
def tw10822761724257337542:=0
def tw830383475159111942:=0
def tw13595819521359387910:=0
def tw2964170498069247238:=0
def tw15066423535778235750:=0
def tw1346264182100710758:=0
def tw2288578022892508550:=0
def tw17699924762506304006:=0
def tw10166457824580257318:=0
def tw13487580166740381318:=0
def tw9863600385638611686:=0
def tw4365653998727049990:=0
def tw16034686385945721606:=0
def tw1426803831704059686:=0
def tw14129861731008869190:=0
def tw2896671256610294630:=0
def tw2545422799160764326:=0
def tw14814210757786548231:=0
def tw8388139437918221351:=0
def tw3215127117841903719:=0
def tw13771256272874784903:=0
def tw6316013755024406663:=0
def tw5394371712614536391:=0
def tw14974676366630013159:=0
def tw7113316436440936679:=0
def tw2824816276186180903:=0
def tw9967020476838196519:=0
def tw12229318122717378887:=0
def tw16274642079469145511:=0
def tw5650855560922582439:=0
def tw1769629489430079975:=0
def tw4376443030181194215:=0
def tw6712297145066357255:=0
def tw5341440874484711943:=0
def tw6145495287834663431:=0
def tw6766802752515352103:=0
def tw7905847684899526183:=0
def tw12580383516176897671:=0
def tw1589206416866154151:=0
def tw12281358479393658535:=0
def tw3521451938363081415:=0
def tw16039404102545627975:=0
def tw7996307826955378599:=0
def tw12004654049426505736:=0
def tw15766259602985955336:=0
def tw7850596035414921256:=0
def tw7635528337372500040:=0
def tw207380108030569544:=0
def tw10074220384921037960:=0
def tw7444136659930874120:=0
def tw12174080002260145416:=0
def tw12399548463854299400:=0
def tw16497358512250066216:=0
def tw15892811895549281576:=0
def tw889596573765103912:=0
def tw5939186257510994248:=0
def tw8598047692706093480:=0
def tw2106439563244693992:=0
def tw2830902482233645640:=0
def tw10339842910805812808:=0
def tw16132659312654114408:=0
def tw1356803758820072072:=0
def tw5803570564484966056:=0
def tw301845770741131976:=0
def tw3701469700934505224:=0
def tw17101622088246007560:=0
def tw16412648386732024616:=0
def tw364691707858003784:=0
def tw10089754683903505288:=0
def tw11111565126246828073:=0
def tw1566976459009087593:=0
def tw14755910999607179401:=0
def tw17854104346058369257:=0
def tw13131363157678151945:=0
def tw13989896944033837353:=0
def tw10726196988047578473:=0
def tw11461257846272336297:=0
def tw14173177689680598441:=0
def tw8367562904359829961:=0
def tw156672580300501449:=0
def tw4049401681851949545:=0
def tw8041571615070593545:=0
def tw2120070894152563241:=0
def tw3521439287373568649:=0
def tw4974519640283258505:=0
def tw9355973018698104489:=0
def tw10846856026631717545:=0
def tw2950247221761031881:=0
def tw9428180030386164457:=0
def tw9284017852265244521:=0
def tw10124827817003038569:=0
def tw2431107674858955657:=0
def tw15568974309469579145:=0
def tw5535485303729299369:=0
def tw7461813353738088425:=0
def tw927778323082359785:=0
def tw3445375857911678953:=0
def tw9612715330690906122:=0
def tw11276821778899093642:=0
def tw17871978184364437738:=0
def tw12330299363210964234:=0
def tw13717255571399624970:=0
def tw5785634557400602890:=0
def tw4626934757511203114:=0
def tw12454820449599630858:=0
def tw5227163840864301578:=0
def tw88692552472017418:=0
def tw10656736970248281610:=0
def tw11582986788262489674:=0
def tw14087838614151778890:=0
def tw2719257164503831114:=0
def tw15705247074909624938:=0
def tw3754320903632725610:=0
def tw6758219638317733482:=0
def tw6328503856545292906:=0
def tw6232876068501090954:=0
def tw9243037695220161194:=0
def tw10696570448196984490:=0
def tw15269274289899283146:=0
def tw6281142346235161322:=0
def tw6950185559667751786:=0
def tw3269881545828603786:=0
def tw13256672649223864202:=0
def tw17304101239471830954:=0
def tw1944203132317385674:=0
def tw10628186321434215402:=0
def tw14556934981569347595:=0
def tw14678145531973486667:=0
def tw10308505932101571659:=0
def tw10920679055284499563:=0
def tw13415587800678219979:=0
def tw3861498503284496715:=0
def tw6181512496484403531:=0
def tw16335193746066396491:=0
def tw17771896406073729419:=0
def tw5163210707212375499:=0
def tw8809875745036228043:=0
def tw4643014379488323051:=0
def tw1899919018986365419:=0
def tw7856135031282584075:=0
def tw1182362278075316779:=0
def tw11374961314220767851:=0
def tw9427283669411302091:=0
def tw6118595972678935435:=0
def tw13459138581166781355:=0
def tw5805246417550254059:=0
def tw12343498981603735564:=0
def tw2797313274879135820:=0
def tw14176471330760205420:=0
def tw1106423705549974668:=0
def tw14752898828343486668:=0
def tw7889795076397332684:=0
def tw5728303406046126316:=0
def tw17545129005285971212:=0
def tw9141130020106849644:=0
def tw10216832636070629900:=0
def tw3934670716964743852:=0
def tw18101146052407011084:=0
def tw7871299228100705036:=0
def tw7716596869800595244:=0
def tw8345879575311409964:=0
def tw9687184591934237644:=0
def tw10776421914493970477:=0
def tw1823722656229561517:=0
def tw2487872108685608269:=0
def tw9297937683613341005:=0
def tw16003810092472328525:=0
def tw11153469545722977741:=0
def tw12692320548990954989:=0
def tw15984796813627215373:=0
def tw16837949411298199117:=0
def tw562606648078199373:=0
def tw15846685580141430445:=0
def tw2378025662815066797:=0
def tw1901464396410605261:=0
def tw14388616653281707789:=0
def tw631661055390976813:=0
def tw7908999211574452013:=0
def tw16144946176614987565:=0
def tw1248833389161252717:=0
def tw13477276364359543757:=0
def tw5989887693541145581:=0
def tw854924256048960526:=0
def tw3366987298564969582:=0
def tw18262162264837952622:=0
def tw209420226214664302:=0
def tw8235261249141463150:=0
def tw6165169257390961774:=0
def tw16995652720520027374:=0
def tw6654912774767692110:=0
def tw13883048307845979470:=0
def tw1375667398486714734:=0
def tw5744214991928530318:=0
def tw3199325826239562158:=0
def tw10895749656139167150:=0
def tw6784068807487828430:=0
def tw4111257333280166350:=0
def tw15299418228391422478:=0
def tw2493186884693181966:=0
def tw8600723491159748142:=0
def tw4578311990185214574:=0
def tw3141940913606814318:=0
def tw4787140795782753966:=0
def tw11981582753612865294:=0
def tw3842750827264240398:=0
def tw1019709311922425710:=0
def tw15018760078996848494:=0
def tw15883811005771490190:=0
def tw3696079733888548750:=0
def tw10126134843525486510:=0
def tw4270692444764812238:=0
def tw6609377542584804334:=0
def tw611026333825302543:=0
def tw14278947465236193295:=0
def tw15778972395758334991:=0
def tw1150154215453805583:=0
def tw12701397868231253039:=0
def tw394930403040418863:=0
def tw13935080809273876527:=0
def tw7173425632115913775:=0
def tw9220745815442913359:=0
def tw5116190885626779759:=0
def tw4251889841337282671:=0
def tw13472302180025393295:=0
def tw12813373830566773999:=0
def tw8988331744817388847:=0
def tw15784557315747797327:=0
def tw15215463137301650767:=0
def tw10135312778044915055:=0
def tw16323947200056679791:=0
def tw5766087694695990671:=0
def tw11669167982742965711:=0
def tw5446432903881812431:=0
def tw10457473965797251631:=0
def tw9414397888813335119:=0
def tw16013999405939393103:=0
def tw2416533185395168847:=0
def tw13676595704796165711:=0
def tw1040855756458952399:=0
def tw15144212779291452111:=0
def tw7474876476716012239:=0
def tw8198703987084066511:=0
def tw13477950739277951727:=0
def tw4182340788680949487:=0
def tw4413988637916986159:=0
def tw275949733843981135:=0
def tw8559053246709298095:=0
def tw5749710497009079247:=0
def tw11160947354974003151:=0
def tw1889055597903432655:=0
def tw11315484192746476560:=0
def tw16339938242655697936:=0
def tw9720553920038117424:=0
def tw11604741920706018352:=0
def tw16709104980409894096:=0
def tw18326560697758209232:=0
def tw11227815590004650320:=0
def tw13140587957137495504:=0
def tw14114629122854934064:=0
def tw1480272388376617520:=0
def tw11581408739439852112:=0
def tw14974830108472491760:=0
def tw16477032962982735600:=0
def tw806606334700376880:=0
def tw14653464208785453904:=0
def tw6275350116369047569:=0
def tw235689987347495953:=0
def tw14618909622562091057:=0
def tw11400696183337321617:=0
def tw14134253997075069073:=0
def tw5045894344551257265:=0
def tw7510768633214703825:=0
def tw11044186234679828689:=0
def tw1011511945098817745:=0
def tw14635555446932158705:=0
def tw9514681385297854705:=0
def tw207348147062125905:=0
def tw2823649399322239313:=0
def tw14291829900393231729:=0
def tw18354154857412168081:=0
def tw6936755407747811857:=0
def tw14305838899866627601:=0
def tw17547846141069921905:=0
def tw11675197120273443505:=0
def tw1878950528524037841:=0
def tw2497397534723725009:=0
def tw8111506520620078929:=0
def tw7854179206567552849:=0
def tw1443238945626478449:=0
def tw11143768563866510354:=0
def tw2107638473619212338:=0
def tw54384953807278258:=0
def tw11889311976733027506:=0
def tw9572143959975603410:=0
def tw17994680848983027922:=0
def tw2945573134213327122:=0
def tw8358552850527138226:=0
def tw13703486233000409522:=0
def tw14378405796219390418:=0
def tw17018027399379778034:=0
def tw5396021721561665042:=0
def tw16541750292208278034:=0
def tw14087519214163509970:=0
def tw1417030752909927154:=0
def tw15032315128734043922:=0
def tw9410049910432271186:=0
def tw10067895045337711570:=0
def tw2432637682349701106:=0
def tw1203072001154902195:=0
def tw6201140236287467795:=0
def tw1238764374213061971:=0
def tw8541642465292813715:=0
def tw13053488197648684499:=0
def tw13076495968595123667:=0
def tw2036856749450809811:=0
def tw7914589802001848851:=0
def tw11323113256867104371:=0
def tw9353672476836103891:=0
def tw5491710071508801267:=0
def tw9742642664763760467:=0
def tw8119247576557314899:=0
def tw3560341239509832563:=0
def tw3813255123543755699:=0
def tw11945463362085362643:=0
def tw13902942657148777427:=0
def tw17667505110901445652:=0
def tw15951870793607617588:=0
def tw1002983018735044692:=0
def tw5919607857250211988:=0
def tw10491497979671730388:=0
def tw15805093969287440596:=0
def tw14970018873365956852:=0
def tw16675893591774042356:=0
def tw17170867791622284532:=0
def tw14435210242785298836:=0
def tw7691397708056316340:=0
def tw14551474318042333652:=0
def tw5370148594669350388:=0
def tw1325413573116521012:=0
def tw16692487630251485748:=0
def tw3727967572004314708:=0
def tw2069007550825845364:=0
def tw2378539169366840020:=0
def tw6986180245544961780:=0
def tw535140246585763572:=0
def tw13272761571791296308:=0
def tw7345024188781187924:=0
def tw51030516424136532:=0
def tw16058426859086781300:=0
def tw16823535889159527316:=0
def tw10243838923387198420:=0
def tw6268721171555182548:=0
def tw16693604090501276660:=0
def tw8312070703261134869:=0
def tw4601725993078311989:=0
def tw1982225476620621941:=0
def tw6685155821743188085:=0
def tw9188189134935301301:=0
def tw18100106062542547189:=0
def tw8231854705354062133:=0
def tw8632246338504830293:=0
def tw14924497227797291381:=0
def tw15879799095348818325:=0
def tw7006933094686970293:=0
def tw11999699024118186709:=0
def tw18392229758702776053:=0
def tw12926324538229584693:=0
def tw11271024856928840533:=0
def tw1269280834797673333:=0
def tw16286077898051919733:=0
def tw3250539617627590549:=0
def tw17473496020351836053:=0
def tw5201227495058767829:=0
def tw14334325576783247382:=0
def tw8462826565879825462:=0
def tw8199747603755143222:=0
def tw52332993235563574:=0
def tw8173908395790003318:=0
def tw17119232119644481718:=0
def tw17578740651981837526:=0
def tw9625666803179843830:=0
def tw18300024377067733270:=0
def tw1766619951574879542:=0
def tw9552823172027524438:=0
def tw2555475951098738038:=0
def tw13379145891841547702:=0
def tw4825925711385836982:=0
def tw269089854356549078:=0
def tw7883087891241649750:=0
def tw1881635246514130518:=0
def tw9556572817967866486:=0
def tw11501540123865121430:=0
def tw8697124966978486998:=0
def tw11660971014965575478:=0
def tw3126783902766866262:=0
def tw17326122457943404406:=0
def tw15270615019190355894:=0
def tw12918735221737126838:=0
def tw8423347301272612854:=0
def tw14460737710782726167:=0
def tw18117711774586227735:=0
def tw242350913252268119:=0
def tw17603973702720803959:=0
def tw5689911535009595543:=0
def tw6777446782703528119:=0
def tw11291803705895727351:=0
def tw6013064257668379959:=0
def tw10394784391961486679:=0
def tw5304989499524959671:=0
def tw10733986564159575511:=0
def tw8428259840686680535:=0
def tw4895750685941559799:=0
def tw1553058547234274807:=0
def tw11593745484550005335:=0
def tw8474132025371115159:=0
def tw4386429332514442935:=0
def tw10150663974748020407:=0
def tw4807785139440749271:=0
def tw11742475771176308471:=0
def tw4471552891905121047:=0
def tw8130822804377744183:=0
def tw2525131065641711447:=0
def tw2025216572047975351:=0
def tw6431947312437560279:=0
def tw11357181906026485751:=0
def tw3673225802331827224:=0
def tw10313543696725248088:=0
def tw18010735620739448952:=0
def tw5552157898476774520:=0
def tw2905674590669299864:=0
def tw10270312111498786968:=0
def tw502592830651368632:=0
def tw14440135794548880568:=0
def tw3829647804728655032:=0
def tw10332725680248387800:=0
def tw982584225221644568:=0
def tw11136399431379443992:=0
def tw2697261804756364568:=0
def tw10359464628142028152:=0
def tw1835461375080109528:=0
def tw10623695511563607576:=0
def tw12094987420641571352:=0
def tw5581625136193401368:=0
def tw12334678815381107320:=0
def tw15132270064785321592:=0
def tw6096702212099732088:=0
def tw8622329473996391064:=0
def tw17058083162823210648:=0
def tw12775777321288948376:=0
def tw9689834799858058968:=0
def tw7450622047957049240:=0
def tw18359119027207750648:=0
def tw10322277370830159864:=0
def tw1521387687743773721:=0
def tw1470797876147341433:=0
def tw2414206593017606265:=0
def tw12375646268671816825:=0
def tw6215265140956527769:=0
def tw17839049923224371417:=0
def tw16788487081969539417:=0
def tw2512871671694612857:=0
def tw7856404926943877497:=0
def tw4626492039617915321:=0
def tw4661104578476833209:=0
def tw4457055386475043385:=0
def tw1318387991155186233:=0
def tw13711755976477957689:=0
def tw4678495459259189849:=0
def tw5628348703613002329:=0
def tw11254438099718357625:=0
def tw6885677464419591801:=0
def tw9854960258011720313:=0
def tw15436983251394650841:=0
def tw714960831024507641:=0
def tw8077936984089508601:=0
def tw14971472932206431001:=0
def tw16194048149555189561:=0
def tw1273295547222691673:=0
def tw11610981988127708057:=0
def tw6880163924729288601:=0
def tw1930073523627300793:=0
def tw11627147169636445177:=0
def tw1988480048373742746:=0
def tw9844776075568586906:=0
def tw12349181749884033210:=0
def tw4152893835127797946:=0
def tw4623551873422837946:=0
def tw3120804937810638010:=0
def tw13797603777019956506:=0
def tw4890658677068444954:=0
def tw2873014766891731258:=0
def tw2956179945009356090:=0
def tw3199052460245184954:=0
def tw12483951538985181658:=0
def tw6047562398186134042:=0
def tw789774515339438714:=0
def tw10962945835436015226:=0
def tw14925421657712927386:=0
def tw3007244929343771290:=0
def tw6971894122438551226:=0
def tw7516977458091083482:=0
def tw8608581732182224634:=0
def tw257263515244503834:=0
def tw1078624365010398010:=0
def tw11130578536528857914:=0
def tw8337298248853961562:=0
def tw10240969810662939482:=0
def tw2453548164804504410:=0
def tw16968489070517157722:=0
def tw10650930027167087482:=0
def tw7847234141749948346:=0
def tw5113756020371050458:=0
def tw7528036387240606682:=0
def tw3423229661852027898:=0
def tw4106769403556583418:=0
def tw3038677634268118043:=0
def tw4341774330096010299:=0
def tw16905766967846545499:=0
def tw1577996341054679131:=0
def tw5589018370976777403:=0
def tw2665643169839440091:=0
def tw18045211370616773915:=0
def tw16297256958872453531:=0
def tw8022761614328957499:=0
def tw16441469640770603643:=0
def tw1333406123466422907:=0
def tw2595616964395156123:=0
def tw8493683871229264571:=0
def tw9001113716843735739:=0
def tw14335807158281355003:=0
def tw8420754162965881659:=0
def tw2302435022631578427:=0
def tw1044338856021590875:=0
def tw18442855583778989947:=0
def tw2874723152231688091:=0
def tw13282848795586603995:=0
def tw6663153047716039675:=0
def tw5127281601566515195:=0
def tw18307720235085742075:=0
def tw15479144904843282427:=0
def tw11515678766802349084:=0
def tw9876801565933239356:=0
def tw2454598699807813724:=0
def tw13635016740717842524:=0
def tw9556482272206489788:=0
def tw16260508590833208508:=0
def tw16890339813225504988:=0
def tw5962416323284527324:=0
def tw14675866022934282556:=0
def tw1952644565807037820:=0
def tw10242236989613086108:=0
def tw5928170338218166684:=0
def tw15199019727714158012:=0
def tw11261918069771774396:=0
def tw3560848454101274076:=0
def tw1898582861829052988:=0
def tw12464947756444407388:=0
def tw979184226218572380:=0
def tw7606047109954849404:=0
def tw5670069823820133020:=0
def tw11410473924268463868:=0
def tw11230219618522775324:=0
def tw784036364688234332:=0
def tw2260553750414941052:=0
def tw16010313457072499580:=0
def tw8291240950826529660:=0
def tw9426582867533642716:=0
def tw10797865223349038076:=0
def tw12207081526880071773:=0
def tw15040688872227026045:=0
def tw5245720001167891613:=0
def tw6081303847286002909:=0
def tw11505061786497557757:=0
def tw9830648651784493341:=0
def tw15385210728117837085:=0
def tw7106680061956635965:=0
def tw7907154560851953981:=0
def tw10945944635342263645:=0
def tw507034097014369661:=0
def tw2910871494686883229:=0
def tw12268341213949291965:=0
def tw9746596084195323325:=0
def tw998772032532998653:=0
def tw7874506336681782813:=0
def tw14103387761339667005:=0
def tw34282499488227933:=0
def tw13936389311496738397:=0
def tw18281817557091622589:=0
def tw16968538332512276157:=0
def tw4665721191999126237:=0
def tw2474215951048963805:=0
def tw3288159472829265725:=0
def tw2986350003758691165:=0
def tw8984645096114848637:=0
def tw11424050901773284253:=0
def tw5187142058103744477:=0
def tw3166598010796727293:=0
def tw4935202606078487582:=0
def tw1916342692543705182:=0
def tw3760435784670871678:=0
def tw8159435411313715326:=0
def tw8150061121761975486:=0
def tw334938424016874718:=0
def tw17992469599187284254:=0
def tw4580197870810609950:=0
def tw3127783078764619070:=0
def tw18044894537391095102:=0
def tw1535698847132918110:=0
def tw12026313055394168222:=0
def tw7938620243077016062:=0
def tw9072334972588865086:=0
def tw587245424643063358:=0
def tw15563319240664176222:=0
def tw13449195688460890782:=0
def tw5468135513695319742:=0
def tw1862541108070133502:=0
def tw7501543131343434526:=0
def tw8991177542977574686:=0
def tw15646082528828916606:=0
def tw17384129266558134206:=0
def tw6711498459527869374:=0
def tw8162855334678231038:=0
def tw10666795905800044575:=0
def tw18378295905118834719:=0
def tw10936101550344227903:=0
def tw3982722323617874047:=0
def tw17757745786252501151:=0
def tw9649920118618870943:=0
def tw8761988835846630591:=0
def tw8391253288981183679:=0
def tw11824834675000873215:=0
def tw11518085460071253279:=0
def tw6814262013475075423:=0
def tw12263786114849889631:=0
def tw16252136004390176127:=0
def tw1229958115543044543:=0
def tw6904663742455608927:=0
def tw14007657405720813247:=0
def tw7575896793901711135:=0
def tw3558291110474530591:=0
def tw16988608550978708255:=0
def tw6188953131030293375:=0
def tw12898502875086910335:=0
def tw913579035948113855:=0
def tw14624522045727862719:=0
def tw13990686431518481046:=0
end PySem.W.Fast
namespace My
open PySem L2 L2.MM
noncomputable section
def ZdG:SM:=(mIf (mOr (zL (Zd 1)) (ZK (mOp ZbX (Zd 0) (ZaO (Zc (mC (.str "open")) (Zc (mC (.str "close wait")) Zk)))))) (ZL (ZaO (Zc (mC (.bl false)) (Zc (Zd 0) Zk)))) ZM)
def Zfo:SM:=(Zs ZdG
  (ZL (ZaO (Zc (mC (.bl true)) (Zc (ZnD [("open","wait one"),("close wait","last ack")] (Zd 0)) Zk)))))
def Zcv:GM:=ZO 2 2 Zfo
def Zmp:SM:=(ZL (Zcg (mCB Zfw (Zc (Zd 0) (Zc (mC (.ty "bool")) Zk))) (mOp eqM (Zd 0) (Zd 1))))
def Zh7:GM:=ZO 2 2 Zmp
def ZfB:SM:=(ZL (Zh4 [("open","close wait"),("wait one","closing"),("wait two","time wait")] (Zd 0) (Zd 0)))
def ZcE:GM:=ZO 1 1 ZfB
def Zhh:SM:=(mIf (Zdg (zL (Zd 1))) (ZL (Zd 0)) ZM)
def Zjo:SM:=(Zs Zhh
  (ZL (Zh4 [("wait one","wait two"),("closing","time wait"),("last ack","closed")] (Zd 0) (Zd 0))))
def Zgb:GM:=ZO 2 2 Zjo
def Ze8:SM:=(mIf (ZK (mOp neM (mOp ixM (Zd 4) (mC (.int 3))) (Zd 1))) (ZL (mC (.bl false))) ZM)
def Zhi:SM:=(ZeA (mIn (Zd 3)) (gNm 4) Ze8)
def Zjq:SM:=(Zs (ZX 3 (mCB Zgc (Zc (mOp ixM (Zd 0) (mC (.int 0))) (Zc (mC (.int 5)) Zk))))
  (Zs Zhi
  (ZL (mOp eqM (mComp (mIn (Zd 3)) [] (mOp ixM (Zd 0) (mC (.int 4)))) (Zd 2)))))
def Zfi:GM:=ZO 3 5 Zjq
def Zjn:SM:=(mIf (Zdg (zL (mCB Zfi (Zc (Zd 1) (Zc (mOp ixM (Zd 1) (mC (.int 3))) (Zc (mOp ZbY (Zb0 (Zc (mC (.int 24)) Zk)) (mCB Zib (Zc (mOp gtM (mCB Zdr (Zc (Zd 3) Zk)) (mC (.int 0))) Zk))) Zk)))))) (ZL (mC (.bl false))) ZM)
def ZgT:SM:=(mIf (Zdg (zL (mCB Zh7 (Zc (mCB Zfe (Zc (Zd 2) Zk)) (Zc (mOp ixM (Zd 12) (mC (.int 0))) Zk))))) (ZL (mC (.bl false))) ZM)
def b_l_law_3:SM:=(mIf (ZK (mOp eqM (Zd 10) (mC (.int 0)))) (Zs (ZX 12 (mCB Zcv (Zc (Zd 5) (Zc (Zd 6) Zk))))
      (Zs ZgT
      (Zs (ZX 5 (mOp ixM (Zd 12) (mC (.int 1))))
      (Zs (ZX 6 (ZmO (Zd 6) (mOp ixM (Zd 12) (mC (.int 0)))))
      (ZX 11 (mOp ZbY (Zb0 (Zc (mC (.int 17)) Zk)) (mCB Zib (Zc (mOp ixM (Zd 12) (mC (.int 0))) Zk)))))))) ZM)
def Zbu:SM:=(mIf (ZfI (ZK (mOp eqM (Zd 10) (mC (.int 1)))) (ZK (mOp neM (Zd 5) (mC (.str "closed"))))) (Zs (ZX 13 (mCB Zc6 (Zc (mOp ixM (Zd 1) (mC (.int 1))) (Zc (mOp ixM (Zd 1) (mC (.int 3))) (Zc (mCB ZcO (Zc (mOp ixM (Zd 1) (mC (.int 2))) (Zc (Zd 8) Zk))) (Zc (mC (.int 17)) (Zc (mC (.int 1000)) (Zc (Zd 4) Zk))))))))
      (Zs (zG (mCB z6 (Zc (Zd 2) (Zc (mCB Zcw (Zc (Zd 13) Zk)) (Zc (mC (.int 5)) Zk)))))
      (Zs (ZX 5 (mCB ZcE (Zc (Zd 5) Zk)))
      (Zs (ZX 7 (mCB ZcO (Zc (mOp ixM (Zd 1) (mC (.int 3))) (Zc (mOp Z0 (mCB Zdr (Zc (Zd 4) Zk)) (mC (.int 1))) Zk))))
      (ZX 11 (Zb0 (Zc (mC (.int 16)) Zk))))))) ZM)
def Zct:SM:=(mIf (Zdg (zL (mCB Zfi (Zc (Zd 1) (Zc (Zd 7) (Zc (Zd 11) Zk)))))) (ZL (mC (.bl false))) ZM)
def ZaV:SM:=(mIf (ZfI (ZK (mOp eqM (Zd 10) (mC (.int 2)))) (ZK (mOp neM (Zd 5) (mC (.str "closed"))))) (Zs (ZX 8 (mOp Z0 (mCB Zdr (Zc (Zd 3) Zk)) (mCB Zib (Zc (Zd 6) Zk))))
      (Zs (ZX 13 (mCB Zc6 (Zc (mOp ixM (Zd 1) (mC (.int 1))) (Zc (Zd 7) (Zc (mCB ZcO (Zc (mOp ixM (Zd 1) (mC (.int 2))) (Zc (Zd 8) Zk))) (Zc (mC (.int 16)) (Zc (mC (.int 1000)) (Zc (Zb0 Zk) Zk))))))))
      (Zs (zG (mCB z6 (Zc (Zd 2) (Zc (mCB Zcw (Zc (Zd 13) Zk)) (Zc (mC (.int 5)) Zk)))))
      (ZX 5 (mCB Zgb (Zc (Zd 5) (Zc (Zd 6) Zk))))))) ZM)
def Zcs:SM:=(mIf (mOr (ZK (mOp neM (mCB ZfY (Zc (Zd 2) Zk)) (Zd 5))) (ZK (mOp neM (mCB Zf0 (Zc (Zd 2) Zk)) (mC (.str ""))))) (ZL (mC (.bl false))) ZM)
def Zjm:SM:=(ZeA (ZcW (Zc (mC (.int 9)) Zk)) (gNm 9) (Zs (ZX 10 (mOp Zbq (mCB Zb1 (Zc (Zd 0) (Zc (mOp Z0 (mC (.int 40)) (Zd 9)) Zk))) (mC (.int 4))))
    (Zs (ZX 11 (Zb0 Zk))
    (Zs b_l_law_3
    (Zs Zbu
    (Zs Zct
    (Zs ZaV
    Zcs)))))))
def Zn0:SM:=(Zs (ZX 1 (mCB ZdV (Zc (Zd 0) (Zc (mC (.int 0)) (Zc (mC (.int 1000)) (Zc (mC (.int 16)) Zk))))))
  (Zs (ZX 2 (mOp ixM (Zd 1) (mC (.int 0))))
  (Zs (ZX 3 (mComp (ZcW (Zc (mOp Zbq (mCB Zb1 (Zc (Zd 0) (Zc (mC (.int 11)) Zk))) (mC (.int 13))) Zk)) [0] (mOp Zbq (mCB Zb1 (Zc (Zd 1) (Zc (mOp Z0 (mC (.int 10)) (Zd 0)) Zk))) (mC (.int 256)))))
  (Zs (ZX 4 (mComp (ZcW (Zc (mOp Zbq (mCB Zb1 (Zc (Zd 0) (Zc (mC (.int 25)) Zk))) (mC (.int 13))) Zk)) [0] (mOp Zbq (mCB Zb1 (Zc (Zd 1) (Zc (mOp Z0 (mC (.int 24)) (Zd 0)) Zk))) (mC (.int 256)))))
  (Zs (zG (mCB Zd7 (Zc (Zd 2) (Zc (Zd 3) Zk))))
  (Zs Zjn
  (Zs (ZX 5 (mC (.str "open")))
  (Zs (ZX 6 (mC (.bl false)))
  (Zs (ZX 7 (mOp ixM (Zd 1) (mC (.int 3))))
  (Zs (ZX 8 (mC (.int 0)))
  (Zs Zjm
  (ZL (mOp eqM (mCB ZeH (Zc (Zd 2) (Zc (mC (.int 50)) Zk))) (mOp ixM (Zb0 (Zc (Zb0 Zk) (Zc (Zd 4) Zk))) (mCB Zib (Zc (mOp neM (Zd 7) (mOp ixM (Zd 1) (mC (.int 3)))) Zk))))))))))))))))
def ZnG:GM:=ZO 1 14 Zn0
section
variable {a b f g:Int} {ns:List Int} {B:Sto}
abbrev Zam (a b f g:Int):D:=.tup [.ref 0,.tup [.int a,.int b],.int (Zv f 1),.int (Zv g 1)]
@[simp] theorem Zz3 (kvs:List (Str×Str)) (fi:EM) (ρ:List Sl) (θ:Sto):ZnD kvs fi ρ θ=(fi ρ θ).bind fun y θ=>match y with
  | .str x=>match Zhm kvs x with
    | some s=>.ok (.str s) θ
    | none=>.bad
  | _=>.bad:=nr rfl
@[simp] theorem Zxw (kvs:List (Str×Str)) (fi ff:EM) (ρ:List Sl) (θ:Sto):Zh4 kvs fi ff ρ θ=(fi ρ θ).bind fun y θ=>(ff ρ θ).bind fun z θ=>match y with
  | .str x=>match Zhm kvs x with
    | some s=>.ok (.str s) θ
    | none=>.ok z θ
  | _=>.bad:=nr rfl
theorem Zni (x y:State):(x.s=y.s)↔(x=y):=State.inj x y
theorem ZfP (x:Str):Zhm [] x=none:=rfl
theorem Zfc (k v x:Str) (r:List (Str×Str)):Zhm ((k,v)::r) x=if k=x then some v else Zhm r x:=by
  unfold Zhm
  by_cases h:k=x<;>simp [List.find?_cons,h]
theorem Zw1 (x:Str) (θ:Sto):Zcv [.str x,.bl true] θ=.ok (.tup [.bl false,.str x]) θ:=by
  simp [Zcv,Zfo,ZdG]
theorem Zw2 (θ:Sto):Zcv [.str State.opn.s,.bl false] θ=.ok (.tup [.bl true,.str State.waitOne.s]) θ:=by
  simp [Zcv,Zfo,ZdG,Zfc,ZfP,Zni]
theorem Zw0 (θ:Sto):Zcv [.str State.closeWait.s,.bl false] θ=.ok (.tup [.bl true,.str State.lastAck.s]) θ:=by
  simp [Zcv,Zfo,ZdG,Zfc,ZfP,Zni]
def Zdi:State→State
  | .opn=>.closeWait | .waitOne=>.closing | .waitTwo=>.timeWait | s=>s
def Zgf:State→State
  | .waitOne=>.waitTwo | .closing=>.timeWait | .lastAck=>.closed | s=>s
theorem lfc (s:State) (θ:Sto):ZcE [.str s.s] θ=.ok (.str (Zdi s).s) θ:=by
  cases s<;>simp [ZcE,ZfB,Zfc,ZfP,Zni,Zdi]
theorem lhd (s:State) (c:Bool) (θ:Sto):Zgb [.str s.s,.bl c] θ=.ok (.str (if c=true then Zgf s else s).s) θ:=by
  cases c<;>cases s<;>simp [Zgb,Zjo,Zhh,Zfc,ZfP,Zni,Zgf]
theorem lsm (x y:Bool) (θ:Sto):Zh7 [.bl x,.bl y] θ=.ok (.bl (decide (x=y))) θ:=by
  cases x<;>cases y<;>simp [Zh7,Zmp,show isT Ty.bl "bool"=some true from rfl]
end
structure S23 where
  cl:Bool
  fc:Bool
  la:Bool
  hd:Int
  told:Int
  by_:Int
  since:Int
def Z5 (n:Int) (s:S23):State:=if s.cl=true then (if s.fc=true then (if s.hd=n+1 then (if s.la=true then .closed else .timeWait) else (if s.la=true then .lastAck else .closing)) else (if s.hd=n+1 then .waitTwo else .waitOne)) else (if s.fc=true then .closeWait else .opn)
def cN (c:Bool):Int:=if c=true then 1 else 0
def q23 (dat gv:List Int) (s:S23) (oa:Bool):Q:=⟨Z5 dat.length s,1+s.hd,1+dat.length+cN s.cl,1+dat.length,if s.fc=true then 2+gv.length else 1,s.told,s.by_,1000,16,dat.drop s.hd.toNat,if s.fc=true then gv else [],if s.fc=true then some (1+(gv.length:Int)) else none,s.cl,oa,false,s.since,1000,0⟩
structure Ok23 (n:Int) (s:S23):Prop where
  hd:s.hd=0∨s.hd=n∨(s.cl=true∧s.hd=n+1)
  la:s.la=true→s.cl=true∧s.fc=true
  since:0≤s.since∧s.since≤5
structure ZgW (dat gv:List Int):Prop where
  d:(∀z∈dat,0≤z∧z≤255)∧dat.length≤12
  g:(∀z∈gv,0≤z∧z≤255)∧gv.length≤12
section
variable {a b f g:Int} {dat gv:List Int} {s:S23} {oa:Bool}
theorem ZeU (c:Bool):(c=true∧cN c=1)∨(c=false∧cN c=0):=by cases c<;>simp [cN]
theorem Ok23.hd_in (h:Ok23 dat.length s):0≤s.hd∧s.hd≤dat.length+cN s.cl:=by
  have:=ZeU s.cl
  rcases h.hd with h | h | ⟨h1,h⟩
  · omega
  · omega
  · rw [h1]; simp [cN]; omega
theorem Zlt (i:ZgW dat gv) (h:Ok23 dat.length s):WF (q23 dat gv s oa):=by
  have hh:=h.hd_in
  have hc:=ZeU s.cl
  have h1:=i.d.2
  have h2:=i.g.2
  refine ⟨?_,?_,?_,?_,?_,?_,fun z hz=>i.d.1 z (List.mem_of_mem_drop hz)⟩
  · show 0≤1+s.hd∧1+s.hd≤1+dat.length+cN s.cl; omega
  · show 1+dat.length+cN s.cl≤1+dat.length+1∧(1+dat.length:Int)<1000000; omega
  · show 1+s.hd≤1+dat.length→((dat.drop s.hd.toNat).length:Int)=1+dat.length-(1+s.hd)
    intro _
    rw [List.length_drop]; omega
  · show (0:Int)≤1000∧(1000:Int)≤65535; omega
  · show (4:Int)≤16; omega
  · show (if s.fc=true then gv else []).length≤64
    split
    · omega
    · simp
theorem Zhx (n:Int) (s:S23):Z5 n s∈[State.closed,.timeWait,.lastAck,.closing,.waitTwo,.waitOne,.closeWait,.opn]:=by
  unfold Z5
  repeat' split
  all_goals simp
theorem ZrK (h:Ok23 dat.length s) (hn:¬Z5 dat.length s=.closed):CalmQ (q23 dat gv s oa) 5:=by
  have hs:=h.since
  have hi:=Zhx dat.length s
  refine ⟨?_,fun _=>?_,fun _=>?_⟩
  · show Z5 dat.length s∉_
    simp only [List.mem_cons,List.not_mem_nil,or_false,not_or] at hi ⊢
    rcases hi with h | h | h | h | h | h | h | h<;>rw [h] at hn ⊢<;>simp at hn ⊢
  · show 5-s.since<120000; omega
  · show 5-s.since<1000; omega
theorem ZA8 (n:Int) (s:S23) (h:Z5 n s∈[State.waitOne,.closing,.lastAck]):s.cl=true:=by
  unfold Z5 at h
  by_cases c:s.cl=true
  · exact c
  · rw [if_neg c] at h
    split at h<;>simp at h
theorem ZlO (h:Ok23 dat.length s):¬(Zey (q23 dat gv s oa)∨ZfC (q23 dat gv s oa)):=by
  have hc:=ZeU s.cl
  rintro (⟨_,z⟩ | ⟨z1,z⟩)
  · have:(1+dat.length+cN s.cl:Int)<1+dat.length:=z
    omega
  · have c:=ZA8 _ _ z1
    have:(1+dat.length+cN s.cl:Int)=1+dat.length:=z
    rw [c] at this
    simp only [cN,if_true] at this
    omega
theorem Zgh (i:ZgW dat gv) (h:Ok23 dat.length s):Gives 5 (qE a b f g (q23 dat gv s false)) [] (qE a b f g (q23 dat gv s false)):=by
  refine .nil ?_
  by_cases c:Z5 dat.length s=.closed
  · exact Zow rfl c
  · rw [ZnK (ZrK h c) (Zlt i h) (.inl (ZlO h)) rfl]; rfl
theorem Zvg (i:ZgW dat gv) (h:Ok23 dat.length s) (c:¬Z5 dat.length s=.closed) (ha:0≤a∧a≤65535) (hb:0≤b∧b≤65535):Gives 5 (qE a b f g (q23 dat gv s true)) [Zvw a b f g (q23 dat gv s true)] (qE a b f g (q23 dat gv s false)):=by
  refine .cons ?_ (Zts (Zlt i h) ha hb) (Zgh i h)
  rw [ZnK (ZrK h c) (Zlt i h) (.inl (ZlO h)) rfl]; rfl
def Zbv (n:Int) (s:S23):S23:={ s with cl:=true,la:=s.fc,since:=if s.hd=n then 5 else s.since }
theorem Zng (h:Ok23 dat.length s) (hc:s.cl=false):Ok23 dat.length (Zbv dat.length s):=by
  refine ⟨?_,fun z=>⟨rfl,z⟩,?_⟩
  · rcases h.hd with z | z | ⟨z,_⟩
    · exact .inl z
    · exact .inr (.inl z)
    · rw [hc] at z; cases z
  · have:=h.since
    show 0≤(if s.hd=dat.length then 5 else s.since)∧(if s.hd=(dat.length:Int) then 5 else s.since)≤5
    split<;>omega
theorem Ztj (h:Ok23 dat.length s) (hc:s.cl=false):ZeS (qE a b f g (q23 dat gv s false))=(true,qE a b f g { q23 dat gv s false with cl:=true,st:=if s.fc=true then .lastAck else .waitOne }):=by
  unfold ZeS
  have h1:(qE a b f g (q23 dat gv s false)).has_closed=s.cl:=rfl
  have h2:(qE a b f g (q23 dat gv s false)).state=Z5 dat.length s:=rfl
  rw [h1,h2,hc]
  unfold Z5
  rw [hc]
  cases hf:s.fc<;>simp [qE]
theorem Zsq (i:ZgW dat gv) (h:Ok23 dat.length s) (hc:s.cl=false) (ha:0≤a∧a≤65535) (hb:0≤b∧b≤65535) :
    Gives 5 (qE a b f g { q23 dat gv s false with cl:=true,st:=if s.fc=true then .lastAck else .waitOne }) [ZjS a b f g (q23 dat gv s false)] (qE a b f g (q23 dat gv (Zbv dat.length s) false)):=by
  have hh:=h.hd_in
  have hs:=h.since
  have h1:=i.d.2
  obtain ⟨q,hq⟩:∃q,q=({ q23 dat gv s false with cl:=true,st:=if s.fc=true then .lastAck else .waitOne }:Q):=⟨_,rfl⟩
  have w0:=Zlt (oa:=false) i h
  have w:WF q:=by rw [hq]; exact ⟨w0.una,w0.nxt,w0.wr,w0.wnd,w0.most,w0.come,w0.byt⟩
  have n0:cN s.cl=0:=by rw [hc]; rfl
  have c:CalmQ q 5:=by
    rw [hq]
    refine ⟨?_,fun z=>?_,fun _=>?_⟩
    · show (if s.fc=true then State.lastAck else State.waitOne)∉_
      split<;>decide
    · show 5-s.since<120000; omega
    · show 5-s.since<1000; omega
  have rm:0<room q:=by
    rw [hq]
    show (0:Int)<1000-(1+dat.length+cN s.cl-(1+s.hd))
    omega
  have mf:ZfC q:=by
    rw [hq]
    refine ⟨?_,?_⟩
    · show (if s.fc=true then State.lastAck else State.waitOne)∈_
      split<;>decide
    · show (1+dat.length+cN s.cl:Int)=1+dat.length; omega
  have e1:ZjS a b f g q=ZjS a b f g (q23 dat gv s false):=by rw [hq]; rfl
  have e2:ZlQ q 5=q23 dat gv (Zbv dat.length s) false:=by
    have st:Z5 dat.length (Zbv dat.length s)=if s.fc=true then .lastAck else .waitOne:=by
      have hn:¬s.hd=(dat.length:Int)+1:=by omega
      unfold Z5 Zbv
      cases hf:s.fc<;>simp [hn]
    unfold ZlQ sinceQ
    rw [hq]
    unfold q23
    rw [st]
    have c1:cN (Zbv dat.length s).cl=1:=rfl
    rw [c1,n0]
    by_cases hz:s.hd=dat.length
    · rw [if_pos (by show (1+dat.length+0:Int)=1+s.hd; omega)]
      simp [Zbv,hz]
    · rw [if_neg (by show ¬(1+dat.length+0:Int)=1+s.hd; omega)]
      simp [Zbv,hz]
  rw [←hq]
  have z:=Gives.cons (Zs6 (a:=a) (b:=b) (f:=f) (g:=g) c w rm mf) (Zvj w ha hb) (show Gives 5 (qE a b f g (ZlQ q 5)) [] (qE a b f g (ZlQ q 5)) by rw [e2]; exact Zgh i (Zng h hc))
  rw [e1,e2] at z
  exact z
theorem Zqv (n:Int) (s:S23) (hf:s.fc=false):Z5 n s∈S3:=by
  unfold Z5
  rw [hf]
  by_cases c:s.cl=true
  · rw [if_pos c,if_neg Bool.false_ne_true]; split<;>simp
  · rw [if_neg c,if_neg Bool.false_ne_true]; simp
theorem Zjw (n:Int) (s:S23) (hf:s.fc=true) (hn:¬Z5 n s=.closed):Z5 n s∈[State.closeWait,.closing,.lastAck,.timeWait]:=by
  unfold Z5 at hn ⊢
  rw [hf] at hn ⊢
  simp only [if_true] at hn ⊢
  by_cases c:s.cl=true
  · rw [if_pos c] at hn ⊢
    by_cases c2:s.hd=n+1
    · rw [if_pos c2] at hn ⊢
      split at hn
      · exact absurd rfl hn
      · rename_i h; rw [if_neg h]; simp
    · rw [if_neg c2]; split<;>simp
  · rw [if_neg c]; simp
def ZeQ (s:S23) (u v e:Int):S23:={ s with fc:=true,told:=u,by_:=v,since:=e }
theorem Zoy (i:ZgW dat gv) (h:Ok23 dat.length s) (hf:s.fc=false):∃u v e,Ok23 dat.length (ZeQ s u v e)∧ZbQ (qE a b f g (q23 dat gv s false)) ⟨b,a,Zv g 1,Zv f (1+s.hd),17,1000,0,gv⟩ 5=qE a b f g (q23 dat gv (ZeQ s u v e) true)∧Z5 dat.length (ZeQ s u v e)=Zdi (Z5 dat.length s):=by
  have hla:s.la=false:=by
    cases z:s.la with
    | false=>rfl
    | true=>have:=(h.la z).2; rw [hf] at this; cases this
  have hh:=h.hd_in
  have hc:=ZeU s.cl
  have w:=Zlt (oa:=false) i h
  have hst:=Zqv dat.length s hf
  have rc:(q23 dat gv s false).rcv=1:=by show (if s.fc=true then _ else (1:Int))=1; rw [hf]; rfl
  obtain ⟨u,v,_,_,go⟩:=Zja (a:=a) (b:=b) (f:=f) (g:=g) (t:=5) (x:=1) (k:=1+s.hd) (fl:=17) (d:=gv) w (by show ¬Z5 dat.length s=.synCome; intro z; rw [z] at hst; simp at hst) rfl (.inl rfl)
  obtain ⟨q',hq'⟩:∃q',q'=({ q23 dat gv s false with told:=u,by_:=v }:Q):=⟨_,rfl⟩
  have e0:({ q23 dat gv s false with una:=1+s.hd,written:=(q23 dat gv s false).written.drop (1+s.hd-(q23 dat gv s false).una).toNat,told:=u,by_:=v }:Q)=q':=by
    rw [hq']
    have:(1+s.hd-(q23 dat gv s false).una).toNat=0:=by show (1+s.hd-(1+s.hd)).toNat=0; omega
    rw [this]; rfl
  have e1:Zl7 q' 5=q':=by
    unfold Zl7
    split
    · rename_i z
      have z1:(1+dat.length:Int)<1+dat.length+cN s.cl∧1+s.hd=1+dat.length+cN s.cl:=by rw [hq'] at z; exact z
      have cl:s.cl=true:=hc.elim (fun h=>h.1) fun h=>by omega
      have st:q'.st=.waitTwo:=by
        rw [hq']
        show Z5 dat.length s=.waitTwo
        unfold Z5
        rw [if_pos cl,hf,if_neg Bool.false_ne_true,if_pos]
        rw [cl] at z1; simp [cN] at z1; omega
      rw [st]; simp
    · rfl
  rw [e0,e1] at go
  have s':q'.st=Z5 dat.length s:=by rw [hq']; rfl
  have nc:¬q'.st=.closed:=by rw [s']; intro z; rw [z] at hst; simp at hst
  rw [decide_eq_false nc] at go
  have h2:=i.g.2
  have cs:=ZoE (a:=a) (b:=b) (f:=f) (g:=g) (t:=5) (q:=q23 dat gv s false) (q':=q') (n:=1+s.hd) (W:=1000) (x:=gv) hst (by omega) (by show (if s.fc=true then gv else []).length≤63; rw [hf]; simp) (by rw [rc]; exact go) (by rw [s']; exact hst) (by rw [hq']; show (if s.fc=true then _ else none)=none; rw [hf]; rfl) (by rw [hq']) (by rw [hq']; show (if s.fc=true then gv else []).length+_≤63; rw [hf]; simp; omega)
  rw [rc] at cs
  refine ⟨u,v,if Z5 dat.length s=.waitTwo then 5 else s.since,⟨h.hd,fun z=>?_,?_⟩,?_,?_⟩
  · rw [show (ZeQ s u v _).la=s.la from rfl,hla] at z; cases z
  · have:=h.since
    show 0≤(if Z5 dat.length s=.waitTwo then 5 else s.since)∧(if Z5 dat.length s=.waitTwo then 5 else s.since)≤5
    split<;>omega
  · rw [cs]
    congr 1
    unfold Zvk
    have qs:(qIn q' (1+gv.length) gv true).st=Z5 dat.length s:=s'
    rw [qs]
    have key:Z5 dat.length (ZeQ s u v (if Z5 dat.length s=.waitTwo then 5 else s.since))=Zdi (Z5 dat.length s):=by
      unfold Z5 ZeQ
      simp only [hla,hf,Bool.false_eq_true,if_false,if_true]
      by_cases c:s.cl=true
      · by_cases c2:s.hd=(dat.length:Int)+1<;>simp [c,c2,Zdi]
      · simp [c,Zdi]
    have body:∀(x:State) (y:Int),Z5 dat.length (ZeQ s u v y)=x→({ qIn q' (1+gv.length) gv true with rcv:=(qIn q' (1+gv.length) gv true).rcv+1,st:=x,since:=y }:Q)=q23 dat gv (ZeQ s u v y) true:=by
      intro x y hx
      rw [hq']
      unfold q23 qIn
      rw [hx]
      simp only [hf,ZeQ]
      simp
      omega
    rcases S3.cases hst with z | z | z
    · rw [z] at key ⊢
      rw [if_pos rfl]
      simp only [reduceCtorEq,if_false] at key ⊢
      rw [←body .closeWait s.since (by rw [key]; rfl),hq']
      rfl
    · rw [z] at key ⊢
      simp only [reduceCtorEq,if_false,if_true] at key ⊢
      rw [←body .closing s.since (by rw [key]; rfl),hq']
      rfl
    · rw [z] at key ⊢
      simp only [reduceCtorEq,if_false,if_true] at key ⊢
      rw [←body .timeWait 5 (by rw [key]; rfl)]
  · unfold Z5 ZeQ
    simp only [hla,hf,Bool.false_eq_true,if_false,if_true]
    by_cases c:s.cl=true
    · by_cases c2:s.hd=(dat.length:Int)+1<;>simp [c,c2,Zdi]
    · simp [c,Zdi]
theorem Zoz (i:ZgW dat gv) (h:Ok23 dat.length s) (hf:s.fc=true) (hn:¬Z5 dat.length s=.closed):∃e,Ok23 dat.length { s with since:=e }∧ZbQ (qE a b f g (q23 dat gv s false)) ⟨b,a,Zv g 1,Zv f (1+s.hd),17,1000,0,gv⟩ 5=qE a b f g (q23 dat gv { s with since:=e } true)∧Z5 dat.length s=Zdi (Z5 dat.length s):=by
  have hst:=Zjw _ _ hf hn
  have h2:=i.g.2
  have rc:(q23 dat gv s false).rcv=2+gv.length:=by show (if s.fc=true then _ else (1:Int))=_; rw [hf]; rfl
  have cg:=ZoF (a:=a) (b:=b) (f:=f) (g:=g) (t:=5) (q:=q23 dat gv s false) (m:=1) (n:=1+s.hd) (W:=1000) (x:=gv) hst (by rw [rc]; omega)
  refine ⟨if Z5 dat.length s=.timeWait then 5 else s.since,⟨h.hd,h.la,?_⟩,?_,?_⟩
  · have:=h.since
    show 0≤(if Z5 dat.length s=.timeWait then 5 else s.since)∧(if Z5 dat.length s=.timeWait then 5 else s.since)≤5
    split<;>omega
  · rw [cg]
    congr 1
    have qs:(q23 dat gv s false).st=Z5 dat.length s:=rfl
    rw [qs]
    by_cases c:Z5 dat.length s=.timeWait
    · rw [if_pos c,if_pos c]; rfl
    · rw [if_neg c,if_neg c]; rfl
  · simp only [List.mem_cons,List.not_mem_nil,or_false] at hst
    rcases hst with z | z | z | z<;>rw [z]<;>rfl
def ZcY (n:Int) (s:S23) (u v e:Int):S23:={ s with hd:=n+cN s.cl,told:=u,by_:=v,since:=e }
theorem ZrY (n:Int) (s:S23) (u v e:Int) (hh:Ok23 n s):Z5 n (ZcY n s u v e)=if s.cl=true then Zgf (Z5 n s) else Z5 n s:=by
  unfold Z5 ZcY
  by_cases c:s.cl=true
  · have c1:cN s.cl=1:=by rw [c]; rfl
    simp only [c,c1,if_true]
    have:n+cN true=n+1:=rfl
    simp only [this,if_true]
    cases hf:s.fc<;>cases hl:s.la<;>by_cases c2:s.hd=n+1<;>simp [c2,Zgf]
  · have c0:s.cl=false:=by simpa using c
    simp [c0]
theorem ZoL (i:ZgW dat gv) (h:Ok23 dat.length s) (hn:¬Z5 dat.length s=.closed):∃u v e,Ok23 dat.length (ZcY dat.length s u v e)∧ZbQ (qE a b f g (q23 dat gv s false)) ⟨b,a,Zv g (q23 dat gv s false).rcv,Zv f (1+(dat.length+cN s.cl)),16,1000,0,[]⟩ 5=qE a b f g (q23 dat gv (ZcY dat.length s u v e) false):=by
  have hh:=h.hd_in
  have hc:=ZeU s.cl
  have w:=Zlt (oa:=false) i h
  obtain ⟨u,v,_,_,go⟩:=Zja (a:=a) (b:=b) (f:=f) (g:=g) (t:=5) (x:=(q23 dat gv s false).rcv) (k:=1+(dat.length+cN s.cl)) (fl:=16) (d:=[]) w (by show ¬Z5 dat.length s=.synCome; intro z; have:=Zhx dat.length s; rw [z] at this; simp at this) rfl (.inr (by show 1+((dat.length:Int)+cN s.cl)=1+dat.length+cN s.cl; omega))
  obtain ⟨q1,hq1⟩:∃q1,q1=({ q23 dat gv s false with una:=1+(dat.length+cN s.cl),written:=(q23 dat gv s false).written.drop (1+(dat.length+cN s.cl)-(q23 dat gv s false).una).toNat,told:=u,by_:=v }:Q):=⟨_,rfl⟩
  rw [←hq1] at go
  obtain ⟨e,he⟩:∃e:Int,e=if s.cl=true∧Z5 dat.length s=.closing then 5 else s.since:=⟨_,rfl⟩
  have wr:(dat.drop s.hd.toNat).drop (1+((dat.length:Int)+cN s.cl)-(1+s.hd)).toNat=dat.drop ((dat.length:Int)+cN s.cl).toNat:=by
    rw [List.drop_drop]
    congr 1
    omega
  have ok:Ok23 dat.length (ZcY dat.length s u v e):=by
    refine ⟨?_,h.la,?_⟩
    · show (dat.length:Int)+cN s.cl=0∨(dat.length:Int)+cN s.cl=dat.length∨(s.cl=true∧(dat.length:Int)+cN s.cl=dat.length+1)
      rcases hc with ⟨c1,c2⟩ | ⟨c1,c2⟩
      · exact .inr (.inr ⟨c1,by omega⟩)
      · exact .inr (.inl (by omega))
    · have:=h.since
      show 0≤e∧e≤5
      rw [he]; split<;>omega
  have key:=ZrY dat.length s u v e h
  have body:∀(x:State),Z5 dat.length (ZcY dat.length s u v e)=x→({ q1 with st:=x,since:=e }:Q)=q23 dat gv (ZcY dat.length s u v e) false:=by
    intro x hx
    rw [hq1]
    unfold q23
    rw [hx]
    show Q.mk _ _ _ _ _ _ _ _ _ ((dat.drop s.hd.toNat).drop (1+((dat.length:Int)+cN s.cl)-(1+s.hd)).toNat) _ _ _ _ _ _ _ _=_
    rw [wr]
    rfl
  have s1:q1.st=Z5 dat.length s:=by rw [hq1]; rfl
  have si:q1.since=s.since:=by rw [hq1]; rfl
  have en:Zl7 q1 5=q23 dat gv (ZcY dat.length s u v e) false:=by
    have cnd:(q1.beh<q1.nxt∧q1.una=q1.nxt)↔s.cl=true:=by
      rw [hq1]
      show ((1+dat.length:Int)<1+dat.length+cN s.cl∧1+((dat.length:Int)+cN s.cl)=1+dat.length+cN s.cl)↔_
      rcases hc with ⟨c1,c2⟩ | ⟨c1,c2⟩
      · rw [c2]; simp [c1]; omega
      · rw [c2]; simp [c1]
    unfold Zl7
    by_cases c:s.cl=true
    · rw [if_pos (cnd.mpr c)]
      rw [if_pos c] at key
      rw [s1]
      by_cases z1:Z5 dat.length s=.waitOne
      · have ee:e=s.since:=by rw [he,z1]; simp
        rw [if_pos z1,←body .waitTwo (by rw [key,z1]; rfl),ee,←si]
      · rw [if_neg z1]
        by_cases z2:Z5 dat.length s=.closing
        · have ee:e=5:=by rw [he,z2]; simp [c]
          rw [if_pos z2,←body .timeWait (by rw [key,z2]; rfl),ee]
        · have ee:e=s.since:=by rw [he]; simp [z2]
          rw [if_neg z2]
          by_cases z3:Z5 dat.length s=.lastAck
          · rw [if_pos z3,←body .closed (by rw [key,z3]; rfl),ee,←si]
          · rw [if_neg z3,←body (Z5 dat.length s) (by
              rw [key]
              have:=Zhx dat.length s
              simp only [List.mem_cons,List.not_mem_nil,or_false] at this
              rcases this with z | z | z | z | z | z | z | z<;>rw [z] at z1 z2 z3 ⊢<;>first | rfl | exact absurd rfl z1 | exact absurd rfl z2 | exact absurd rfl z3),ee,←si,←s1]
    · have ee:e=s.since:=by rw [he]; simp [c]
      rw [if_neg (fun z=>c (cnd.mp z))]
      rw [if_neg c] at key
      rw [←body (Z5 dat.length s) key,ee,←si,←s1]
  rw [en] at go
  refine ⟨u,v,e,ok,?_⟩
  have sn:(q23 dat gv (ZcY dat.length s u v e) false).st=Z5 dat.length (ZcY dat.length s u v e):=rfl
  cases hf:s.fc with
  | false=>
    have hst:=Zqv dat.length s hf
    have hst':=Zqv dat.length (ZcY dat.length s u v e) hf
    have nc:¬(q23 dat gv (ZcY dat.length s u v e) false).st=.closed:=by rw [sn]; intro z; rw [z] at hst'; simp at hst'
    rw [decide_eq_false nc] at go
    have cs:=ZrH (a:=a) (b:=b) (f:=f) (g:=g) (t:=5) (q:=q23 dat gv s false) (q':=q23 dat gv (ZcY dat.length s u v e) false) (n:=1+(dat.length+cN s.cl)) (W:=1000) (x:=[]) hst (by simp) (by show (if s.fc=true then gv else []).length≤63; rw [hf]; simp) go hst' (by show (if s.fc=true then _ else none)=none; rw [hf]; rfl) rfl (by show (if s.fc=true then gv else []).length+_≤63; rw [hf]; simp)
    rw [cs]
    congr 1
    unfold qIn q23
    simp [hf,ZcY]
  | true=>
    have hst:=Zjw _ _ hf hn
    exact ZoD hst go (by
      intro z
      rw [Bool.not_eq_true',decide_eq_false_iff_not] at z
      have:=Zjw dat.length (ZcY dat.length s u v e) hf z
      rw [sn]
      simp only [List.mem_cons,List.not_mem_nil,or_false] at this
      rcases this with z | z | z | z<;>rw [z]<;>decide)
end
section
variable {a b f g:Int} {dat gv:List Int} {s:S23} {B:Sto}
theorem Zl5 (hl:0+3<B.length) {R:Int} {due:List Int} {e e':Zw} {r:List Seg} (gvs:Gives 5 e r e') (hr:∀s∈r,s.ans=R) (hlen:r.length<40):Zfi [Zam a b f g,.int R,il due] (upE B 0 e)=.ok (.bl (decide (r.map (·.flags)=due))) (upE B 0 e'):=by
  have tg:=Zsh (θ:=B) (l:=0) hl gvs hlen
  obtain ⟨md,hmd⟩:∃x,x=Zam a b f g:=⟨_,rfl⟩
  have m0:∀θ:Sto,ixM md (.int 0) θ=.ok (.ref 0) θ:=fun θ=>by rw [hmd]; rfl
  have lp:=Zru (F:=Seg.d) (fE:=Zd 3) (body:=Ze8) (k:=4) (ρ:=[.val md,.val (.int R),.val (il due),.val (.lst (r.map Seg.d)),.no]) (θ0:=upE B 0 e') (θ:=upE B 0 e')
    (fun r' ρ θ=>∃x,ρ=[.val md,.val (.int R),.val (il due),.val (.lst (r.map Seg.d)),x]∧θ=upE B 0 e'∧∀s∈r',s.ans=R) (fun _=>False) r (by simp) ⟨_,rfl,rfl,hr⟩
    (by
      rintro s r' ρ θ ⟨x,rfl,rfl,h⟩
      left
      refine ⟨_,_,?_,.val s.d,rfl,rfl,fun s' hs'=>h s' (List.mem_cons_of_mem _ hs')⟩
      simp [Ze8,h s List.mem_cons_self])
    (by rintro i ρ θ ⟨x,rfl,_⟩; simp)
  rcases lp with ⟨ρ',θ',hlp,x,rfl,rfl,_⟩ | ⟨_,_,_,_,hF⟩
  · have hlp':Zhi [.val md,.val (.int R),.val (il due),.val (.lst (r.map Seg.d)),.no] (upE B 0 e')=_:=hlp
    have cp:∀x,mComp (mIn (Zd 3)) [] (mOp ixM (Zd 0) (mC (.int 4))) [.val md,.val (.int R),.val (il due),.val (.lst (r.map Seg.d)),x] (upE B 0 e')=.ok (il (r.map (·.flags))) (upE B 0 e'):=by
      intro x
      rw [Zi4 (d:=.lst (r.map Seg.d)) (xs:=r.map Seg.d) (θ':=upE B 0 e') (fun d=>match d with | .tup (_::_::_::_::y::_)=>y | _=>.non) (by simp) rfl (by simp [BIG]; omega) (by
        intro y hy
        obtain ⟨s,_,rfl⟩:=List.mem_map.mp hy
        simp; rfl)]
      congr 1
      unfold il
      rw [List.map_map,List.map_map]
      rfl
    rw [←hmd]
    simp [Zfi,Zjq,m0,tg,hlp',cp]
  · exact hF.elim
abbrev Zfp (gv:List Int) (s:S23):Int:=if s.fc=true then 2+gv.length else 1
abbrev ZN (sc md:D) (dat gv:List Int) (g:Int) (s:S23) (x9 x10 x11 x12 x13:Sl):List Sl:=[.val sc,.val md,.val (.ref 0),.val (il dat),.val (il gv),.val (.str (Z5 dat.length s).s),.val (.bl s.cl),.val (.int (Zv g (Zfp gv s))),.val (.int s.hd),x9,x10,x11,x12,x13]
theorem Zxs (hl:0+3<B.length) (hc:s.cl=true) (sc md:D) (x9 x12 x13:Sl):∃y12,b_l_law_3 (ZN sc md dat gv g s x9 (.val (.int 0)) (.val (il [])) x12 x13) (upE B 0 (qE a b f g (q23 dat gv s false)))=.ok (.nx,ZN sc md dat gv g s x9 (.val (.int 0)) (.val (il [])) y12 x13) (upE B 0 (qE a b f g (q23 dat gv s false))):=by
  have tc:=Znb (θ:=B) (l:=0) (e:=qE a b f g (q23 dat gv s false)) hl
  have ce:ZeS (qE a b f g (q23 dat gv s false))=(false,qE a b f g (q23 dat gv s false)):=by simp [ZeS,qE,q23,hc]
  rw [ce] at tc
  refine ⟨.val (.tup [.bl false,.str (Z5 dat.length s).s]),?_⟩
  simp only [ZN,hc]
  simp [b_l_law_3,ZgT,Zw1,tc,lsm]
theorem Zsp (h:Ok23 dat.length s) (hc:s.cl=false):Z5 dat.length (Zbv dat.length s)=if s.fc=true then .lastAck else .waitOne:=by
  have hh:=h.hd_in
  rw [hc] at hh
  have hn:¬s.hd=(dat.length:Int)+1:=by simp [cN] at hh; omega
  unfold Z5 Zbv
  cases hf:s.fc<;>simp [hn]
theorem Zxt (hl:0+3<B.length) (h:Ok23 dat.length s) (hc:s.cl=false) (sc md:D) (x9 x12 x13:Sl):∃y12,b_l_law_3 (ZN sc md dat gv g s x9 (.val (.int 0)) (.val (il [])) x12 x13) (upE B 0 (qE a b f g (q23 dat gv s false)))=.ok (.nx,ZN sc md dat gv g (Zbv dat.length s) x9 (.val (.int 0)) (.val (il [17])) y12 x13) (upE B 0 (qE a b f g { q23 dat gv s false with cl:=true,st:=if s.fc=true then .lastAck else .waitOne })):=by
  have tc:=Znb (θ:=B) (l:=0) (e:=qE a b f g (q23 dat gv s false)) hl
  rw [Ztj h hc] at tc
  have ss:=Zsp h hc
  have s0:Z5 dat.length s=if s.fc=true then .closeWait else .opn:=by unfold Z5; rw [hc]; simp
  have r0:Zfp gv (Zbv dat.length s)=Zfp gv s:=rfl
  have lc:∀θ,Zcv [.str (Z5 dat.length s).s,.bl false] θ=.ok (.tup [.bl true,.str (Z5 dat.length (Zbv dat.length s)).s]) θ:=by
    intro θ
    rw [s0,ss]
    cases s.fc
    · exact Zw2 θ
    · exact Zw0 θ
  have hd0:(Zbv dat.length s).hd=s.hd:=rfl
  have cl0:(Zbv dat.length s).cl=true:=rfl
  refine ⟨.val (.tup [.bl true,.str (Z5 dat.length (Zbv dat.length s)).s]),?_⟩
  obtain ⟨e1,he1⟩:∃e,e=qE a b f g { q23 dat gv s false with cl:=true,st:=if s.fc=true then .lastAck else .waitOne }:=⟨_,rfl⟩
  rw [←he1] at tc ⊢
  simp only [ZN,r0,hd0,cl0,hc]
  simp [b_l_law_3,ZgT,lc,tc,lsm]
theorem ZBb (hl:0+3<B.length) (i:ZgW dat gv) (h:Ok23 dat.length s) (hn:¬Z5 dat.length s=.closed) (ha:0≤a∧a≤65535) (hb:0≤b∧b≤65535) (sc:D) (x9 x12 x13:Sl):∃s' y13,Ok23 dat.length s'∧¬Z5 dat.length s'=.closed∧s'.hd=s.hd∧Zbu (ZN sc (Zam a b f g) dat gv g s x9 (.val (.int 1)) (.val (il [])) x12 x13) (upE B 0 (qE a b f g (q23 dat gv s false)))=.ok (.nx,ZN sc (Zam a b f g) dat gv g s' x9 (.val (.int 1)) (.val (il [16])) x12 y13) (upE B 0 (qE a b f g (q23 dat gv s' true))):=by
  have h1:=i.g.2
  have key:∃s',Ok23 dat.length s'∧s'.hd=s.hd∧s'.cl=s.cl∧s'.fc=true∧ZbQ (qE a b f g (q23 dat gv s false)) ⟨b,a,Zv g 1,Zv f (1+s.hd),17,1000,0,gv⟩ 5=qE a b f g (q23 dat gv s' true)∧Z5 dat.length s'=Zdi (Z5 dat.length s):=by
    cases hf:s.fc with
    | false=>
      obtain ⟨u,v,e,k1,k2,k3⟩:=Zoy (a:=a) (b:=b) (f:=f) (g:=g) i h hf
      exact ⟨ZeQ s u v e,k1,rfl,rfl,rfl,k2,k3⟩
    | true=>
      obtain ⟨e,k1,k2,k3⟩:=Zoz (a:=a) (b:=b) (f:=f) (g:=g) i h hf hn
      exact ⟨{ s with since:=e },k1,rfl,rfl,hf,k2,k3⟩
  obtain ⟨s',k1,k2,k3,k4,k5,k6⟩:=key
  have ks:(Seg.mk b a (Zv g 1) (Zv f (1+s.hd)) 17 1000 0 gv).Ok:=ZgY hb ha (ZaJ _ _) (ZaJ _ _) (by omega) (by omega) (.inl rfl) ⟨i.g.1,by omega⟩
  have bs:=fun θ=>ZfR ks θ
  have ar:=ZcZ (θ:=B) (l:=0) (e:=qE a b f g (q23 dat gv s false)) (now:=5) hl (Zlt (oa:=false) i h).come ks (by simp [ZeN,qE,q23]) (by simp [qE])
  rw [k5] at ar
  have rr:Zfp gv s'=1+(gv.length+1):=by show (if s'.fc=true then _ else _)=_; rw [k4]; simp; omega
  obtain ⟨md,hmd⟩:∃x,x=Zam a b f g:=⟨_,rfl⟩
  have m1:∀θ:Sto,ixM md (.int 1) θ=.ok (.tup [.int a,.int b]) θ:=fun θ=>by rw [hmd]; rfl
  have m2:∀θ:Sto,ixM md (.int 2) θ=.ok (.int (Zv f 1)) θ:=fun θ=>by rw [hmd]; rfl
  have m3:∀θ:Sto,ixM md (.int 3) θ=.ok (.int (Zv g 1)) θ:=fun θ=>by rw [hmd]; rfl
  refine ⟨s',.val (Seg.mk b a (Zv g 1) (Zv f (1+s.hd)) 17 1000 0 gv).d,k1,?_,k2,?_⟩
  · rw [k6]
    have:=Zhx dat.length s
    simp only [List.mem_cons,List.not_mem_nil,or_false] at this
    rcases this with z | z | z | z | z | z | z | z<;>rw [z] at hn ⊢<;>simp [Zdi] at hn ⊢
  · rw [←hmd]
    simp only [ZN,k2,k3,k6,rr]
    simp [Zbu,State.inj,hn,m1,m2,m3,ZaK,ZhL,bs,ar,lfc]
theorem ZBa (hl:0+3<B.length) (i:ZgW dat gv) (h:Ok23 dat.length s) (hn:¬Z5 dat.length s=.closed) (ha:0≤a∧a≤65535) (hb:0≤b∧b≤65535) (sc:D) (x9 x11 x12 x13:Sl):∃s' y13,Ok23 dat.length s'∧ZaV (ZN sc (Zam a b f g) dat gv g s x9 (.val (.int 2)) x11 x12 x13) (upE B 0 (qE a b f g (q23 dat gv s false)))=.ok (.nx,ZN sc (Zam a b f g) dat gv g s' x9 (.val (.int 2)) x11 x12 y13) (upE B 0 (qE a b f g (q23 dat gv s' false))):=by
  have h1:=i.g.2
  obtain ⟨u,v,e,k1,k2⟩:=ZoL (a:=a) (b:=b) (f:=f) (g:=g) i h hn
  have ks:(Seg.mk b a (Zv g (Zfp gv s)) (Zv f (1+(dat.length+cN s.cl))) 16 1000 0 []).Ok:=ZgY hb ha (ZaJ _ _) (ZaJ _ _) (by omega) (by omega) (.inl rfl) Zff
  have bs:=fun θ=>ZfR ks θ
  have ar:=ZcZ (θ:=B) (l:=0) (e:=qE a b f g (q23 dat gv s false)) (now:=5) hl (Zlt (oa:=false) i h).come ks (by simp [ZeN,qE,q23]) (by simp [qE])
  have k2':ZbQ (qE a b f g (q23 dat gv s false)) ⟨b,a,Zv g (Zfp gv s),Zv f (1+(dat.length+cN s.cl)),16,1000,0,[]⟩ 5=_:=k2
  rw [k2'] at ar
  have ks6:=ZrY dat.length s u v e h
  obtain ⟨s',hs'⟩:∃s',s'=ZcY dat.length s u v e:=⟨_,rfl⟩
  have e1:s'.hd=dat.length+cN s.cl:=by rw [hs']; rfl
  have e2:s'.cl=s.cl:=by rw [hs']; rfl
  have e3:Zfp gv s'=Zfp gv s:=by rw [hs']; rfl
  rw [←hs'] at ar ks6 k1
  have ig:∀θ:Sto,Zib [.bl s.cl] θ=.ok (.int (cN s.cl)) θ:=fun θ=>by cases s.cl<;>rfl
  obtain ⟨md,hmd⟩:∃x,x=Zam a b f g:=⟨_,rfl⟩
  have m1:∀θ:Sto,ixM md (.int 1) θ=.ok (.tup [.int a,.int b]) θ:=fun θ=>by rw [hmd]; rfl
  have m2:∀θ:Sto,ixM md (.int 2) θ=.ok (.int (Zv f 1)) θ:=fun θ=>by rw [hmd]; rfl
  have tls:=fun (n k:Int) (θ:Sto)=>ZhL (a:=a) (b:=b) (n:=n) (k:=k) (f:=16) (w:=1000) (x:=[]) θ
  refine ⟨s',.val (Seg.mk b a (Zv g (Zfp gv s)) (Zv f (1+(dat.length+cN s.cl))) 16 1000 0 []).d,k1,?_⟩
  rw [←hmd]
  simp only [ZN,e1,e2,e3,ks6]
  obtain ⟨R,hR⟩:∃R,R=Zfp gv s:=⟨_,rfl⟩
  rw [←hR] at ar bs ⊢
  simp [ZaV,State.inj,hn,m1,m2,ZaK,Zb3,tls,bs,ar,lhd,ig]
abbrev ZjY:SM:=(Zs (ZX 10 (mOp Zbq (mCB Zb1 (Zc (Zd 0) (Zc (mOp Z0 (mC (.int 40)) (Zd 9)) Zk))) (mC (.int 4))))
    (Zs (ZX 11 (Zb0 Zk))
    (Zs b_l_law_3
    (Zs Zbu
    (Zs Zct
    (Zs ZaV
    Zcs))))))
theorem ZmC (hl:0+3<B.length) (i:ZgW dat gv) (h:Ok23 dat.length s) (ha:0≤a∧a≤65535) (hb:0≤b∧b≤65535) {act:Int} (hact:0≤act∧act<4) {e1:Zw} {r:List Seg} (gvs:Gives 5 e1 r (qE a b f g (q23 dat gv s false))) (hr:∀z∈r,z.ans=Zv g (Zfp gv s)) (hlen:r.length<40) (sc:D) (x9 x12 x13:Sl) :
    ∃s' y11 y13,Ok23 dat.length s'∧(Zs Zct (Zs ZaV Zcs)) (ZN sc (Zam a b f g) dat gv g s x9 (.val (.int act)) (.val (il (r.map (·.flags)))) x12 x13) (upE B 0 e1)=.ok (.nx,ZN sc (Zam a b f g) dat gv g s' x9 (.val (.int act)) y11 x12 y13) (upE B 0 (qE a b f g (q23 dat gv s' false))):=by
  have fk:=Zl5 (a:=a) (b:=b) (f:=f) (g:=g) (due:=r.map (·.flags)) hl gvs hr hlen
  have L5:Zct (ZN sc (Zam a b f g) dat gv g s x9 (.val (.int act)) (.val (il (r.map (·.flags)))) x12 x13) (upE B 0 e1)=.ok (.nx,ZN sc (Zam a b f g) dat gv g s x9 (.val (.int act)) (.val (il (r.map (·.flags)))) x12 x13) (upE B 0 (qE a b f g (q23 dat gv s false))):=by
    obtain ⟨md,hmd⟩:∃x,x=Zam a b f g:=⟨_,rfl⟩
    rw [←hmd] at fk ⊢
    simp [ZN,Zct,fk]
  have L7:∀(s':S23) (y10 y11 y13:Sl),Zcs (ZN sc (Zam a b f g) dat gv g s' x9 y10 y11 x12 y13) (upE B 0 (qE a b f g (q23 dat gv s' false)))=.ok (.nx,ZN sc (Zam a b f g) dat gv g s' x9 y10 y11 x12 y13) (upE B 0 (qE a b f g (q23 dat gv s' false))):=by
    intro s' y10 y11 y13
    have e1:(qE a b f g (q23 dat gv s' false)).state=Z5 dat.length s':=rfl
    have e2:(qE a b f g (q23 dat gv s' false)).error=.none:=rfl
    simp [ZN,Zcs,hl,e1,e2]
  have skip:(¬act=2∨Z5 dat.length s=.closed)→ZaV (ZN sc (Zam a b f g) dat gv g s x9 (.val (.int act)) (.val (il (r.map (·.flags)))) x12 x13) (upE B 0 (qE a b f g (q23 dat gv s false)))=.ok (.nx,ZN sc (Zam a b f g) dat gv g s x9 (.val (.int act)) (.val (il (r.map (·.flags)))) x12 x13) (upE B 0 (qE a b f g (q23 dat gv s false))):=by
    rintro (z | z)
    · simp [ZN,ZaV,z]
    · by_cases c:act=2
      · simp [ZN,ZaV,c,z]
      · simp [ZN,ZaV,c]
  by_cases c:act=2∧¬Z5 dat.length s=.closed
  · obtain ⟨rfl,c⟩:=c
    obtain ⟨s',y13,k1,k2⟩:=ZBa (B:=B) (a:=a) (b:=b) (f:=f) (g:=g) hl i h c ha hb sc x9 (.val (il (r.map (·.flags)))) x12 x13
    refine ⟨s',.val (il (r.map (·.flags))),y13,k1,?_⟩
    rw [Zfr,L5]
    simp only [Zba]
    rw [Zfr,k2]
    simp only [Zba]
    rw [L7]
  · refine ⟨s,.val (il (r.map (·.flags))),x13,h,?_⟩
    have sk:=skip (by
      by_cases c1:act=2
      · exact .inr (Classical.not_not.mp fun z=>c ⟨c1,z⟩)
      · exact .inl c1)
    rw [Zfr,L5]
    simp only [Zba]
    rw [Zfr,sk]
    simp only [Zba]
    rw [L7]
theorem Zwr {act:Int} (h:¬act=0) (sc md:D) (x9 x11 x12 x13:Sl) (θ:Sto):b_l_law_3 (ZN sc md dat gv g s x9 (.val (.int act)) x11 x12 x13) θ=.ok (.nx,ZN sc md dat gv g s x9 (.val (.int act)) x11 x12 x13) θ:=by
  simp [ZN,b_l_law_3,h]
theorem ZtK {act:Int} (h:¬act=1∨Z5 dat.length s=.closed) (sc md:D) (x9 x11 x12 x13:Sl) (θ:Sto):Zbu (ZN sc md dat gv g s x9 (.val (.int act)) x11 x12 x13) θ=.ok (.nx,ZN sc md dat gv g s x9 (.val (.int act)) x11 x12 x13) θ:=by
  by_cases c:act=1
  · have h:=h.resolve_left (fun z=>z c)
    simp [ZN,Zbu,c,h]
  · simp [ZN,Zbu,c]
theorem Zub {ns:List Int} (hl:0+3<B.length) (i:ZgW dat gv) (h:Ok23 dat.length s) (ha:0≤a∧a≤65535) (hb:0≤b∧b≤65535) (k:Int) (x10 x11 x12 x13:Sl) :
    ∃s' y10 y11 y12 y13,Ok23 dat.length s'∧ZjY (ZN (.scr ns) (Zam a b f g) dat gv g s (.val (.int k)) x10 x11 x12 x13) (upE B 0 (qE a b f g (q23 dat gv s false)))=.ok (.nx,ZN (.scr ns) (Zam a b f g) dat gv g s' (.val (.int k)) y10 y11 y12 y13) (upE B 0 (qE a b f g (q23 dat gv s' false))):=by
  obtain ⟨act,hact⟩:∃x,x=mix ns (40+k) % 4:=⟨_,rfl⟩
  have hr:0≤act∧act<4:=by omega
  have start:ZjY (ZN (.scr ns) (Zam a b f g) dat gv g s (.val (.int k)) x10 x11 x12 x13) (upE B 0 (qE a b f g (q23 dat gv s false)))=(Zs b_l_law_3 (Zs Zbu (Zs Zct (Zs ZaV Zcs)))) (ZN (.scr ns) (Zam a b f g) dat gv g s (.val (.int k)) (.val (.int act)) (.val (il [])) x12 x13) (upE B 0 (qE a b f g (q23 dat gv s false))):=by
    obtain ⟨md,hmd⟩:∃x,x=Zam a b f g:=⟨_,rfl⟩
    rw [←hmd]
    simp [ZjY,ZN,←hact,Zb3]
  rw [start]
  have plain:∀(y12:Sl),¬act=1∨Z5 dat.length s=.closed→∃s' y10 y11 y12' y13,Ok23 dat.length s'∧(Zs Zbu (Zs Zct (Zs ZaV Zcs))) (ZN (.scr ns) (Zam a b f g) dat gv g s (.val (.int k)) (.val (.int act)) (.val (il [])) y12 x13) (upE B 0 (qE a b f g (q23 dat gv s false)))=.ok (.nx,ZN (.scr ns) (Zam a b f g) dat gv g s' (.val (.int k)) y10 y11 y12' y13) (upE B 0 (qE a b f g (q23 dat gv s' false))):=by
    intro y12 z
    obtain ⟨s',y11,y13,k1,k2⟩:=ZmC (B:=B) (a:=a) (b:=b) (f:=f) (g:=g) hl i h ha hb hr (Zgh i h) (fun _ z=>absurd z List.not_mem_nil) (by simp) (.scr ns) (.val (.int k)) y12 x13
    refine ⟨s',.val (.int act),y11,y12,y13,k1,?_⟩
    rw [Zfr,ZtK z]
    simp only [Zba]
    exact k2
  by_cases c0:act=0
  · cases hc:s.cl with
    | true=>
      obtain ⟨y12,k0⟩:=Zxs (B:=B) (a:=a) (b:=b) (f:=f) (g:=g) (dat:=dat) (gv:=gv) hl hc (.scr ns) (Zam a b f g) (.val (.int k)) x12 x13
      obtain ⟨s',y10,y11,y12',y13,k1,k2⟩:=plain y12 (.inl (by omega))
      refine ⟨s',y10,y11,y12',y13,k1,?_⟩
      rw [c0] at k2 ⊢
      rw [Zfr,k0]
      simp only [Zba]
      exact k2
    | false=>
      obtain ⟨y12,k0⟩:=Zxt (B:=B) (a:=a) (b:=b) (f:=f) (g:=g) (gv:=gv) hl h hc (.scr ns) (Zam a b f g) (.val (.int k)) x12 x13
      have sg:=Zsq (a:=a) (b:=b) (f:=f) (g:=g) i h hc ha hb
      obtain ⟨s',y11,y13,k1,k2⟩:=ZmC (B:=B) (a:=a) (b:=b) (f:=f) (g:=g) hl i (Zng h hc) ha hb hr sg (by intro z hz; rw [List.mem_singleton] at hz; rw [hz]; rfl) (by simp) (.scr ns) (.val (.int k)) y12 x13
      refine ⟨s',.val (.int act),y11,y12,y13,k1,?_⟩
      rw [c0] at k2 ⊢
      rw [Zfr,k0]
      simp only [Zba]
      rw [Zfr,ZtK (.inl (by decide))]
      simp only [Zba]
      exact k2
  · rw [Zfr,Zwr c0]
    simp only [Zba]
    by_cases c1:act=1∧¬Z5 dat.length s=.closed
    · obtain ⟨c1,cn⟩:=c1
      obtain ⟨s1,y13,k1,k2,k3,k4⟩:=ZBb (B:=B) (a:=a) (b:=b) (f:=f) (g:=g) hl i h cn ha hb (.scr ns) (.val (.int k)) x12 x13
      obtain ⟨s',y11,y13',j1,j2⟩:=ZmC (B:=B) (a:=a) (b:=b) (f:=f) (g:=g) hl i k1 ha hb hr (Zvg i k1 k2 ha hb) (by intro z hz; rw [List.mem_singleton] at hz; rw [hz]; rfl) (by simp) (.scr ns) (.val (.int k)) x12 y13
      refine ⟨s',.val (.int act),y11,x12,y13',j1,?_⟩
      rw [c1] at j2 ⊢
      rw [Zfr,k4]
      simp only [Zba]
      exact j2
    · exact plain x12 (by
        by_cases c2:act=1
        · exact .inr (Classical.not_not.mp fun z=>c1 ⟨c2,z⟩)
        · exact .inl c2)
theorem ZnA {n:Nat} {F:Nat→Int} (h:∀i,0≤F i∧F i≤255):∀z∈(List.range n).map F,0≤z∧z≤255:=by
  intro z hz
  obtain ⟨i,_,rfl⟩:=List.mem_map.mp hz
  exact h i
def Zda (dat:List Int):S23:=⟨false,false,false,0,1,1,if 0<dat.length then 5 else 0⟩
theorem Ztd (i:ZgW dat gv) (ha:0≤a∧a≤65535) (hb:0≤b∧b≤65535):∃r,Gives 5 (qE a b f g { qO 1000 16 0 with written:=dat,beh:=1+dat.length }) r (qE a b f g (q23 dat gv (Zda dat) false))∧(∀z∈r,z.ans=Zv g 1)∧r.length<40∧r.map (·.flags)=if 0<dat.length then [24] else []:=by
  have h1:=i.d.2
  have ok:Ok23 dat.length (Zda dat):=⟨.inl rfl,(fun z=>by cases z),by show 0≤(if 0<dat.length then (5:Int) else 0)∧(if 0<dat.length then (5:Int) else 0)≤5; split<;>omega⟩
  by_cases c:0<dat.length
  · obtain ⟨q,hq⟩:∃q:Q,q={ qO 1000 16 0 with written:=dat,beh:=1+dat.length }:=⟨_,rfl⟩
    rw [←hq]
    have w:WF q:=by
      rw [hq]
      refine ⟨by show (0:Int)≤1∧(1:Int)≤1; omega,by show (1:Int)≤1+dat.length+1∧(1+dat.length:Int)<1000000; omega,fun _=>by show (dat.length:Int)=1+dat.length-1; omega,by show (0:Int)≤1000∧(1000:Int)≤65535; omega,by show (4:Int)≤16; omega,by show ([]:List Int).length≤64; simp,i.d.1⟩
    have cq:CalmQ q 5:=by rw [hq]; exact ⟨by show State.opn∉_; decide,(fun z=>by cases z),fun _=>by show (5:Int)-0<1000; omega⟩
    have rm:room q=1000:=by rw [hq]; rfl
    have md:Zey q:=by rw [hq]; exact ⟨by show State.opn∈_; decide,by show (1:Int)<1+dat.length; omega⟩
    have cn:ZcG q (room q)=dat.length:=by
      rw [rm,hq]
      show mn3 (if (16:Int)<16 then 16 else 16) (1+dat.length-1) 1000=_
      unfold mn3
      split<;>split<;>omega
    have nx:Zq8 q (room q) 5=q23 dat gv (Zda dat) false:=by
      unfold Zq8 sinceQ
      rw [cn,hq]
      rw [if_pos (by show (1:Int)=1; rfl)]
      unfold q23 Zda qO
      simp [Z5,cN,c]
    have gd:=Zs7 (a:=a) (b:=b) (f:=f) (g:=g) cq w (by omega) md
    rw [nx] at gd
    refine ⟨[Zfy a b f g q (room q)],.cons gd (Zti w (by omega) md ha hb) (Zgh i ok),?_,by simp,?_⟩
    · intro z hz
      rw [List.mem_singleton] at hz
      rw [hz,hq]; rfl
    · rw [if_pos c]
      show [(Zfy a b f g q (room q)).flags]=[24]
      have:(Zfy a b f g q (room q)).flags=24:=by
        show (if q.nxt+ZcG q (room q)=q.beh then (24:Int) else 16)=24
        rw [cn,if_pos]
        rw [hq]; rfl
      rw [this]
  · have d0:dat=[]:=by
      cases dat with
      | nil=>rfl
      | cons _ _=>simp at c
    subst d0
    have e:({ qO 1000 16 0 with written:=[],beh:=1+(([]:List Int).length:Int) }:Q)=q23 [] gv (Zda []) false:=by simp [qO,q23,Zda,Z5,cN]
    refine ⟨[],?_,fun _ z=>absurd z List.not_mem_nil,by simp,by simp⟩
    rw [e]
    exact Zgh i ok
theorem law_true (ns:List Int) (hn:ns.length≤63):∃θ',ZnG [.scr ns] []=.ok (.bl true) θ':=by
  obtain ⟨a,ha⟩:∃x,x=mix ns 0 % 65536:=⟨_,rfl⟩
  obtain ⟨b,hb⟩:∃x,x=mix ns 1 % 65536:=⟨_,rfl⟩
  obtain ⟨f,hf⟩:∃x,x=Zbs (mix ns 2):=⟨_,rfl⟩
  obtain ⟨g,hg⟩:∃x,x=Zbs (mix ns 3):=⟨_,rfl⟩
  have ra:0≤a∧a≤65535:=by omega
  have rb:0≤b∧b≤65535:=by omega
  have lo:=Zn5 (ns:=ns) (base:=0) (W:=1000) (m:=16) [] (by omega) (.inr (by omega))
  simp only [Int.zero_add,←ha,←hb,←hf,←hg,List.length_nil,List.nil_append] at lo
  have eo:Zdw a b f g 1000 16 0=qE a b f g (qO 1000 16 0):=by simp [Zdw,qE,qO,newEnd]
  rw [eo] at lo
  obtain ⟨B,hB⟩:∃y,y=cells 0 (qE a b f g (qO 1000 16 0)):=⟨_,rfl⟩
  have hl:0+3<B.length:=by rw [hB]; simp [cells]
  have up:B=upE B 0 (qE a b f g (qO 1000 16 0)):=by rw [hB]; exact ZrJ _
  rw [←hB,up] at lo
  obtain ⟨dat,hdat⟩:∃x,x=(List.range (mix ns 11 % 13).toNat).map fun (k:Nat)=>mix ns (10+(k:Int)) % 256:=⟨_,rfl⟩
  obtain ⟨gv,hgv⟩:∃x,x=(List.range (mix ns 25 % 13).toNat).map fun (k:Nat)=>mix ns (24+(k:Int)) % 256:=⟨_,rfl⟩
  have i:ZgW dat gv:=⟨by rw [hdat]; exact ⟨ZnA fun i=>by omega,by simp; omega⟩,by rw [hgv]; exact ⟨ZnA fun i=>by omega,by simp; omega⟩⟩
  have cd:=fun ρ (h0:ρ[0]?=some (Sl.val (D.scr ns))) θ=>Zmf (nE:=mOp Zbq (mCB Zb1 (Zc (Zd 0) (Zc (mC (.int 11)) Zk))) (mC (.int 13))) (src:=[0]) (elt:=mOp Zbq (mCB Zb1 (Zc (Zd 1) (Zc (mOp Z0 (mC (.int 10)) (Zd 0)) Zk))) (mC (.int 256))) (ρ:=ρ) (θ:=θ) (j:=mix ns 11 % 13) (fun k=>mix ns (10+(k:Int)) % 256) (by simp [h0]) (by omega) (by omega) (by intro i hi; simp [h0])
  have cg:=fun ρ (h0:ρ[0]?=some (Sl.val (D.scr ns))) θ=>Zmf (nE:=mOp Zbq (mCB Zb1 (Zc (Zd 0) (Zc (mC (.int 25)) Zk))) (mC (.int 13))) (src:=[0]) (elt:=mOp Zbq (mCB Zb1 (Zc (Zd 1) (Zc (mOp Z0 (mC (.int 24)) (Zd 0)) Zk))) (mC (.int 256))) (ρ:=ρ) (θ:=θ) (j:=mix ns 25 % 13) (fun k=>mix ns (24+(k:Int)) % 256) (by simp [h0]) (by omega) (by omega) (by intro i hi; simp [h0])
  simp only [←hdat] at cd
  simp only [←hgv] at cg
  have wr:=Zr8 (θ:=B) (l:=0) (e:=qE a b f g (qO 1000 16 0)) hl (by simp [qE,qO]) dat
  have cw:ZeT (qE a b f g (qO 1000 16 0))=true:=by simp [ZeT,qE,qO]
  have h12:=i.d.2
  have wo:ZiJ (qE a b f g (qO 1000 16 0)) dat=dat:=by
    unfold ZiJ
    exact ZnQ (by simp [qE,qO]; omega)
  have we:Zju (qE a b f g (qO 1000 16 0)) dat=qE a b f g { qO 1000 16 0 with written:=dat,beh:=1+dat.length }:=by
    unfold Zju
    rw [cw,wo]
    simp [qE,qO,ZaK]
  rw [we,cw,wo] at wr
  simp only [if_true] at wr
  obtain ⟨r,g1,g2,g3,g4⟩:=Ztd (a:=a) (b:=b) (f:=f) (g:=g) i ra rb
  have fk:=Zl5 (a:=a) (b:=b) (f:=f) (g:=g) (B:=B) (due:=r.map (·.flags)) hl g1 g2 g3
  have ok0:Ok23 dat.length (Zda dat):=⟨.inl rfl,(fun z=>by cases z),by show 0≤(if 0<dat.length then (5:Int) else 0)∧(if 0<dat.length then (5:Int) else 0)≤5; split<;>omega⟩
  have due0:∀θ:Sto,ZbY (il [24]) (.int (if 0<dat.length then 1 else 0)) θ=.ok (il (r.map (·.flags))) θ:=by
    intro θ
    rw [g4]
    show ZbY (.lst [.int 24]) _ θ=_
    rw [ZlR]
    by_cases c:0<dat.length
    · rw [if_pos c,if_pos c]; simp [BIG]
    · rw [if_neg c,if_neg c]; simp [BIG,Zb3]
  have ig:∀(p:Prop) [Decidable p] (θ:Sto),Zib [.bl (decide p)] θ=.ok (.int (if p then 1 else 0)) θ:=fun p _ θ=>by
    by_cases h:p<;>simp [h]<;>rfl
  have lp:=Ztc (nE:=mC (.int 9)) (body:=ZjY) (k:=9) (ρ:=ZN (.scr ns) (Zam a b f g) dat gv g (Zda dat) .no .no .no .no .no) (θ:=upE B 0 (qE a b f g (q23 dat gv (Zda dat) false))) (j:=9)
    (fun _ ρ θ=>∃s x9 x10 x11 x12 x13,Ok23 dat.length s∧ρ=ZN (.scr ns) (Zam a b f g) dat gv g s x9 x10 x11 x12 x13∧θ=upE B 0 (qE a b f g (q23 dat gv s false))) (fun _=>False) (by simp) (by omega) (by omega) ⟨_,_,_,_,_,_,ok0,rfl,rfl⟩
    (by
      rintro k ρ θ hk ⟨s,x9,x10,x11,x12,x13,h,rfl,rfl⟩
      left
      obtain ⟨s',y10,y11,y12,y13,k1,k2⟩:=Zub (B:=B) (a:=a) (b:=b) (f:=f) (g:=g) (ns:=ns) hl i h ra rb (k:Int) x10 x11 x12 x13
      exact ⟨_,_,k2,s',_,_,_,_,_,k1,rfl,rfl⟩)
    (by rintro k ρ θ ⟨s,x9,x10,x11,x12,x13,h,rfl,rfl⟩; simp [ZN])
  rcases lp with ⟨ρ',θ',hlp,s,x9,x10,x11,x12,x13,hs,rfl,rfl⟩ | ⟨_,_,_,_,hF⟩
  · have hlp':Zjm (ZN (.scr ns) (Zam a b f g) dat gv g (Zda dat) .no .no .no .no .no) (upE B 0 (qE a b f g (q23 dat gv (Zda dat) false)))=_:=hlp
    have rd:=Zue (θ:=B) (l:=0) (e:=qE a b f g (q23 dat gv s false)) (n:=50) hl
    have h13:=i.g.2
    have tk:(qE a b f g (q23 dat gv s false)).come.take (50:Int).toNat=if s.fc=true then gv else []:=by
      show (if s.fc=true then gv else []).take _=_
      split
      · exact List.take_of_length_le (by simp; omega)
      · simp
    rw [tk] at rd
    have pd:(Zv g (Zfp gv s)=Zv g 1)↔s.fc=false:=by
      rw [ZdS (by show 0≤(if s.fc=true then (2:Int)+gv.length else 1)∧_; split<;>omega)]
      show (if s.fc=true then (2:Int)+gv.length else 1)=1↔_
      cases s.fc
      · simp
      · simp; omega
    have pk:atI [D.lst [],il gv] (if s.fc=true then 1 else 0)=some (il (if s.fc=true then gv else [])):=by
      cases s.fc<;>rfl
    have e0:(Zda dat).hd=0∧(Zda dat).cl=false∧Zfp gv (Zda dat)=1∧Z5 dat.length (Zda dat)=.opn:=⟨rfl,rfl,rfl,rfl⟩
    have ig2:∀θ:Sto,Zib [.bl (!decide (Zv g (Zfp gv s)=Zv g 1))] θ=.ok (.int (if s.fc=true then 1 else 0)) θ:=fun θ=>by
      have pb:(!decide (Zv g (Zfp gv s)=Zv g 1))=s.fc:=by
        cases c:s.fc
        · rw [decide_eq_true (pd.mpr c)]; rfl
        · rw [decide_eq_false (fun z=>by rw [pd,c] at z; cases z)]; rfl
      rw [pb]
      cases s.fc<;>rfl
    simp only [ZN,e0.1,e0.2.1,e0.2.2.1,e0.2.2.2] at hlp'
    obtain ⟨md,hmd⟩:∃x,x=Zam a b f g:=⟨_,rfl⟩
    have m0:∀θ:Sto,ixM md (.int 0) θ=.ok (.ref 0) θ:=fun θ=>by rw [hmd]; rfl
    have m3:∀θ:Sto,ixM md (.int 3) θ=.ok (.int (Zv g 1)) θ:=fun θ=>by rw [hmd]; rfl
    rw [←hmd] at hlp' fk
    have lo':ZdV [.scr ns,.int 0,.int 1000,.int 16] []=.ok md (upE B 0 (qE a b f g (qO 1000 16 0))):=by rw [hmd]; exact lo
    obtain ⟨R,hR⟩:∃R,R=Zfp gv s:=⟨_,rfl⟩
    rw [←hR] at hlp' ig2
    refine ⟨upE B 0 (Zqx (qE a b f g (q23 dat gv s false)) 50),?_⟩
    simp [ZnG,Zn0,lo',m0,m3,cd,cg,wr,Zjn,ig,due0,fk,hlp',rd,ig2,pk]
  · exact hF.elim
end
end
def top (i:Nat):Stmt:=PySem.Challenge.pw_wirestream_k23_closing.main.body.getD i (.Pass ⟨0,0,0,0⟩)
abbrev zs0:Stmt:=ZnI (top 2) 0
abbrev zs1:Stmt:=top 3
abbrev zs2:Stmt:=top 4
abbrev zs3:Stmt:=top 5
abbrev zs4:Stmt:=top 9
abbrev zs5:Stmt:=top 10
abbrev zs6:Stmt:=top 11
abbrev zs7:Stmt:=ZnI (top 30) 0
abbrev zs8:Stmt:=top 31
abbrev zs9:Stmt:=top 32
abbrev Zlq:Stmt:=top 33
abbrev Zlp:Stmt:=top 34
abbrev Zlo:Stmt:=top 35
abbrev Zln:Stmt:=top 42
abbrev Zlm:Stmt:=top 43
abbrev Zll:Stmt:=top 64
abbrev Zlk:Stmt:=top 65
abbrev Zlj:Stmt:=top 66
abbrev Zli:Stmt:=top 67
abbrev Zlh:Stmt:=top 68
abbrev Zlg:Stmt:=top 69
abbrev Zlf:Stmt:=top 70
abbrev Zle:Stmt:=top 71
abbrev Zld:Stmt:=top 72
abbrev Zlc:Stmt:=top 73
abbrev Zlb:Stmt:=top 74
abbrev Zla:Stmt:=top 75
abbrev Zk9:Stmt:=top 76
abbrev Zk8:Stmt:=top 77
abbrev Zk7:Stmt:=top 78
abbrev Zk6:Stmt:=top 80
abbrev Zk5:Stmt:=top 81
abbrev Zk4:Stmt:=top 82
abbrev Zk3:Stmt:=top 83
abbrev Zk2:Stmt:=top 85
abbrev Zk1:Stmt:=top 86
abbrev Zk0:Stmt:=top 87
abbrev ZkZ:Stmt:=top 88
abbrev ZkY:Stmt:=top 89
abbrev ZkX:Stmt:=top 90
abbrev ZkW:Stmt:=top 91
abbrev ZkV:Stmt:=top 92
abbrev ZkU:Stmt:=top 93
abbrev ZkT:Stmt:=top 95
abbrev ZkS:Stmt:=top 96
abbrev ZkR:Stmt:=top 97
abbrev ZkQ:Stmt:=top 98
abbrev ZkP:Stmt:=top 99
abbrev ZkO:Stmt:=top 100
abbrev ZkN:Stmt:=top 101
abbrev ZkM:Stmt:=top 102
abbrev ZkL:Stmt:=top 103
abbrev ZkK:Stmt:=top 104
abbrev ZkJ:Stmt:=top 105
abbrev ZkI:Stmt:=top 106
abbrev ZkH:Stmt:=top 107
abbrev ZkG:Stmt:=top 108
abbrev ZkF:Stmt:=top 109
abbrev ZkE:Stmt:=top 110
abbrev ZkD:Stmt:=top 111
abbrev ZkC:Stmt:=top 112
abbrev ZkB:Stmt:=top 117
abbrev ZkA:Stmt:=top 118
abbrev Zkz:Stmt:=top 119
abbrev Zky:Stmt:=top 120
abbrev Zkx:Stmt:=top 121
abbrev Zkw:Stmt:=top 122
abbrev Zkv:Stmt:=top 123
abbrev Zku:Stmt:=top 124
abbrev Zkt:Stmt:=top 125
abbrev Zks:Stmt:=top 126
abbrev Zkr:Stmt:=top 127
abbrev Zkq:Stmt:=top 128
abbrev Zkp:Stmt:=top 129
abbrev Zko:Stmt:=top 130
abbrev Zkn:Stmt:=top 131
abbrev Zkm:Stmt:=top 132
abbrev Zkl:Stmt:=top 133
abbrev Zkk:Stmt:=top 134
abbrev Zkj:Stmt:=top 135
abbrev Zki:Stmt:=top 137
abbrev Zkh:Stmt:=top 138
abbrev Zkg:Stmt:=top 141
abbrev Zkf:Stmt:=top 142
abbrev Zke:Stmt:=top 143
abbrev ZiA:Stmt:=top 144
abbrev Zkd:Stmt:=top 145
abbrev Zkc:Stmt:=top 146
abbrev Zkb:Stmt:=top 147
abbrev Zka:Stmt:=top 148
abbrev Zj9:Stmt:=top 149
abbrev Zj8:Stmt:=top 150
abbrev Zj7:Stmt:=top 151
abbrev Zj6:Stmt:=top 152
abbrev Zj5:Stmt:=top 153
abbrev Zj4:Stmt:=top 154
abbrev Zjt:Stmt:=top 155
abbrev Zgv:Stmt:=top 156
abbrev zP0:List Str:=["self"]
theorem zc0:Zq ["self"] zP0 (Zg zs0):=⟨rfl,rfl,rfl,by decide +kernel,rfl,by decide +kernel,by decide +kernel⟩
abbrev zP1:List Str:=["pile"]
theorem zc1:Zq ["pile"] zP1 (Zg zs1):=⟨rfl,rfl,rfl,by decide +kernel,rfl,by decide +kernel,by decide +kernel⟩
abbrev zP2:List Str:=["pile","row"]
theorem zc2:Zq ["pile","row","laid"] zP2 (Zg zs2):=⟨rfl,rfl,rfl,by decide +kernel,rfl,by decide +kernel,by decide +kernel⟩
abbrev zP3:List Str:=["pile","many"]
theorem zc3:Zq ["pile","many","size","taken"] zP3 (Zg zs3):=⟨rfl,rfl,rfl,by decide +kernel,rfl,by decide +kernel,by decide +kernel⟩
abbrev zP4:List Str:=["number","step"]
theorem zc4:Zq ["number","step"] zP4 (Zg zs4):=⟨rfl,rfl,rfl,by decide +kernel,rfl,by decide +kernel,by decide +kernel⟩
abbrev zP5:List Str:=["number","base"]
theorem zc5:Zq ["number","base"] zP5 (Zg zs5):=⟨rfl,rfl,rfl,by decide +kernel,rfl,by decide +kernel,by decide +kernel⟩
abbrev zP6:List Str:=["number","base"]
theorem zc6:Zq ["number","base"] zP6 (Zg zs6):=⟨rfl,rfl,rfl,by decide +kernel,rfl,by decide +kernel,by decide +kernel⟩
abbrev zP7:List Str:=["self","ours","theirs","first","active"]
theorem zc7:Zq ["self","ours","theirs","first","active"] zP7 (Zg zs7):=⟨rfl,rfl,rfl,by decide +kernel,rfl,by decide +kernel,by decide +kernel⟩
abbrev zP8:List Str:=["end","now"]
theorem zc8:Zq ["end","now"] zP8 (Zg zs8):=⟨rfl,rfl,rfl,by decide +kernel,rfl,by decide +kernel,by decide +kernel⟩
abbrev zP9:List Str:=["end"]
theorem zc9:Zq ["end"] zP9 (Zg zs9):=⟨rfl,rfl,rfl,by decide +kernel,rfl,by decide +kernel,by decide +kernel⟩
abbrev Zqd:List Str:=["end"]
theorem zc10:Zq ["end"] Zqd (Zg Zlq):=⟨rfl,rfl,rfl,by decide +kernel,rfl,by decide +kernel,by decide +kernel⟩
abbrev Zqc:List Str:=["end"]
theorem zc11:Zq ["end"] Zqc (Zg Zlp):=⟨rfl,rfl,rfl,by decide +kernel,rfl,by decide +kernel,by decide +kernel⟩
abbrev Zqb:List Str:=["end"]
theorem zc12:Zq ["end"] Zqb (Zg Zlo):=⟨rfl,rfl,rfl,by decide +kernel,rfl,by decide +kernel,by decide +kernel⟩
abbrev Zqa:List Str:=["row"]
theorem zc13:Zq ["row","total"] Zqa (Zg Zln):=⟨rfl,rfl,rfl,by decide +kernel,rfl,by decide +kernel,by decide +kernel⟩
abbrev Zp9:List Str:=["row"]
theorem zc14:Zq ["row"] Zp9 (Zg Zlm):=⟨rfl,rfl,rfl,by decide +kernel,rfl,by decide +kernel,by decide +kernel⟩
abbrev Zp8:List Str:=["segment"]
theorem zc15:Zq ["segment","flags"] Zp8 (Zg Zll):=⟨rfl,rfl,rfl,by decide +kernel,rfl,by decide +kernel,by decide +kernel⟩
abbrev Zp7:List Str:=["flags","flag"]
theorem zc16:Zq ["flags","flag"] Zp7 (Zg Zlk):=⟨rfl,rfl,rfl,by decide +kernel,rfl,by decide +kernel,by decide +kernel⟩
abbrev Zp6:List Str:=["segment","flag"]
theorem zc17:Zq ["segment","flag"] Zp6 (Zg Zlj):=⟨rfl,rfl,rfl,by decide +kernel,rfl,by decide +kernel,by decide +kernel⟩
abbrev Zp5:List Str:=["segment"]
theorem zc18:Zq ["segment","ahead","behind"] Zp5 (Zg Zli):=⟨rfl,rfl,rfl,by decide +kernel,rfl,by decide +kernel,by decide +kernel⟩
abbrev Zp4:List Str:=["segment"]
theorem zc19:Zq ["segment","ports","numbers","head"] Zp4 (Zg Zlh):=⟨rfl,rfl,rfl,by decide +kernel,rfl,by decide +kernel,by decide +kernel⟩
abbrev Zp3:List Str:=["head"]
theorem zc20:Zq ["head"] Zp3 (Zg Zlg):=⟨rfl,rfl,rfl,by decide +kernel,rfl,by decide +kernel,by decide +kernel⟩
abbrev Zp2:List Str:=["most"]
theorem zc21:Zq ["most"] Zp2 (Zg Zlf):=⟨rfl,rfl,rfl,by decide +kernel,rfl,by decide +kernel,by decide +kernel⟩
abbrev Zp1:List Str:=["number"]
theorem zc22:Zq ["number"] Zp1 (Zg Zle):=⟨rfl,rfl,rfl,by decide +kernel,rfl,by decide +kernel,by decide +kernel⟩
abbrev Zp0:List Str:=["number"]
theorem zc23:Zq ["number"] Zp0 (Zg Zld):=⟨rfl,rfl,rfl,by decide +kernel,rfl,by decide +kernel,by decide +kernel⟩
abbrev ZpZ:List Str:=["row"]
theorem zc24:Zq ["row"] ZpZ (Zg Zlc):=⟨rfl,rfl,rfl,by decide +kernel,rfl,by decide +kernel,by decide +kernel⟩
abbrev ZpY:List Str:=["row"]
theorem zc25:Zq ["row"] ZpY (Zg Zlb):=⟨rfl,rfl,rfl,by decide +kernel,rfl,by decide +kernel,by decide +kernel⟩
abbrev ZpX:List Str:=["row"]
theorem zc26:Zq ["row"] ZpX (Zg Zla):=⟨rfl,rfl,rfl,by decide +kernel,rfl,by decide +kernel,by decide +kernel⟩
abbrev ZpW:List Str:=["row"]
theorem zc27:Zq ["row","head","most","ports","numbers"] ZpW (Zg Zk9):=⟨rfl,rfl,rfl,by decide +kernel,rfl,by decide +kernel,by decide +kernel⟩
abbrev ZpV:List Str:=["row","place"]
theorem zc28:Zq ["row","place"] ZpV (Zg Zk8):=⟨rfl,rfl,rfl,by decide +kernel,rfl,by decide +kernel,by decide +kernel⟩
abbrev ZpU:List Str:=["row","place"]
theorem zc29:Zq ["row","place"] ZpU (Zg Zk7):=⟨rfl,rfl,rfl,by decide +kernel,rfl,by decide +kernel,by decide +kernel⟩
abbrev ZpT:List Str:=["ours","theirs","first","active"]
theorem zc30:Zq ["ours","theirs","first","active"] ZpT (Zg Zk6):=⟨rfl,rfl,rfl,by decide +kernel,rfl,by decide +kernel,by decide +kernel⟩
abbrev ZpS:List Str:=["end","row"]
theorem zc31:Zq ["end","row","taken"] ZpS (Zg Zk5):=⟨rfl,rfl,rfl,by decide +kernel,rfl,by decide +kernel,by decide +kernel⟩
abbrev ZpR:List Str:=["end","many"]
theorem zc32:Zq ["end","many","was_shut","row"] ZpR (Zg Zk4):=⟨rfl,rfl,rfl,by decide +kernel,rfl,by decide +kernel,by decide +kernel⟩
abbrev ZpQ:List Str:=["end"]
theorem zc33:Zq ["end"] ZpQ (Zg Zk3):=⟨rfl,rfl,rfl,by decide +kernel,rfl,by decide +kernel,by decide +kernel⟩
abbrev ZpP:List Str:=["segment"]
theorem zc34:Zq ["segment","ports"] ZpP (Zg Zk2):=⟨rfl,rfl,rfl,by decide +kernel,rfl,by decide +kernel,by decide +kernel⟩
abbrev ZpO:List Str:=["end","segment"]
theorem zc35:Zq ["end","segment"] ZpO (Zg Zk1):=⟨rfl,rfl,rfl,by decide +kernel,rfl,by decide +kernel,by decide +kernel⟩
abbrev ZpN:List Str:=["end","segment"]
theorem zc36:Zq ["end","segment"] ZpN (Zg Zk0):=⟨rfl,rfl,rfl,by decide +kernel,rfl,by decide +kernel,by decide +kernel⟩
abbrev ZpM:List Str:=["end","segment"]
theorem zc37:Zq ["end","segment"] ZpM (Zg ZkZ):=⟨rfl,rfl,rfl,by decide +kernel,rfl,by decide +kernel,by decide +kernel⟩
abbrev ZpL:List Str:=["end","segment"]
theorem zc38:Zq ["end","segment"] ZpL (Zg ZkY):=⟨rfl,rfl,rfl,by decide +kernel,rfl,by decide +kernel,by decide +kernel⟩
abbrev ZpK:List Str:=["end","segment","now"]
theorem zc39:Zq ["end","segment","now"] ZpK (Zg ZkX):=⟨rfl,rfl,rfl,by decide +kernel,rfl,by decide +kernel,by decide +kernel⟩
abbrev ZpJ:List Str:=["end","segment"]
theorem zc40:Zq ["end","segment"] ZpJ (Zg ZkW):=⟨rfl,rfl,rfl,by decide +kernel,rfl,by decide +kernel,by decide +kernel⟩
abbrev ZpI:List Str:=["end","segment"]
theorem zc41:Zq ["end","segment"] ZpI (Zg ZkV):=⟨rfl,rfl,rfl,by decide +kernel,rfl,by decide +kernel,by decide +kernel⟩
abbrev ZpH:List Str:=["end","segment","now"]
theorem zc42:Zq ["end","segment","now"] ZpH (Zg ZkU):=⟨rfl,rfl,rfl,by decide +kernel,rfl,by decide +kernel,by decide +kernel⟩
abbrev ZpG:List Str:=["end","row","now"]
theorem zc43:Zq ["end","row","now","segment"] ZpG (Zg ZkT):=⟨rfl,rfl,rfl,by decide +kernel,rfl,by decide +kernel,by decide +kernel⟩
abbrev ZpF:List Str:=["end","segment"]
theorem ZzW:Zq ["end","segment"] ZpF (Zg ZkS):=⟨rfl,rfl,rfl,by decide +kernel,rfl,by decide +kernel,by decide +kernel⟩
abbrev ZpE:List Str:=["end","segment","now"]
theorem ZzV:Zq ["end","segment","now"] ZpE (Zg ZkR):=⟨rfl,rfl,rfl,by decide +kernel,rfl,by decide +kernel,by decide +kernel⟩
abbrev ZpD:List Str:=["end","segment"]
theorem zc46:Zq ["end","segment","size","last"] ZpD (Zg ZkQ):=⟨rfl,rfl,rfl,by decide +kernel,rfl,by decide +kernel,by decide +kernel⟩
abbrev ZpC:List Str:=["end","number"]
theorem ZzU:Zq ["end","number"] ZpC (Zg ZkP):=⟨rfl,rfl,rfl,by decide +kernel,rfl,by decide +kernel,by decide +kernel⟩
abbrev ZpB:List Str:=["end","segment","now"]
theorem ZzT:Zq ["end","segment","now"] ZpB (Zg ZkO):=⟨rfl,rfl,rfl,by decide +kernel,rfl,by decide +kernel,by decide +kernel⟩
abbrev ZpA:List Str:=["end","segment"]
theorem ZzS:Zq ["end","segment"] ZpA (Zg ZkN):=⟨rfl,rfl,rfl,by decide +kernel,rfl,by decide +kernel,by decide +kernel⟩
abbrev Zpz:List Str:=["end","segment","now"]
theorem ZzR:Zq ["end","segment","now"] Zpz (Zg ZkM):=⟨rfl,rfl,rfl,by decide +kernel,rfl,by decide +kernel,by decide +kernel⟩
abbrev Zpy:List Str:=["end","segment"]
theorem ZzQ:Zq ["end","segment"] Zpy (Zg ZkL):=⟨rfl,rfl,rfl,by decide +kernel,rfl,by decide +kernel,by decide +kernel⟩
abbrev Zpx:List Str:=["end","segment"]
theorem ZzP:Zq ["end","segment"] Zpx (Zg ZkK):=⟨rfl,rfl,rfl,by decide +kernel,rfl,by decide +kernel,by decide +kernel⟩
abbrev Zpw:List Str:=["end","segment","now"]
theorem zc53:Zq ["end","segment","now","answer","has_gone_on","was_shut"] Zpw (Zg ZkJ):=⟨rfl,rfl,rfl,by decide +kernel,rfl,by decide +kernel,by decide +kernel⟩
abbrev Zpv:List Str:=["end","segment"]
theorem ZzO:Zq ["end","segment"] Zpv (Zg ZkI):=⟨rfl,rfl,rfl,by decide +kernel,rfl,by decide +kernel,by decide +kernel⟩
abbrev Zpu:List Str:=["end","now"]
theorem ZzN:Zq ["end","now"] Zpu (Zg ZkH):=⟨rfl,rfl,rfl,by decide +kernel,rfl,by decide +kernel,by decide +kernel⟩
abbrev Zpt:List Str:=["end","segment","now"]
theorem ZzM:Zq ["end","segment","now"] Zpt (Zg ZkG):=⟨rfl,rfl,rfl,by decide +kernel,rfl,by decide +kernel,by decide +kernel⟩
abbrev Zps:List Str:=["end","segment"]
theorem zc57:Zq ["end","segment","place","byte","number"] Zps (Zg ZkF):=⟨rfl,rfl,rfl,by decide +kernel,rfl,by decide +kernel,by decide +kernel⟩
abbrev Zpr:List Str:=["end","segment"]
theorem zc58:Zq ["end","segment","number"] Zpr (Zg ZkE):=⟨rfl,rfl,rfl,by decide +kernel,rfl,by decide +kernel,by decide +kernel⟩
abbrev Zpq:List Str:=["end"]
theorem zc59:Zq ["end","row"] Zpq (Zg ZkD):=⟨rfl,rfl,rfl,by decide +kernel,rfl,by decide +kernel,by decide +kernel⟩
abbrev Zpp:List Str:=["end","now"]
theorem ZzL:Zq ["end","now"] Zpp (Zg ZkC):=⟨rfl,rfl,rfl,by decide +kernel,rfl,by decide +kernel,by decide +kernel⟩
abbrev Zpo:List Str:=["end","now"]
theorem zc61:Zq ["end","now","segment"] Zpo (Zg ZkB):=⟨rfl,rfl,rfl,by decide +kernel,rfl,by decide +kernel,by decide +kernel⟩
abbrev Zpn:List Str:=["end","now"]
theorem zc62:Zq ["end","now","segment"] Zpn (Zg ZkA):=⟨rfl,rfl,rfl,by decide +kernel,rfl,by decide +kernel,by decide +kernel⟩
abbrev Zpm:List Str:=["end"]
theorem zc63:Zq ["end","segment"] Zpm (Zg Zkz):=⟨rfl,rfl,rfl,by decide +kernel,rfl,by decide +kernel,by decide +kernel⟩
abbrev Zpl:List Str:=["end","now"]
theorem ZzK:Zq ["end","now"] Zpl (Zg Zky):=⟨rfl,rfl,rfl,by decide +kernel,rfl,by decide +kernel,by decide +kernel⟩
abbrev Zpk:List Str:=["end","now"]
theorem zc65:Zq ["end","now","data"] Zpk (Zg Zkx):=⟨rfl,rfl,rfl,by decide +kernel,rfl,by decide +kernel,by decide +kernel⟩
abbrev Zpj:List Str:=["end"]
theorem ZzJ:Zq ["end"] Zpj (Zg Zkw):=⟨rfl,rfl,rfl,by decide +kernel,rfl,by decide +kernel,by decide +kernel⟩
abbrev Zpi:List Str:=["end"]
theorem ZzI:Zq ["end"] Zpi (Zg Zkv):=⟨rfl,rfl,rfl,by decide +kernel,rfl,by decide +kernel,by decide +kernel⟩
abbrev Zph:List Str:=["end","number","flags","data"]
theorem ZzH:Zq ["end","number","flags","data"] Zph (Zg Zku):=⟨rfl,rfl,rfl,by decide +kernel,rfl,by decide +kernel,by decide +kernel⟩
abbrev Zpg:List Str:=["end","now"]
theorem zc69:Zq ["end","now","room"] Zpg (Zg Zkt):=⟨rfl,rfl,rfl,by decide +kernel,rfl,by decide +kernel,by decide +kernel⟩
abbrev Zpf:List Str:=["end","now"]
theorem ZzG:Zq ["end","now"] Zpf (Zg Zks):=⟨rfl,rfl,rfl,by decide +kernel,rfl,by decide +kernel,by decide +kernel⟩
abbrev Zpe:List Str:=["end"]
theorem ZzF:Zq ["end"] Zpe (Zg Zkr):=⟨rfl,rfl,rfl,by decide +kernel,rfl,by decide +kernel,by decide +kernel⟩
abbrev Zpd:List Str:=["end"]
theorem ZzE:Zq ["end"] Zpd (Zg Zkq):=⟨rfl,rfl,rfl,by decide +kernel,rfl,by decide +kernel,by decide +kernel⟩
abbrev Zpc:List Str:=["end"]
theorem ZzD:Zq ["end"] Zpc (Zg Zkp):=⟨rfl,rfl,rfl,by decide +kernel,rfl,by decide +kernel,by decide +kernel⟩
abbrev Zpb:List Str:=["end"]
theorem ZzC:Zq ["end"] Zpb (Zg Zko):=⟨rfl,rfl,rfl,by decide +kernel,rfl,by decide +kernel,by decide +kernel⟩
abbrev Zpa:List Str:=["end","room"]
theorem ZzB:Zq ["end","room"] Zpa (Zg Zkn):=⟨rfl,rfl,rfl,by decide +kernel,rfl,by decide +kernel,by decide +kernel⟩
abbrev Zo9:List Str:=["end","room"]
theorem zc76:Zq ["end","room","number","many","place"] Zo9 (Zg Zkm):=⟨rfl,rfl,rfl,by decide +kernel,rfl,by decide +kernel,by decide +kernel⟩
abbrev Zo8:List Str:=["end"]
theorem zc77:Zq ["end","number"] Zo8 (Zg Zkl):=⟨rfl,rfl,rfl,by decide +kernel,rfl,by decide +kernel,by decide +kernel⟩
abbrev Zo7:List Str:=["end","now"]
theorem ZzA:Zq ["end","now"] Zo7 (Zg Zkk):=⟨rfl,rfl,rfl,by decide +kernel,rfl,by decide +kernel,by decide +kernel⟩
abbrev Zo6:List Str:=["end"]
theorem Zzz:Zq ["end"] Zo6 (Zg Zkj):=⟨rfl,rfl,rfl,by decide +kernel,rfl,by decide +kernel,by decide +kernel⟩
abbrev Zo5:List Str:=["_law_script","_law_k"]
theorem Zzy:Zq ["_law_script","_law_k"] Zo5 (Zg Zki):=⟨rfl,rfl,rfl,by decide +kernel,rfl,by decide +kernel,by decide +kernel⟩
abbrev Zo4:List Str:=["_law_script","_law_k"]
theorem zc81:Zq ["_law_script","_law_k","_law_number"] Zo4 (Zg Zkh):=⟨rfl,rfl,rfl,by decide +kernel,rfl,by decide +kernel,by decide +kernel⟩
abbrev Zo3:List Str:=["_law_number"]
theorem Zzx:Zq ["_law_number"] Zo3 (Zg Zkg):=⟨rfl,rfl,rfl,by decide +kernel,rfl,by decide +kernel,by decide +kernel⟩
abbrev Zo2:List Str:=["_law_row"]
theorem zc83:Zq ["_law_row","_law_total","_law_k"] Zo2 (Zg Zkf):=⟨rfl,rfl,rfl,by decide +kernel,rfl,by decide +kernel,by decide +kernel⟩
abbrev Zo1:List Str:=["_law_segment_here"]
theorem zc84:Zq ["_law_segment_here","_law_row","_law_number"] Zo1 (Zg Zke):=⟨rfl,rfl,rfl,by decide +kernel,rfl,by decide +kernel,by decide +kernel⟩
abbrev Zo0:List Str:=["_law_row"]
theorem zc85:Zq ["_law_row","_law_head","_law_most","_law_words","_law_found"] Zo0 (Zg ZiA):=⟨rfl,rfl,rfl,by decide +kernel,rfl,by decide +kernel,by decide +kernel⟩
abbrev ZoZ:List Str:=["_law_byte_here"]
theorem Zzw:Zq ["_law_byte_here"] ZoZ (Zg Zkd):=⟨rfl,rfl,rfl,by decide +kernel,rfl,by decide +kernel,by decide +kernel⟩
abbrev ZoY:List Str:=["_law_number","_law_step"]
theorem Zzv:Zq ["_law_number","_law_step"] ZoY (Zg Zkc):=⟨rfl,rfl,rfl,by decide +kernel,rfl,by decide +kernel,by decide +kernel⟩
abbrev ZoX:List Str:=["_law_number"]
theorem Zzu:Zq ["_law_number"] ZoX (Zg Zkb):=⟨rfl,rfl,rfl,by decide +kernel,rfl,by decide +kernel,by decide +kernel⟩
abbrev ZoW:List Str:=["_law_talk","_law_number","_law_answer","_law_flags_here","_law_window","_law_data"]
theorem Zzt:Zq ["_law_talk","_law_number","_law_answer","_law_flags_here","_law_window","_law_data"] ZoW (Zg Zka):=⟨rfl,rfl,rfl,by decide +kernel,rfl,by decide +kernel,by decide +kernel⟩
abbrev ZoV:List Str:=["_law_end","_law_now"]
theorem zc90:Zq ["_law_end","_law_now","_law_found","_law_k","_law_row"] ZoV (Zg Zj9):=⟨rfl,rfl,rfl,by decide +kernel,rfl,by decide +kernel,by decide +kernel⟩
abbrev ZoU:List Str:=["_law_script","_law_base","_law_window","_law_most"]
theorem zc91:Zq ["_law_script","_law_base","_law_window","_law_most","_law_talk","_law_mine","_law_theirs","_law_end"] ZoU (Zg Zj8):=⟨rfl,rfl,rfl,by decide +kernel,rfl,by decide +kernel,by decide +kernel⟩
abbrev ZoT:List Str:=["_law_after","_law_closed"]
theorem Zzs:Zq ["_law_after","_law_closed"] ZoT (Zg Zj7):=⟨rfl,rfl,rfl,by decide +kernel,rfl,by decide +kernel,by decide +kernel⟩
abbrev ZoS:List Str:=["_law_found","_law_due"]
theorem Zzr:Zq ["_law_found","_law_due"] ZoS (Zg Zj6):=⟨rfl,rfl,rfl,by decide +kernel,rfl,by decide +kernel,by decide +kernel⟩
abbrev ZoR:List Str:=["_law_after"]
theorem Zzq:Zq ["_law_after"] ZoR (Zg Zj5):=⟨rfl,rfl,rfl,by decide +kernel,rfl,by decide +kernel,by decide +kernel⟩
abbrev ZoQ:List Str:=["_law_after","_law_closed"]
theorem Zzp:Zq ["_law_after","_law_closed"] ZoQ (Zg Zj4):=⟨rfl,rfl,rfl,by decide +kernel,rfl,by decide +kernel,by decide +kernel⟩
abbrev ZoP:List Str:=["_law_made_here","_law_rcv","_law_due"]
theorem zc96:Zq ["_law_made_here","_law_rcv","_law_due","_law_went","_law_segment_here"] ZoP (Zg Zjt):=⟨rfl,rfl,rfl,by decide +kernel,rfl,by decide +kernel,by decide +kernel⟩
abbrev ZoO:List Str:=["_law_script"]
theorem zc97:Zq ["_law_script","_law_made_here","_law_end","_law_data","_law_given_here","_law_after","_law_closed","_law_rcv","_law_heard_here","_law_k","_law_act","_law_due","_law_answer","_law_row"] ZoO (Zg Zgv):=⟨rfl,rfl,rfl,by decide +kernel,rfl,by decide +kernel,by decide +kernel⟩
structure Glb (K:PySem.W.Frag) (mg:Str→Option Value):Prop where
  zc0:∃t,mg "ACK"=some (.int 16 t)
  zc1:∃t,mg "ANSWER"=some (.int 3 t)
  zc2:∃t,mg "CLOSED"=some (.str "closed" t)
  zc3:∃t,mg "CLOSE_WAIT"=some (.str "close wait" t)
  zc4:∃t,mg "CLOSING"=some (.str "closing" t)
  zc5:∃t,mg "DATA"=some (.int 7 t)
  zc6:∃t,mg "FIN"=some (.int 1 t)
  zc7:∃t,mg "FIRST_WAIT"=some (.int 1000 t)
  zc8:∃t,mg "FLAGS"=some (.int 4 t)
  zc9:∃t,mg "GOAL"=some (.int 1 t)
  zc10:∃t,mg "GREATEST_DATA"=some (.int 16 t)
  zc11:∃t,mg "GREATEST_FLAGS"=some (.int 31 t)
  zc12:∃t,mg "GREATEST_WORD"=some (.int 65535 t)
  zc13:∃t,mg "HALF_ROUND"=some (.int 2147483648 t)
  zc14:∃t,mg "LAST_ACK"=some (.str "last ack" t)
  zc15:∃t,mg "LAST_WAIT"=some (.int 120000 t)
  zc16:∃t,mg "LEAST_MOST"=some (.int 4 t)
  zc17:∃t,mg "LISTEN"=some (.str "listen" t)
  zc18:∃t,mg "LONGEST_WAIT"=some (.int 16000 t)
  zc19:∃t,mg "LONG_HEAD"=some (.int 24 t)
  zc20:∃t,mg "MOST"=some (.int 6 t)
  zc21:∃t,mg "MOST_TRIES"=some (.int 6 t)
  zc22:∃t,mg "MOST_UNTOLD"=some (.int 12 t)
  zc23:∃t,mg "NO_ERROR"=some (.str "" t)
  zc24:∃t,mg "NUMBER"=some (.int 2 t)
  zc25:∃t,mg "OPEN"=some (.str "open" t)
  zc26:∃t,mg "PSH"=some (.int 8 t)
  zc27:∃t,mg "REFUSED"=some (.str "refused" t)
  zc28:∃t,mg "RESET"=some (.str "reset" t)
  zc29:∃t,mg "RIGHT_SUM"=some (.int 65535 t)
  zc30:∃t,mg "ROOM"=some (.int 64 t)
  zc31:∃t,mg "ROUND"=some (.int 4294967296 t)
  zc32:∃t,mg "RST"=some (.int 4 t)
  zc33:∃t,mg "SHORT_HEAD"=some (.int 20 t)
  zc34:∃t,mg "SOURCE"=some (.int 0 t)
  zc35:∃t,mg "SYN"=some (.int 2 t)
  zc36:∃t,mg "SYN_COME"=some (.str "syn come" t)
  zc37:∃t,mg "SYN_SENT"=some (.str "syn sent" t)
  zc38:∃t,mg "TIME"=some (.str "time" t)
  zc39:∃t,mg "TIME_WAIT"=some (.str "time wait" t)
  zc40:∃t,mg "WAIT_ONE"=some (.str "wait one" t)
  zc41:∃t,mg "WAIT_TWO"=some (.str "wait two" t)
  zc42:∃t,mg "WINDOW"=some (.int 5 t)
  zc43:∃t,mg "WORDS"=some (.int 65536 t)
  b_all:mg "all"=none
  b_bool:mg "bool"=none
  b_enumerate:mg "enumerate"=none
  b_int:mg "int"=none
  b_isinstance:mg "isinstance"=none
  b_len:mg "len"=none
  b_list:mg "list"=none
  b_max:mg "max"=none
  b_min:mg "min"=none
  b_range:mg "range"=none
  b_sum:mg "sum"=none
  b_tuple:mg "tuple"=none
  k_End:Cls K (z9 mg "End")
  k_Pile:Cls K (z9 mg "Pile")
  zn0:NoAttr K (z9 mg "End") "behind"
  zn1:NoAttr K (z9 mg "End") "come"
  zn2:NoAttr K (z9 mg "End") "early"
  zn3:NoAttr K (z9 mg "End") "early_fin"
  zn4:NoAttr K (z9 mg "End") "error"
  zn5:NoAttr K (z9 mg "End") "first"
  zn6:NoAttr K (z9 mg "End") "has_closed"
  zn7:NoAttr K (z9 mg "End") "most"
  zn8:NoAttr K (z9 mg "End") "nxt"
  zn9:NoAttr K (z9 mg "End") "ours"
  zn10:NoAttr K (z9 mg "End") "owed_reset"
  zn11:NoAttr K (z9 mg "End") "owes_answer"
  zn12:NoAttr K (z9 mg "End") "owes_syn"
  zn13:NoAttr K (z9 mg "End") "probes"
  zn14:NoAttr K (z9 mg "End") "rcv"
  zn15:NoAttr K (z9 mg "End") "since"
  zn16:NoAttr K (z9 mg "End") "state"
  zn17:NoAttr K (z9 mg "End") "theirs"
  zn18:NoAttr K (z9 mg "End") "told"
  zn19:NoAttr K (z9 mg "End") "told_by"
  zn20:NoAttr K (z9 mg "End") "tries"
  zn21:NoAttr K (z9 mg "End") "una"
  zn22:NoAttr K (z9 mg "End") "wait"
  zn23:NoAttr K (z9 mg "End") "wnd"
  zn24:NoAttr K (z9 mg "End") "written"
  zn25:NoAttr K (z9 mg "Pile") "row"
section
variable {P:Program} {w:World} {K:PySem.W.Frag} {mg:Str→Option Value} {base:Heap}
theorem zo0 (D:Mk0 K mg "Pile" "Pile.__init__" zs0 zP0) (g:Glb K mg) :MMk P w K mg base 1 "Pile" ZbP:=
  mk0 D zc0 1 1 rfl rfl fun f cdv A outer s H E hr=>(Zi (Zz (Zt ⟨g.k_Pile,g.zn25⟩) (Zb 0) (z0 Zf)))
theorem zo1 (D:Zl K mg "room" zs1 zP1) (g:Glb K mg) :Zo P w K mg base 1 "room" Zd8:=
  ZV D zc1 1 1 rfl rfl fun f cdv A outer s H E hr=>(Zi (Zu (Zx ZeL (Zm g.zc30) (Z3 Zdj g.b_len PySem.boot_len (Za (Zp (Zt ⟨g.k_Pile,g.zn25⟩) (Zb 0)) Zf)))))
theorem zo2 (D:Zl K mg "lay" zs2 zP2) (g:Glb K mg) (zd1:Zo P w K mg base 1 "room" Zd8):Zo P w K mg base 2 "lay" ZfZ:=
  ZV D zc2 2 3 rfl rfl fun f cdv A outer s H E hr=>(Ze (ZG 2 zc2.nd (Zbk (Zb 1) ZbZ (Zaq (Zh zd1 hr (by decide) (Za (Zb 0) Zf)))))
  (Ze (Zz (Zt ⟨g.k_Pile,g.zn25⟩) (Zb 0) (Zx ZQ (Zp (Zt ⟨g.k_Pile,g.zn25⟩) (Zb 0)) (Zb 2)))
  (Zi (Zu (Z3 Zdj g.b_len PySem.boot_len (Za (Zb 2) Zf))))))
theorem zo3 (D:Zl K mg "take" zs3 zP3) (g:Glb K mg) :Zo P w K mg base 1 "take" Zch:=
  ZV D zc3 2 4 rfl rfl fun f cdv A outer s H E hr=>(Ze (ZG 2 zc3.nd (Z3 Zxl g.b_max PyProof.Rows.boot_max (Za (Zb 1) (Za Zj Zf))))
  (Ze (ZG 3 zc3.nd (Zbk (Zp (Zt ⟨g.k_Pile,g.zn25⟩) (Zb 0)) ZbZ (Zaq (Zb 2))))
  (Ze (Zz (Zt ⟨g.k_Pile,g.zn25⟩) (Zb 0) (Zbk (Zp (Zt ⟨g.k_Pile,g.zn25⟩) (Zb 0)) (Zaq (Zb 2)) ZbZ))
  (Zi (Zu (Zb 3))))))
theorem zo4 (D:Zl K mg "plus" zs4 zP4) (g:Glb K mg) :Zo P w K mg base 1 "plus" zr:=
  ZV D zc4 2 2 rfl rfl fun f cdv A outer s H E hr=>(Zi (Zu (Zx Za6 (Zx ZQ (Zb 0) (Zb 1)) (Zm g.zc31))))
theorem zo5 (D:Zl K mg "offset" zs5 zP5) (g:Glb K mg) :Zo P w K mg base 1 "offset" zF:=
  ZV D zc5 2 2 rfl rfl fun f cdv A outer s H E hr=>(Zi (Zu (Zx ZeL (Zx Za6 (Zx ZQ (Zx ZeL (Zb 0) (Zb 1)) (Zm g.zc13)) (Zm g.zc31)) (Zm g.zc13))))
theorem zo6 (D:Zl K mg "past" zs6 zP6) (g:Glb K mg) (zd5:Zo P w K mg base 1 "offset" zF):Zo P w K mg base 2 "past" Zci:=
  ZV D zc6 2 2 rfl rfl fun f cdv A outer s H E hr=>(Zi (Zu (zu Zhs (Zh zd5 hr (by decide) (Za (Zb 0) (Za (Zb 1) Zf))) Zj)))
theorem zo7 (D:Mk0 K mg "End" "End.__init__" zs7 zP7) (g:Glb K mg) (zd0:MMk P w K mg base 1 "Pile" ZbP) (zd4:Zo P w K mg base 1 "plus" zr):MMk P w K mg base 3 "End" Zcm:=
  mk0 D zc7 5 5 rfl rfl fun f cdv A outer s H E hr=>(Ze (Zz (Zt ⟨g.k_End,g.zn9⟩) (Zb 0) (Zb 1))
  (Ze (Zz (Zt ⟨g.k_End,g.zn17⟩) (Zb 0) (Zb 2))
  (Ze (Zz (Zt ⟨g.k_End,g.zn16⟩) (Zb 0) (ZcN (ZE (Zb 4)) (ZB g.zc37) (ZB g.zc17)))
  (Ze (Zz (Zt ⟨g.k_End,g.zn4⟩) (Zb 0) (ZB g.zc23))
  (Ze (Zz (Zt ⟨g.k_End,g.zn5⟩) (Zb 0) (Zb 3))
  (Ze (Zz (Zt ⟨g.k_End,g.zn21⟩) (Zb 0) (Zb 3))
  (Ze (Zz (Zt ⟨g.k_End,g.zn8⟩) (Zb 0) (Zb 3))
  (Ze (Zz (Zt ⟨g.k_End,g.zn14⟩) (Zb 0) Zj)
  (Ze (Zz (Zt ⟨g.k_End,g.zn23⟩) (Zb 0) Zj)
  (Ze (Zz (Zt ⟨g.k_End,g.zn18⟩) (Zb 0) Zj)
  (Ze (Zz (Zt ⟨g.k_End,g.zn19⟩) (Zb 0) Zj)
  (Ze (Zz (Zt ⟨g.k_End,g.zn7⟩) (Zb 0) (Zm g.zc22))
  (Ze (Zz (Zt ⟨g.k_End,g.zn24⟩) (Zb 0) (ZlW zd0 hr (by decide)))
  (Ze (Zz (Zt ⟨g.k_End,g.zn1⟩) (Zb 0) (ZlW zd0 hr (by decide)))
  (Ze (Zz (Zt ⟨g.k_End,g.zn2⟩) (Zb 0) Zrg)
  (Ze (Zz (Zt ⟨g.k_End,g.zn3⟩) (Zb 0) ZaM)
  (Ze (Zz (Zt ⟨g.k_End,g.zn6⟩) (Zb 0) zD)
  (Ze (Zz (Zt ⟨g.k_End,g.zn0⟩) (Zb 0) (Zh zd4 hr (by decide) (Za (Zb 3) (Za Zj Zf))))
  (Ze (Zz (Zt ⟨g.k_End,g.zn10⟩) (Zb 0) ZaM)
  (Ze (Zz (Zt ⟨g.k_End,g.zn12⟩) (Zb 0) zD)
  (Ze (Zz (Zt ⟨g.k_End,g.zn11⟩) (Zb 0) zD)
  (Ze (Zz (Zt ⟨g.k_End,g.zn13⟩) (Zb 0) zD)
  (Ze (Zz (Zt ⟨g.k_End,g.zn15⟩) (Zb 0) Zj)
  (Ze (Zz (Zt ⟨g.k_End,g.zn22⟩) (Zb 0) (Zm g.zc7))
  (Zi (Zz (Zt ⟨g.k_End,g.zn20⟩) (Zb 0) Zj))))))))))))))))))))))))))
theorem zo8 (D:Zl K mg "start_timer" zs8 zP8) (g:Glb K mg) :Zo P w K mg base 1 "start_timer" zd:=
  ZV D zc8 2 2 rfl rfl fun f cdv A outer s H E hr=>(Ze (Zz (Zt ⟨g.k_End,g.zn15⟩) (Zb 0) (Zb 1))
  (Ze (Zz (Zt ⟨g.k_End,g.zn22⟩) (Zb 0) (Zm g.zc7))
  (Zi (Zz (Zt ⟨g.k_End,g.zn20⟩) (Zb 0) Zj))))
theorem zo9 (D:Zl K mg "state" zs9 zP9) (g:Glb K mg) :Zo P w K mg base 1 "state" ZfY:=
  ZV D zc9 1 1 rfl rfl fun f cdv A outer s H E hr=>(Zi (Zu (Zp (Zt ⟨g.k_End,g.zn16⟩) (Zb 0))))
theorem Zzo (D:Zl K mg "error" Zlq Zqd) (g:Glb K mg) :Zo P w K mg base 1 "error" Zf0:=
  ZV D zc10 1 1 rfl rfl fun f cdv A outer s H E hr=>(Zi (Zu (Zp (Zt ⟨g.k_End,g.zn4⟩) (Zb 0))))
theorem Zzn (D:Zl K mg "our_window" Zlp Zqc) (g:Glb K mg) (zd1:Zo P w K mg base 1 "room" Zd8):Zo P w K mg base 2 "our_window" zP:=
  ZV D zc11 1 1 rfl rfl fun f cdv A outer s H E hr=>(Zi (Zu (Zh zd1 hr (by decide) (Za (Zp (Zt ⟨g.k_End,g.zn1⟩) (Zb 0)) Zf))))
theorem Zzm (D:Zl K mg "has_sent_fin" Zlo Zqb) (g:Glb K mg) (zd6:Zo P w K mg base 2 "past" Zci):Zo P w K mg base 3 "has_sent_fin" Zbi:=
  ZV D zc12 1 1 rfl rfl fun f cdv A outer s H E hr=>(Zi (Zu (Zh zd6 hr (by decide) (Za (Zp (Zt ⟨g.k_End,g.zn8⟩) (Zb 0)) (Za (Zp (Zt ⟨g.k_End,g.zn0⟩) (Zb 0)) Zf)))))
theorem Zzl (D:Zl K mg "folded" Zln Zqa) (g:Glb K mg) :Zo P w K mg base 1 "folded" Zde:=
  ZV D zc13 1 2 rfl rfl fun f cdv A outer s H E hr=>(Ze (ZG 1 zc13.nd (Zx ZQ (Zx Zcf Zj (Z3 Zt1 g.b_sum PyProof.Rows.boot_sum (Za (Zi3 (Zb 0) ZbZ ZbZ (Zaq Zj)) Zf))) (Z3 Zt1 g.b_sum PyProof.Rows.boot_sum (Za (Zi3 (Zb 0) (Zaq Zj) ZbZ (Zaq Zj)) Zf))))
  (Ze (Zh0 200 PassesOwn.never (ZF Zhs (Zb 1) (Zm g.zc12)) (Zi (ZG 1 zc13.nd (Zx ZQ (Zx Za6 (Zb 1) (Zm g.zc43)) (Zx Zer (Zb 1) (Zm g.zc43))))))
  (Zi (Zu (Zb 1)))))
theorem Zzk (D:Zl K mg "sum_of" Zlm Zp9) (g:Glb K mg) (zd13:Zo P w K mg base 1 "folded" Zde):Zo P w K mg base 2 "sum_of" ZeF:=
  ZV D zc14 1 1 rfl rfl fun f cdv A outer s H E hr=>(Zi (Zu (Zx ZeL (Zm g.zc12) (Zh zd13 hr (by decide) (Za (Zb 0) Zf)))))
theorem Zzi (D:Zl K mg "has" Zlk Zp7) (g:Glb K mg) :Zo P w K mg base 1 "has" Zfs:=
  ZV D zc16 2 2 rfl rfl fun f cdv A outer s H E hr=>(Zi (Zu (ZcN (ZF (Zea hr.units) (Zx ZwV (Zb 0) (Zb 1)) Zj) Zj Zj)))
theorem Zzj (D:Zl K mg "length" Zll Zp8) (g:Glb K mg) (zd16:Zo P w K mg base 1 "has" Zfs):Zo P w K mg base 2 "length" ZcB:=
  ZV D zc15 1 2 rfl rfl fun f cdv A outer s H E hr=>(Ze (ZG 1 zc15.nd (ZC ZD (Zb 0) (Zm g.zc8)))
  (Zi (Zu (Zx ZQ (Zx ZQ (Z3 Zdj g.b_len PySem.boot_len (Za (ZC ZD (Zb 0) (Zm g.zc5)) Zf)) (Zh zd16 hr (by decide) (Za (Zb 1) (Za (Zm g.zc35) Zf)))) (Zh zd16 hr (by decide) (Za (Zb 1) (Za (Zm g.zc6) Zf)))))))
theorem Zzh (D:Zl K mg "bears" Zlj Zp6) (g:Glb K mg) (zd16:Zo P w K mg base 1 "has" Zfs):Zo P w K mg base 2 "bears" Z8:=
  ZV D zc17 2 2 rfl rfl fun f cdv A outer s H E hr=>(Zi (Zu (zu (zU hr.units) (Zh zd16 hr (by decide) (Za (ZC ZD (Zb 0) (Zm g.zc8)) (Za (Zb 1) Zf))) Zj)))
theorem Zze (D:Zl K mg "byte_of_head" Zlg Zp3) (g:Glb K mg) :Zo P w K mg base 1 "byte_of_head" zT:=
  ZV D zc20 1 1 rfl rfl fun f cdv A outer s H E hr=>(Zi (Zu (Zx Zcf Zj (Zx Zer (Zb 0) Zj))))
theorem Zzc (D:Zl K mg "two_bytes" Zle Zp1) (g:Glb K mg) :Zo P w K mg base 1 "two_bytes" zn:=
  ZV D zc22 1 1 rfl rfl fun f cdv A outer s H E hr=>(Zi (Zu (z0 (Za (Zx Za6 (Zx Zer (Zb 0) Zj) Zj) (Za (Zx Za6 (Zb 0) Zj) Zf)))))
theorem Zzb (D:Zl K mg "four_bytes" Zld Zp0) (g:Glb K mg) (zd22:Zo P w K mg base 1 "two_bytes" zn):Zo P w K mg base 2 "four_bytes" Zbp:=
  ZV D zc23 1 1 rfl rfl fun f cdv A outer s H E hr=>(Zi (Zu (Zx ZQ (Zh zd22 hr (by decide) (Za (Zx Zer (Zb 0) Zj) Zf)) (Zh zd22 hr (by decide) (Za (Zb 0) Zf)))))
theorem Zzf (D:Zl K mg "bytes_ahead_of_sum" Zlh Zp4) (g:Glb K mg) (zd20:Zo P w K mg base 1 "byte_of_head" zT) (zd23:Zo P w K mg base 2 "four_bytes" Zbp) (zd22:Zo P w K mg base 1 "two_bytes" zn):Zo P w K mg base 3 "bytes_ahead_of_sum" zS:=
  ZV D zc19 1 4 rfl rfl fun f cdv A outer s H E hr=>(Ze (ZG 1 zc19.nd (Zx ZQ (Zh zd22 hr (by decide) (Za (ZC ZD (Zb 0) (Zm g.zc34)) Zf)) (Zh zd22 hr (by decide) (Za (ZC ZD (Zb 0) (Zm g.zc9)) Zf))))
  (Ze (ZG 2 zc19.nd (Zx ZQ (Zh zd23 hr (by decide) (Za (ZC ZD (Zb 0) (Zm g.zc24)) Zf)) (Zh zd23 hr (by decide) (Za (ZC ZD (Zb 0) (Zm g.zc1)) Zf))))
  (Ze (ZG 3 zc19.nd (ZcN (ZF (zU hr.units) (ZC ZD (Zb 0) (Zm g.zc20)) Zj) (Zm g.zc33) (Zm g.zc19)))
  (Zi (Zu (Zx ZQ (Zx ZQ (Zx ZQ (Zb 1) (Zb 2)) (z0 (Za (Zh zd20 hr (by decide) (Za (Zb 3) Zf)) (Za (ZC ZD (Zb 0) (Zm g.zc8)) Zf)))) (Zh zd22 hr (by decide) (Za (ZC ZD (Zb 0) (Zm g.zc42)) Zf))))))))
theorem Zzd (D:Zl K mg "bytes_of_most" Zlf Zp2) (g:Glb K mg) (zd22:Zo P w K mg base 1 "two_bytes" zn):Zo P w K mg base 2 "bytes_of_most" Za5:=
  ZV D zc21 1 1 rfl rfl fun f cdv A outer s H E hr=>(Zi (Zu (ZcN (ZF (zU hr.units) (Zb 0) Zj) (z0 Zf) (Zx ZQ (z0 (Za Zj (Za Zj Zf))) (Zh zd22 hr (by decide) (Za (Zb 0) Zf))))))
theorem Zzg (D:Zl K mg "put" Zli Zp5) (g:Glb K mg) (zd19:Zo P w K mg base 3 "bytes_ahead_of_sum" zS) (zd21:Zo P w K mg base 2 "bytes_of_most" Za5) (zd14:Zo P w K mg base 2 "sum_of" ZeF) (zd22:Zo P w K mg base 1 "two_bytes" zn):Zo P w K mg base 4 "put" ZlJ:=
  ZV D zc18 1 3 rfl rfl fun f cdv A outer s H E hr=>(Ze (ZG 1 zc18.nd (Zh zd19 hr (by decide) (Za (Zb 0) Zf)))
  (Ze (ZG 2 zc18.nd (Zx ZQ (Zx ZQ (z0 (Za Zj (Za Zj Zf))) (Zh zd21 hr (by decide) (Za (ZC ZD (Zb 0) (Zm g.zc20)) Zf))) (ZaN ZrO g.b_list PyProof.Rows.boot_list (Za (ZC ZD (Zb 0) (Zm g.zc5)) Zf))))
  (Zi (Zu (Zx ZQ (Zx ZQ (Zb 1) (Zh zd22 hr (by decide) (Za (Zh zd14 hr (by decide) (Za (Zx ZQ (Zx ZQ (Zb 1) (z0 (Za Zj (Za Zj Zf)))) (Zb 2)) Zf)) Zf))) (Zb 2))))))
theorem Zy9 (D:Zl K mg "head_of" Zlb ZpY) (g:Glb K mg) :Zo P w K mg base 1 "head_of" Zbo:=
  ZV D zc25 1 1 rfl rfl fun f cdv A outer s H E hr=>(Zi (Zu (Zx Zcf (Zx Zer (ZC ZD (Zb 0) Zj) Zj) Zj)))
theorem Zy6 (D:Zl K mg "two_at" Zk8 ZpV) (g:Glb K mg) :Zo P w K mg base 1 "two_at" Zaf:=
  ZV D zc28 2 2 rfl rfl fun f cdv A outer s H E hr=>(Zi (Zu (Zx ZQ (Zx Zcf Zj (ZC ZD (Zb 0) (Zb 1))) (ZC ZD (Zb 0) (Zx ZQ (Zb 1) Zj)))))
theorem Zy8 (D:Zl K mg "is_right_long_head" Zla ZpX) (g:Glb K mg) (zd16:Zo P w K mg base 1 "has" Zfs) (zd28:Zo P w K mg base 1 "two_at" Zaf):Zo P w K mg base 2 "is_right_long_head" zR:=
  ZV D zc26 1 1 rfl rfl fun f cdv A outer s H E hr=>(Zi (Zu (Zbx (zu (zU hr.units) (Zh zd16 hr (by decide) (Za (ZC ZD (Zb 0) Zj) (Za (Zm g.zc35) Zf))) Zj) (Zbx (zu (zU hr.units) (ZC ZD (Zb 0) Zj) Zj) (Zbx (zu (zU hr.units) (ZC ZD (Zb 0) Zj) Zj) (Zco (zu ZsU (Zh zd28 hr (by decide) (Za (Zb 0) (Za Zj Zf))) (Zm g.zc16))))))))
theorem Zza (D:Zl K mg "is_right" Zlc ZpZ) (g:Glb K mg) (zd20:Zo P w K mg base 1 "byte_of_head" zT) (zd13:Zo P w K mg base 1 "folded" Zde) (zd25:Zo P w K mg base 1 "head_of" Zbo) (zd26:Zo P w K mg base 2 "is_right_long_head" zR) (zd28:Zo P w K mg base 1 "two_at" Zaf):Zo P w K mg base 3 "is_right" Zah:=
  ZV D zc24 1 1 rfl rfl fun f cdv A outer s H E hr=>(Zi (Zu (Zbx (zu ZsU (Z3 Zdj g.b_len PySem.boot_len (Za (Zb 0) Zf)) (Zm g.zc33)) (Zbx (zu ZjH (ZC ZD (Zb 0) Zj) (zc (Za (Zh zd20 hr (by decide) (Za (Zm g.zc33) Zf)) (Za (Zh zd20 hr (by decide) (Za (Zm g.zc19) Zf)) Zf))) (by with_unfolding_all rfl)) (Zbx (zu ZhU (ZC ZD (Zb 0) Zj) (Zm g.zc11)) (Zbx (Zf7 ZhU ZhU Zj (Zx ZeL (Z3 Zdj g.b_len PySem.boot_len (Za (Zb 0) Zf)) (Zh zd25 hr (by decide) (Za (Zb 0) Zf))) (Zm g.zc10)) (Zbx (zu (zU hr.units) (Zh zd28 hr (by decide) (Za (Zb 0) (Za Zj Zf))) Zj) (Zbx (ZlV (zu (zU hr.units) (Zh zd25 hr (by decide) (Za (Zb 0) Zf)) (Zm g.zc33)) (Zco (Zh zd26 hr (by decide) (Za (Zb 0) Zf)))) (Zco (zu (zU hr.units) (Zh zd13 hr (by decide) (Za (Zb 0) Zf)) (Zm g.zc29)))))))))))
theorem Zy5 (D:Zl K mg "four_at" Zk7 ZpU) (g:Glb K mg) (zd28:Zo P w K mg base 1 "two_at" Zaf):Zo P w K mg base 2 "four_at" Zc4:=
  ZV D zc29 2 2 rfl rfl fun f cdv A outer s H E hr=>(Zi (Zu (Zx ZQ (Zx Zcf Zj (Zh zd28 hr (by decide) (Za (Zb 0) (Za (Zb 1) Zf)))) (Zh zd28 hr (by decide) (Za (Zb 0) (Za (Zx ZQ (Zb 1) Zj) Zf))))))
theorem Zy7 (D:Zl K mg "get" Zk9 ZpW) (g:Glb K mg) (zd29:Zo P w K mg base 2 "four_at" Zc4) (zd25:Zo P w K mg base 1 "head_of" Zbo) (zd24:Zo P w K mg base 3 "is_right" Zah) (zd28:Zo P w K mg base 1 "two_at" Zaf):Zo P w K mg base 4 "get" ZiW:=
  ZV D zc27 1 5 rfl rfl fun f cdv A outer s H E hr=>(Ze (ZJ (ZaI (ZE (Zh zd24 hr (by decide) (Za (Zb 0) Zf)))) (Zi Zrb) ZA)
  (Ze (ZG 1 zc27.nd (Zh zd25 hr (by decide) (Za (Zb 0) Zf)))
  (Ze (ZG 2 zc27.nd (ZcN (ZF (zU hr.units) (Zb 1) (Zm g.zc19)) (Zh zd28 hr (by decide) (Za (Zb 0) (Za Zj Zf))) Zj))
  (Ze (ZG 3 zc27.nd (zc (Za (Zh zd28 hr (by decide) (Za (Zb 0) (Za Zj Zf))) (Za (Zh zd28 hr (by decide) (Za (Zb 0) (Za Zj Zf))) Zf))))
  (Ze (ZG 4 zc27.nd (zc (Za (Zh zd29 hr (by decide) (Za (Zb 0) (Za Zj Zf))) (Za (Zh zd29 hr (by decide) (Za (Zb 0) (Za Zj Zf))) Zf))))
  (Zi (Zu (Zx ZQ (Zx ZQ (Zb 3) (Zb 4)) (zc (Za (ZC ZD (Zb 0) Zj) (Za (Zh zd28 hr (by decide) (Za (Zb 0) (Za Zj Zf))) (Za (Zb 2) (Za (ZaN ZhD g.b_tuple PyProof.Rows.boot_tuple (Za (Zbk (Zb 0) (Zaq (Zb 1)) ZbZ) Zf)) Zf)))))))))))))
theorem Zy4 (D:Zl K mg "opened" Zk6 ZpT) (g:Glb K mg) (zd7:MMk P w K mg base 3 "End" Zcm):Zo P w K mg base 5 "opened" ZeI:=
  ZV D zc30 4 4 rfl rfl fun f cdv A outer s H E hr=>(Zi (Zu (ZsZ zd7 hr (by decide) (Za (Zb 0) (Za (Zb 1) (Za (Zb 2) (Za (Zb 3) Zf)))))))
theorem Zy3 (D:Zl K mg "write" Zk5 ZpS) (g:Glb K mg) (zd2:Zo P w K mg base 2 "lay" ZfZ) (zd4:Zo P w K mg base 1 "plus" zr):Zo P w K mg base 3 "write" Zd7:=
  ZV D zc31 2 3 rfl rfl fun f cdv A outer s H E hr=>(Ze (ZJ (MW.mt (ZcC (ZE (Zp (Zt ⟨g.k_End,g.zn6⟩) (Zb 0))) (zY (ZF Zf2 (Zp (Zt ⟨g.k_End,g.zn16⟩) (Zb 0)) (zc (Za (ZB g.zc37) (Za (ZB g.zc36) (Za (ZB g.zc25) (Za (ZB g.zc3) Zf))))) (by with_unfolding_all rfl))))) (Zi (Zu Zj)) ZA)
  (Ze (ZG 2 zc31.nd (Zh zd2 hr (by decide) (Za (Zp (Zt ⟨g.k_End,g.zn24⟩) (Zb 0)) (Za (Zb 1) Zf))))
  (Ze (Zz (Zt ⟨g.k_End,g.zn0⟩) (Zb 0) (Zh zd4 hr (by decide) (Za (Zp (Zt ⟨g.k_End,g.zn0⟩) (Zb 0)) (Za (Zb 2) Zf))))
  (Zi (Zu (Zb 2))))))
theorem Zy2 (D:Zl K mg "read" Zk4 ZpR) (g:Glb K mg) (zd11:Zo P w K mg base 2 "our_window" zP) (zd3:Zo P w K mg base 1 "take" Zch):Zo P w K mg base 3 "read" ZeH:=
  ZV D zc32 2 4 rfl rfl fun f cdv A outer s H E hr=>(Ze (ZG 2 zc32.nd (zu (zU hr.units) (Zh zd11 hr (by decide) (Za (Zb 0) Zf)) Zj))
  (Ze (ZG 3 zc32.nd (Zh zd3 hr (by decide) (Za (Zp (Zt ⟨g.k_End,g.zn1⟩) (Zb 0)) (Za (Zb 1) Zf))))
  (Ze (ZJ (MW.mt (ZcM (ZE (Zb 2)) (ZcM (ZF Zhs (Zh zd11 hr (by decide) (Za (Zb 0) Zf)) Zj) (ZaH (ZF ZjH (Zp (Zt ⟨g.k_End,g.zn16⟩) (Zb 0)) (zc (Za (ZB g.zc25) (Za (ZB g.zc40) (Za (ZB g.zc41) Zf)))) (by with_unfolding_all rfl)))))) (Zi (Zz (Zt ⟨g.k_End,g.zn11⟩) (Zb 0) zD)) ZA)
  (Zi (Zu (Zb 3))))))
theorem Zy1 (D:Zl K mg "close" Zk3 ZpQ) (g:Glb K mg) :Zo P w K mg base 1 "close" Zfe:=
  ZV D zc33 1 1 rfl rfl fun f cdv A outer s H E hr=>(Ze (ZJ (ZE (Zp (Zt ⟨g.k_End,g.zn6⟩) (Zb 0))) (Zi (Zu zD)) ZA)
  (Ze (ZJ (ZF ZjH (Zp (Zt ⟨g.k_End,g.zn16⟩) (Zb 0)) (zc (Za (ZB g.zc17) (Za (ZB g.zc37) Zf))) (by with_unfolding_all rfl)) (Ze (Zz (Zt ⟨g.k_End,g.zn16⟩) (Zb 0) (ZB g.zc2))
    (Zi (Zu zD))) ZA)
  (Ze (ZJ (ZF Zf2 (Zp (Zt ⟨g.k_End,g.zn16⟩) (Zb 0)) (zc (Za (ZB g.zc36) (Za (ZB g.zc25) (Za (ZB g.zc3) Zf)))) (by with_unfolding_all rfl)) (Zi (Zu zD)) ZA)
  (Ze (Zz (Zt ⟨g.k_End,g.zn6⟩) (Zb 0) zD)
  (Ze (ZJ (ZF (zU hr.units) (Zp (Zt ⟨g.k_End,g.zn16⟩) (Zb 0)) (ZB g.zc25)) (Zi (Zz (Zt ⟨g.k_End,g.zn16⟩) (Zb 0) (ZB g.zc40))) (Zi (ZJ (ZF (zU hr.units) (Zp (Zt ⟨g.k_End,g.zn16⟩) (Zb 0)) (ZB g.zc3)) (Zi (Zz (Zt ⟨g.k_End,g.zn16⟩) (Zb 0) (ZB g.zc14))) ZA)))
  (Zi (Zu zD)))))))
theorem Zy0 (D:Zl K mg "reset_for" Zk2 ZpP) (g:Glb K mg) (zd17:Zo P w K mg base 2 "bears" Z8) (zd15:Zo P w K mg base 2 "length" ZcB) (zd4:Zo P w K mg base 1 "plus" zr):Zo P w K mg base 3 "reset_for" ZbN:=
  ZV D zc34 1 2 rfl rfl fun f cdv A outer s H E hr=>(Ze (ZG 1 zc34.nd (zc (Za (ZC ZD (Zb 0) (Zm g.zc9)) (Za (ZC ZD (Zb 0) (Zm g.zc34)) Zf))))
  (Ze (ZJ (ZE (Zh zd17 hr (by decide) (Za (Zb 0) (Za (Zm g.zc0) Zf)))) (Zi (Zu (Zx ZQ (Zb 1) (zc (Za (ZC ZD (Zb 0) (Zm g.zc1)) (Za Zj (Za (Zm g.zc32) (Za Zj (Za Zj (Za (zc Zf) Zf)))))))))) ZA)
  (Zi (Zu (Zx ZQ (Zb 1) (zc (Za Zj (Za (Zh zd4 hr (by decide) (Za (ZC ZD (Zb 0) (Zm g.zc24)) (Za (Zh zd15 hr (by decide) (Za (Zb 0) Zf)) Zf))) (Za (Zx ZQ (Zm g.zc32) (Zm g.zc0)) (Za Zj (Za Zj (Za (zc Zf) Zf))))))))))))
theorem ZyZ (D:Zl K mg "owe_reset_for" Zk1 ZpO) (g:Glb K mg) (zd17:Zo P w K mg base 2 "bears" Z8) (zd34:Zo P w K mg base 3 "reset_for" ZbN):Zo P w K mg base 4 "owe_reset_for" Z1:=
  ZV D zc35 2 2 rfl rfl fun f cdv A outer s H E hr=>(Zi (ZJ (ZaI (ZE (Zh zd17 hr (by decide) (Za (Zb 1) (Za (Zm g.zc32) Zf))))) (Zi (Zz (Zt ⟨g.k_End,g.zn10⟩) (Zb 0) (Zh zd34 hr (by decide) (Za (Zb 1) Zf)))) ZA))
theorem ZyY (D:Zl K mg "come_to_closed" Zk0 ZpN) (g:Glb K mg) (zd35:Zo P w K mg base 4 "owe_reset_for" Z1):Zo P w K mg base 5 "come_to_closed" ZaL:=
  ZV D zc36 2 2 rfl rfl fun f cdv A outer s H E hr=>(Zi (ZW (Zh zd35 hr (by decide) (Za (Zb 0) (Za (Zb 1) Zf)))))
theorem ZyW (D:Zl K mg "hear_syn" ZkY ZpL) (g:Glb K mg) (zd17:Zo P w K mg base 2 "bears" Z8) (zd4:Zo P w K mg base 1 "plus" zr):Zo P w K mg base 3 "hear_syn" ZbK:=
  ZV D zc38 2 2 rfl rfl fun f cdv A outer s H E hr=>(Ze (Zz (Zt ⟨g.k_End,g.zn14⟩) (Zb 0) (Zh zd4 hr (by decide) (Za (ZC ZD (Zb 1) (Zm g.zc24)) (Za Zj Zf))))
  (Ze (Zz (Zt ⟨g.k_End,g.zn23⟩) (Zb 0) (ZC ZD (Zb 1) (Zm g.zc42)))
  (Ze (Zz (Zt ⟨g.k_End,g.zn18⟩) (Zb 0) (ZC ZD (Zb 1) (Zm g.zc24)))
  (Ze (Zz (Zt ⟨g.k_End,g.zn19⟩) (Zb 0) (ZcN (ZE (Zh zd17 hr (by decide) (Za (Zb 1) (Za (Zm g.zc0) Zf)))) (ZC ZD (Zb 1) (Zm g.zc1)) Zj))
  (Zi (ZJ (ZF (Zea hr.units) (ZC ZD (Zb 1) (Zm g.zc20)) Zj) (Zi (Zz (Zt ⟨g.k_End,g.zn7⟩) (Zb 0) (ZC ZD (Zb 1) (Zm g.zc20)))) ZA))))))
theorem ZyX (D:Zl K mg "come_to_listen" ZkZ ZpM) (g:Glb K mg) (zd17:Zo P w K mg base 2 "bears" Z8) (zd38:Zo P w K mg base 3 "hear_syn" ZbK) (zd35:Zo P w K mg base 4 "owe_reset_for" Z1):Zo P w K mg base 5 "come_to_listen" zA:=
  ZV D zc37 2 2 rfl rfl fun f cdv A outer s H E hr=>(Ze (ZJ (ZE (Zh zd17 hr (by decide) (Za (Zb 1) (Za (Zm g.zc32) Zf)))) (Zi Zec) ZA)
  (Zi (ZJ (ZE (Zh zd17 hr (by decide) (Za (Zb 1) (Za (Zm g.zc0) Zf)))) (Zi (ZW (Zh zd35 hr (by decide) (Za (Zb 0) (Za (Zb 1) Zf))))) (Zi (ZJ (ZE (Zh zd17 hr (by decide) (Za (Zb 1) (Za (Zm g.zc35) Zf)))) (Ze (Zz (Zt ⟨g.k_End,g.zn17⟩) (Zb 0) (ZC ZD (Zb 1) (Zm g.zc34)))
      (Ze (ZW (Zh zd38 hr (by decide) (Za (Zb 0) (Za (Zb 1) Zf))))
      (Zi (Zz (Zt ⟨g.k_End,g.zn16⟩) (Zb 0) (ZB g.zc36))))) ZA)))))
theorem ZyU (D:Zl K mg "answers_syn" ZkW ZpJ) (g:Glb K mg) (zd4:Zo P w K mg base 1 "plus" zr):Zo P w K mg base 2 "answers_syn" ZbE:=
  ZV D zc40 2 2 rfl rfl fun f cdv A outer s H E hr=>(Zi (Zu (Zbx (zu (Zea hr.units) (Zp (Zt ⟨g.k_End,g.zn8⟩) (Zb 0)) (Zp (Zt ⟨g.k_End,g.zn5⟩) (Zb 0))) (Zco (zu (zU hr.units) (ZC ZD (Zb 1) (Zm g.zc1)) (Zh zd4 hr (by decide) (Za (Zp (Zt ⟨g.k_End,g.zn5⟩) (Zb 0)) (Za Zj Zf))))))))
theorem ZyS (D:Zl K mg "go_on_from_syn_sent" ZkU ZpH) (g:Glb K mg) (zd17:Zo P w K mg base 2 "bears" Z8) (zd8:Zo P w K mg base 1 "start_timer" zd):Zo P w K mg base 3 "go_on_from_syn_sent" zK:=
  ZV D zc42 3 3 rfl rfl fun f cdv A outer s H E hr=>(Zi (ZJ (ZE (Zh zd17 hr (by decide) (Za (Zb 1) (Za (Zm g.zc0) Zf)))) (Ze (Zz (Zt ⟨g.k_End,g.zn21⟩) (Zb 0) (ZC ZD (Zb 1) (Zm g.zc1)))
    (Ze (Zz (Zt ⟨g.k_End,g.zn16⟩) (Zb 0) (ZB g.zc25))
    (Zi (Zz (Zt ⟨g.k_End,g.zn11⟩) (Zb 0) zD)))) (Ze (Zz (Zt ⟨g.k_End,g.zn16⟩) (Zb 0) (ZB g.zc36))
    (Ze (ZW (Zh zd8 hr (by decide) (Za (Zb 0) (Za (Zb 2) Zf))))
    (Zi (Zz (Zt ⟨g.k_End,g.zn12⟩) (Zb 0) zD))))))
theorem ZyT (D:Zl K mg "refuse" ZkV ZpI) (g:Glb K mg) (zd17:Zo P w K mg base 2 "bears" Z8):Zo P w K mg base 3 "refuse" ZeG:=
  ZV D zc41 2 2 rfl rfl fun f cdv A outer s H E hr=>(Zi (ZJ (ZE (Zh zd17 hr (by decide) (Za (Zb 1) (Za (Zm g.zc0) Zf)))) (Ze (Zz (Zt ⟨g.k_End,g.zn16⟩) (Zb 0) (ZB g.zc2))
    (Zi (Zz (Zt ⟨g.k_End,g.zn4⟩) (Zb 0) (ZB g.zc27)))) ZA))
theorem ZyV (D:Zl K mg "come_to_syn_sent" ZkX ZpK) (g:Glb K mg) (zd40:Zo P w K mg base 2 "answers_syn" ZbE) (zd17:Zo P w K mg base 2 "bears" Z8) (zd42:Zo P w K mg base 3 "go_on_from_syn_sent" zK) (zd38:Zo P w K mg base 3 "hear_syn" ZbK) (zd35:Zo P w K mg base 4 "owe_reset_for" Z1) (zd41:Zo P w K mg base 3 "refuse" ZeG):Zo P w K mg base 5 "come_to_syn_sent" ZU:=
  ZV D zc39 3 3 rfl rfl fun f cdv A outer s H E hr=>(Zi (ZJ (MW.mt (ZcM (ZE (Zh zd17 hr (by decide) (Za (Zb 1) (Za (Zm g.zc0) Zf)))) (ZaH (ZaI (ZE (Zh zd40 hr (by decide) (Za (Zb 0) (Za (Zb 1) Zf)))))))) (Zi (ZW (Zh zd35 hr (by decide) (Za (Zb 0) (Za (Zb 1) Zf))))) (Zi (ZJ (ZE (Zh zd17 hr (by decide) (Za (Zb 1) (Za (Zm g.zc32) Zf)))) (Zi (ZW (Zh zd41 hr (by decide) (Za (Zb 0) (Za (Zb 1) Zf))))) (Zi (ZJ (ZE (Zh zd17 hr (by decide) (Za (Zb 1) (Za (Zm g.zc35) Zf)))) (Ze (ZW (Zh zd38 hr (by decide) (Za (Zb 0) (Za (Zb 1) Zf))))
        (Zi (ZW (Zh zd42 hr (by decide) (Za (Zb 0) (Za (Zb 1) (Za (Zb 2) Zf))))))) ZA))))))
theorem ZyN (D:Zl K mg "is_in_window" ZkP ZpC) (g:Glb K mg) (zd5:Zo P w K mg base 1 "offset" zF) (zd11:Zo P w K mg base 2 "our_window" zP):Zo P w K mg base 3 "is_in_window" zo:=
  ZV D ZzU 2 2 rfl rfl fun f cdv A outer s H E hr=>(Zi (Zu (Zf7 ZhU Zu7 Zj (Zh zd5 hr (by decide) (Za (Zb 1) (Za (Zp (Zt ⟨g.k_End,g.zn14⟩) (Zb 0)) Zf))) (Zh zd11 hr (by decide) (Za (Zb 0) Zf)))))
theorem ZyO (D:Zl K mg "fits" ZkQ ZpD) (g:Glb K mg) (zd47:Zo P w K mg base 3 "is_in_window" zo) (zd15:Zo P w K mg base 2 "length" ZcB) (zd5:Zo P w K mg base 1 "offset" zF) (zd4:Zo P w K mg base 1 "plus" zr):Zo P w K mg base 4 "fits" ZgE:=
  ZV D zc46 2 4 rfl rfl fun f cdv A outer s H E hr=>(Ze (ZG 2 zc46.nd (Zh zd15 hr (by decide) (Za (Zb 1) Zf)))
  (Ze (ZJ (ZF (zU hr.units) (Zb 2) Zj) (Zi (Zu (Zf7 ZhU ZhU Zj (Zh zd5 hr (by decide) (Za (ZC ZD (Zb 1) (Zm g.zc24)) (Za (Zp (Zt ⟨g.k_End,g.zn14⟩) (Zb 0)) Zf))) (Zm g.zc30)))) ZA)
  (Ze (ZG 3 zc46.nd (Zh zd4 hr (by decide) (Za (ZC ZD (Zb 1) (Zm g.zc24)) (Za (Zx ZeL (Zb 2) Zj) Zf))))
  (Zi (Zu (ZlV (Zh zd47 hr (by decide) (Za (Zb 0) (Za (ZC ZD (Zb 1) (Zm g.zc24)) Zf))) (Zco (Zh zd47 hr (by decide) (Za (Zb 0) (Za (Zb 3) Zf))))))))))
theorem ZyF (D:Zl K mg "end_what_is_acknowledged" ZkH Zpu) (g:Glb K mg) (zd12:Zo P w K mg base 3 "has_sent_fin" Zbi):Zo P w K mg base 4 "end_what_is_acknowledged" ZT:=
  ZV D ZzN 2 2 rfl rfl fun f cdv A outer s H E hr=>(Ze (ZJ (MW.mt (ZcC (ZaI (ZE (Zh zd12 hr (by decide) (Za (Zb 0) Zf)))) (zY (ZF (Zea hr.units) (Zp (Zt ⟨g.k_End,g.zn21⟩) (Zb 0)) (Zp (Zt ⟨g.k_End,g.zn8⟩) (Zb 0)))))) (Zi Zec) ZA)
  (Zi (ZJ (ZF (zU hr.units) (Zp (Zt ⟨g.k_End,g.zn16⟩) (Zb 0)) (ZB g.zc40)) (Zi (Zz (Zt ⟨g.k_End,g.zn16⟩) (Zb 0) (ZB g.zc41))) (Zi (ZJ (ZF (zU hr.units) (Zp (Zt ⟨g.k_End,g.zn16⟩) (Zb 0)) (ZB g.zc4)) (Ze (Zz (Zt ⟨g.k_End,g.zn16⟩) (Zb 0) (ZB g.zc39))
      (Zi (Zz (Zt ⟨g.k_End,g.zn15⟩) (Zb 0) (Zb 1)))) (Zi (ZJ (ZF (zU hr.units) (Zp (Zt ⟨g.k_End,g.zn16⟩) (Zb 0)) (ZB g.zc14)) (Zi (Zz (Zt ⟨g.k_End,g.zn16⟩) (Zb 0) (ZB g.zc2))) ZA)))))))
theorem ZyI (D:Zl K mg "take_window" ZkK Zpx) (g:Glb K mg) :Zo P w K mg base 1 "take_window" ZaF:=
  ZV D ZzP 2 2 rfl rfl fun f cdv A outer s H E hr=>(Ze (Zz (Zt ⟨g.k_End,g.zn23⟩) (Zb 0) (ZC ZD (Zb 1) (Zm g.zc42)))
  (Ze (Zz (Zt ⟨g.k_End,g.zn18⟩) (Zb 0) (ZC ZD (Zb 1) (Zm g.zc24)))
  (Zi (Zz (Zt ⟨g.k_End,g.zn19⟩) (Zb 0) (ZC ZD (Zb 1) (Zm g.zc1))))))
theorem ZyJ (D:Zl K mg "has_answered_syn" ZkL Zpy) (g:Glb K mg) (zd35:Zo P w K mg base 4 "owe_reset_for" Z1) (zd52:Zo P w K mg base 1 "take_window" ZaF):Zo P w K mg base 5 "has_answered_syn" zt:=
  ZV D ZzQ 2 2 rfl rfl fun f cdv A outer s H E hr=>(Ze (ZJ (MW.mt (ZcC (ZF (zU hr.units) (Zp (Zt ⟨g.k_End,g.zn8⟩) (Zb 0)) (Zp (Zt ⟨g.k_End,g.zn5⟩) (Zb 0))) (zY (ZF (Zea hr.units) (ZC ZD (Zb 1) (Zm g.zc1)) (Zp (Zt ⟨g.k_End,g.zn8⟩) (Zb 0)))))) (Ze (ZW (Zh zd35 hr (by decide) (Za (Zb 0) (Za (Zb 1) Zf))))
    (Zi (Zu zD))) ZA)
  (Ze (Zz (Zt ⟨g.k_End,g.zn21⟩) (Zb 0) (ZC ZD (Zb 1) (Zm g.zc1)))
  (Ze (Zz (Zt ⟨g.k_End,g.zn16⟩) (Zb 0) (ZcN (ZE (Zp (Zt ⟨g.k_End,g.zn6⟩) (Zb 0))) (ZB g.zc40) (ZB g.zc25)))
  (Ze (ZW (Zh zd52 hr (by decide) (Za (Zb 0) (Za (Zb 1) Zf))))
  (Zi (Zu zD))))))
theorem ZyG (D:Zl K mg "is_newer" ZkI Zpv) (g:Glb K mg) (zd6:Zo P w K mg base 2 "past" Zci):Zo P w K mg base 3 "is_newer" Zdc:=
  ZV D ZzO 2 2 rfl rfl fun f cdv A outer s H E hr=>(Ze (ZJ (ZF (zU hr.units) (ZC ZD (Zb 1) (Zm g.zc24)) (Zp (Zt ⟨g.k_End,g.zn18⟩) (Zb 0))) (Zi (Zu (Zre (Zh zd6 hr (by decide) (Za (Zp (Zt ⟨g.k_End,g.zn19⟩) (Zb 0)) (Za (ZC ZD (Zb 1) (Zm g.zc1)) Zf)))))) ZA)
  (Zi (Zu (Zh zd6 hr (by decide) (Za (ZC ZD (Zb 1) (Zm g.zc24)) (Za (Zp (Zt ⟨g.k_End,g.zn18⟩) (Zb 0)) Zf))))))
theorem ZyH (D:Zl K mg "hear_answer" ZkJ Zpw) (g:Glb K mg) (zd54:Zo P w K mg base 3 "is_newer" Zdc) (zd5:Zo P w K mg base 1 "offset" zF) (zd6:Zo P w K mg base 2 "past" Zci) (zd8:Zo P w K mg base 1 "start_timer" zd) (zd3:Zo P w K mg base 1 "take" Zch) (zd52:Zo P w K mg base 1 "take_window" ZaF):Zo P w K mg base 4 "hear_answer" zQ:=
  ZV D zc53 3 6 rfl rfl fun f cdv A outer s H E hr=>(Ze (ZG 3 zc53.nd (ZC ZD (Zb 1) (Zm g.zc1)))
  (Ze (ZG 4 zc53.nd (Zh zd6 hr (by decide) (Za (Zb 3) (Za (Zp (Zt ⟨g.k_End,g.zn21⟩) (Zb 0)) Zf))))
  (Ze (ZJ (ZE (Zb 4)) (Ze (ZW (Zh zd3 hr (by decide) (Za (Zp (Zt ⟨g.k_End,g.zn24⟩) (Zb 0)) (Za (Zh zd5 hr (by decide) (Za (Zb 3) (Za (Zp (Zt ⟨g.k_End,g.zn21⟩) (Zb 0)) Zf))) Zf))))
    (Ze (Zz (Zt ⟨g.k_End,g.zn21⟩) (Zb 0) (Zb 3))
    (Zi (ZJ (ZF (Zea hr.units) (Zp (Zt ⟨g.k_End,g.zn21⟩) (Zb 0)) (Zp (Zt ⟨g.k_End,g.zn8⟩) (Zb 0))) (Zi (ZW (Zh zd8 hr (by decide) (Za (Zb 0) (Za (Zb 2) Zf))))) ZA)))) ZA)
  (Ze (ZJ (ZE (Zh zd6 hr (by decide) (Za (Zp (Zt ⟨g.k_End,g.zn21⟩) (Zb 0)) (Za (Zb 3) Zf)))) (Zi Zec) ZA)
  (Ze (ZG 5 zc53.nd (zu (zU hr.units) (Zp (Zt ⟨g.k_End,g.zn23⟩) (Zb 0)) Zj))
  (Ze (ZJ (MW.mt (ZcC (ZE (Zb 4)) (zY (ZE (Zh zd54 hr (by decide) (Za (Zb 0) (Za (Zb 1) Zf))))))) (Zi (ZW (Zh zd52 hr (by decide) (Za (Zb 0) (Za (Zb 1) Zf))))) ZA)
  (Zi (ZJ (MW.mt (ZcC (ZE (Zb 5)) (zY (ZF (zU hr.units) (Zp (Zt ⟨g.k_End,g.zn23⟩) (Zb 0)) Zj)))) (Zi (Zz (Zt ⟨g.k_End,g.zn20⟩) (Zb 0) Zj)) ZA))))))))
theorem ZyK (D:Zl K mg "goes_on_behind_answer" ZkM Zpz) (g:Glb K mg) (zd55:Zo P w K mg base 4 "end_what_is_acknowledged" ZT) (zd51:Zo P w K mg base 5 "has_answered_syn" zt) (zd53:Zo P w K mg base 4 "hear_answer" zQ) (zd6:Zo P w K mg base 2 "past" Zci):Zo P w K mg base 6 "goes_on_behind_answer" Z2:=
  ZV D ZzR 3 3 rfl rfl fun f cdv A outer s H E hr=>(Ze (ZJ (ZF (zU hr.units) (Zp (Zt ⟨g.k_End,g.zn16⟩) (Zb 0)) (ZB g.zc36)) (Zi (Zu (Zh zd51 hr (by decide) (Za (Zb 0) (Za (Zb 1) Zf))))) ZA)
  (Ze (ZJ (ZE (Zh zd6 hr (by decide) (Za (ZC ZD (Zb 1) (Zm g.zc1)) (Za (Zp (Zt ⟨g.k_End,g.zn8⟩) (Zb 0)) Zf)))) (Ze (Zz (Zt ⟨g.k_End,g.zn11⟩) (Zb 0) zD)
    (Zi (Zu zD))) ZA)
  (Ze (ZW (Zh zd53 hr (by decide) (Za (Zb 0) (Za (Zb 1) (Za (Zb 2) Zf)))))
  (Ze (ZW (Zh zd55 hr (by decide) (Za (Zb 0) (Za (Zb 2) Zf))))
  (Zi (Zu (zu (Zea hr.units) (Zp (Zt ⟨g.k_End,g.zn16⟩) (Zb 0)) (ZB g.zc2))))))))
theorem ZyL (D:Zl K mg "hear_reset" ZkN ZpA) (g:Glb K mg) :Zo P w K mg base 1 "hear_reset" Zbn:=
  ZV D ZzS 2 2 rfl rfl fun f cdv A outer s H E hr=>(Ze (ZJ (ZF (zU hr.units) (Zp (Zt ⟨g.k_End,g.zn16⟩) (Zb 0)) (ZB g.zc39)) (Zi Zec) ZA)
  (Zi (ZJ (ZF (zU hr.units) (ZC ZD (Zb 1) (Zm g.zc24)) (Zp (Zt ⟨g.k_End,g.zn14⟩) (Zb 0))) (Ze (Zz (Zt ⟨g.k_End,g.zn16⟩) (Zb 0) (ZB g.zc2))
    (Zi (Zz (Zt ⟨g.k_End,g.zn4⟩) (Zb 0) (ZB g.zc28)))) (Zi (Zz (Zt ⟨g.k_End,g.zn11⟩) (Zb 0) zD)))))
theorem ZyB (D:Zl K mg "draw_in_order" ZkD Zpq) (g:Glb K mg) (zd2:Zo P w K mg base 2 "lay" ZfZ) (zd4:Zo P w K mg base 1 "plus" zr):Zo P w K mg base 3 "draw_in_order" Za4:=
  ZV D zc59 1 2 rfl rfl fun f cdv A outer s H E hr=>(Ze (Zi0 1 zc59.nd Zf)
  (Ze (Zh0 200 PassesOwn.never (MW.mt (ZcM (ZF (Zea hr.units) (Zp (Zt ⟨g.k_End,g.zn14⟩) (Zb 0)) (Zp (Zt ⟨g.k_End,g.zn3⟩) (Zb 0))) (ZaH (Zu8 hr (Zp (Zt ⟨g.k_End,g.zn14⟩) (Zb 0)) (Zp (Zt ⟨g.k_End,g.zn2⟩) (Zb 0)))))) (Ze (Zi1 1 (ZnC (Zp (Zt ⟨g.k_End,g.zn2⟩) (Zb 0)) (Zp (Zt ⟨g.k_End,g.zn14⟩) (Zb 0)) ⟨rfl,rfl,rfl,rfl⟩) (hpe:=fun h=>ZtQ PySem.F.plainAttrs_list PySem.F.slot_list_append PySem.F.type_list_append ZiZ h (ZjF (ZnC (Zp (Zt ⟨g.k_End,g.zn2⟩) (Zb 0)) (Zp (Zt ⟨g.k_End,g.zn14⟩) (Zb 0)) ⟨rfl,rfl,rfl,rfl⟩) ZmI)))
    (Zi (Zz (Zt ⟨g.k_End,g.zn14⟩) (Zb 0) (Zh zd4 hr (by decide) (Za (Zp (Zt ⟨g.k_End,g.zn14⟩) (Zb 0)) (Za Zj Zf)))))))
  (Zi (ZgG 1 (ZW (Zh zd2 hr (by decide) (Za (Zp (Zt ⟨g.k_End,g.zn1⟩) (Zb 0)) (Za (Zb 1) Zf))))))))
theorem ZyA (D:Zl K mg "hear_fin" ZkC Zpp) (g:Glb K mg) (zd4:Zo P w K mg base 1 "plus" zr):Zo P w K mg base 2 "hear_fin" Zcl:=
  ZV D ZzL 2 2 rfl rfl fun f cdv A outer s H E hr=>(Ze (Zz (Zt ⟨g.k_End,g.zn14⟩) (Zb 0) (Zh zd4 hr (by decide) (Za (Zp (Zt ⟨g.k_End,g.zn14⟩) (Zb 0)) (Za Zj Zf))))
  (Zi (ZJ (ZF (zU hr.units) (Zp (Zt ⟨g.k_End,g.zn16⟩) (Zb 0)) (ZB g.zc25)) (Zi (Zz (Zt ⟨g.k_End,g.zn16⟩) (Zb 0) (ZB g.zc3))) (Zi (ZJ (ZF (zU hr.units) (Zp (Zt ⟨g.k_End,g.zn16⟩) (Zb 0)) (ZB g.zc40)) (Zi (Zz (Zt ⟨g.k_End,g.zn16⟩) (Zb 0) (ZB g.zc4))) (Ze (Zz (Zt ⟨g.k_End,g.zn16⟩) (Zb 0) (ZB g.zc39))
      (Zi (Zz (Zt ⟨g.k_End,g.zn15⟩) (Zb 0) (Zb 1)))))))))
theorem ZyD (D:Zl K mg "keep_data" ZkF Zps) (g:Glb K mg) (zd47:Zo P w K mg base 3 "is_in_window" zo) (zd4:Zo P w K mg base 1 "plus" zr):Zo P w K mg base 4 "keep_data" ZbO:=
  ZV D zc57 2 5 rfl rfl fun f cdv A outer s H E hr=>(Ze (ZsX 2 3 zc57.nd PassesOwn.never g.b_enumerate (Za (ZC ZD (Zb 1) (Zm g.zc5)) Zf) (Ze (ZG 4 zc57.nd (Zh zd4 hr (by decide) (Za (ZC ZD (Zb 1) (Zm g.zc24)) (Za (Zb 2) Zf))))
    (Zi (ZJ (ZE (Zh zd47 hr (by decide) (Za (Zb 0) (Za (Zb 4) Zf)))) (Zi (ZW (Zrf (Zp (Zt ⟨g.k_End,g.zn2⟩) (Zb 0)) (Zb 4) (Zb 3) ⟨rfl,rfl,rfl,rfl⟩))) ZA))))
  (Zi (ZJ (ZF Zhs (Z3 Zdj g.b_len PySem.boot_len (Za (ZC ZD (Zb 1) (Zm g.zc5)) Zf)) Zj) (Zi (Zz (Zt ⟨g.k_End,g.zn11⟩) (Zb 0) zD)) ZA)))
theorem ZyC (D:Zl K mg "keep_fin" ZkE Zpr) (g:Glb K mg) (zd17:Zo P w K mg base 2 "bears" Z8) (zd47:Zo P w K mg base 3 "is_in_window" zo) (zd4:Zo P w K mg base 1 "plus" zr):Zo P w K mg base 4 "keep_fin" Zck:=
  ZV D zc58 2 3 rfl rfl fun f cdv A outer s H E hr=>(Ze (ZJ (ZaI (ZE (Zh zd17 hr (by decide) (Za (Zb 1) (Za (Zm g.zc6) Zf))))) (Zi Zec) ZA)
  (Ze (Zz (Zt ⟨g.k_End,g.zn11⟩) (Zb 0) zD)
  (Ze (ZG 2 zc58.nd (Zh zd4 hr (by decide) (Za (ZC ZD (Zb 1) (Zm g.zc24)) (Za (Z3 Zdj g.b_len PySem.boot_len (Za (ZC ZD (Zb 1) (Zm g.zc5)) Zf)) Zf))))
  (Zi (ZJ (MW.mt (ZcM (ZF ZsT (Zp (Zt ⟨g.k_End,g.zn3⟩) (Zb 0)) ZaM) (ZaH (ZE (Zh zd47 hr (by decide) (Za (Zb 0) (Za (Zb 2) Zf))))))) (Zi (Zz (Zt ⟨g.k_End,g.zn3⟩) (Zb 0) (Zb 2))) ZA)))))
theorem ZyE (D:Zl K mg "hear_stream" ZkG Zpt) (g:Glb K mg) (zd59:Zo P w K mg base 3 "draw_in_order" Za4) (zd60:Zo P w K mg base 2 "hear_fin" Zcl) (zd57:Zo P w K mg base 4 "keep_data" ZbO) (zd58:Zo P w K mg base 4 "keep_fin" Zck):Zo P w K mg base 5 "hear_stream" ZaG:=
  ZV D ZzM 3 3 rfl rfl fun f cdv A outer s H E hr=>(Ze (ZJ (ZF Zf2 (Zp (Zt ⟨g.k_End,g.zn16⟩) (Zb 0)) (zc (Za (ZB g.zc25) (Za (ZB g.zc40) (Za (ZB g.zc41) Zf)))) (by with_unfolding_all rfl)) (Zi Zec) ZA)
  (Ze (ZW (Zh zd57 hr (by decide) (Za (Zb 0) (Za (Zb 1) Zf))))
  (Ze (ZW (Zh zd58 hr (by decide) (Za (Zb 0) (Za (Zb 1) Zf))))
  (Ze (ZW (Zh zd59 hr (by decide) (Za (Zb 0) Zf)))
  (Zi (ZJ (ZF (zU hr.units) (Zp (Zt ⟨g.k_End,g.zn14⟩) (Zb 0)) (Zp (Zt ⟨g.k_End,g.zn3⟩) (Zb 0))) (Zi (ZW (Zh zd60 hr (by decide) (Za (Zb 0) (Za (Zb 2) Zf))))) ZA))))))
theorem ZyM (D:Zl K mg "turn_away" ZkO ZpB) (g:Glb K mg) (zd17:Zo P w K mg base 2 "bears" Z8):Zo P w K mg base 3 "turn_away" Zbh:=
  ZV D ZzT 3 3 rfl rfl fun f cdv A outer s H E hr=>(Ze (ZJ (ZE (Zh zd17 hr (by decide) (Za (Zb 1) (Za (Zm g.zc32) Zf)))) (Zi Zec) ZA)
  (Ze (ZJ (MW.mt (ZcM (ZF (zU hr.units) (Zp (Zt ⟨g.k_End,g.zn16⟩) (Zb 0)) (ZB g.zc36)) (ZcM (ZE (Zh zd17 hr (by decide) (Za (Zb 1) (Za (Zm g.zc35) Zf)))) (ZaH (ZaI (ZE (Zh zd17 hr (by decide) (Za (Zb 1) (Za (Zm g.zc0) Zf))))))))) (Zi (Zz (Zt ⟨g.k_End,g.zn12⟩) (Zb 0) zD)) (Zi (Zz (Zt ⟨g.k_End,g.zn11⟩) (Zb 0) zD)))
  (Zi (ZJ (ZF (zU hr.units) (Zp (Zt ⟨g.k_End,g.zn16⟩) (Zb 0)) (ZB g.zc39)) (Zi (Zz (Zt ⟨g.k_End,g.zn15⟩) (Zb 0) (Zb 2))) ZA))))
theorem ZyP (D:Zl K mg "come_to_stream" ZkR ZpE) (g:Glb K mg) (zd17:Zo P w K mg base 2 "bears" Z8) (zd46:Zo P w K mg base 4 "fits" ZgE) (zd50:Zo P w K mg base 6 "goes_on_behind_answer" Z2) (zd49:Zo P w K mg base 1 "hear_reset" Zbn) (zd56:Zo P w K mg base 5 "hear_stream" ZaG) (zd48:Zo P w K mg base 3 "turn_away" Zbh):Zo P w K mg base 7 "come_to_stream" zg:=
  ZV D ZzV 3 3 rfl rfl fun f cdv A outer s H E hr=>(Zi (ZJ (ZaI (ZE (Zh zd46 hr (by decide) (Za (Zb 0) (Za (Zb 1) Zf))))) (Zi (ZW (Zh zd48 hr (by decide) (Za (Zb 0) (Za (Zb 1) (Za (Zb 2) Zf)))))) (Zi (ZJ (ZE (Zh zd17 hr (by decide) (Za (Zb 1) (Za (Zm g.zc32) Zf)))) (Zi (ZW (Zh zd49 hr (by decide) (Za (Zb 0) (Za (Zb 1) Zf))))) (Zi (ZJ (ZE (Zh zd17 hr (by decide) (Za (Zb 1) (Za (Zm g.zc35) Zf)))) (Zi (Zz (Zt ⟨g.k_End,g.zn11⟩) (Zb 0) zD)) (Zi (ZJ (MW.mt (ZcM (ZE (Zh zd17 hr (by decide) (Za (Zb 1) (Za (Zm g.zc0) Zf)))) (ZaH (ZE (Zh zd50 hr (by decide) (Za (Zb 0) (Za (Zb 1) (Za (Zb 2) Zf)))))))) (Zi (ZW (Zh zd56 hr (by decide) (Za (Zb 0) (Za (Zb 1) (Za (Zb 2) Zf)))))) ZA))))))))
theorem ZyQ (D:Zl K mg "is_for" ZkS ZpF) (g:Glb K mg) :Zo P w K mg base 1 "is_for" ZeJ:=
  ZV D ZzW 2 2 rfl rfl fun f cdv A outer s H E hr=>(Zi (Zu (Zbx (zu (zU hr.units) (ZC ZD (Zb 1) (Zm g.zc9)) (Zp (Zt ⟨g.k_End,g.zn9⟩) (Zb 0))) (Zco (ZlV (zu ZjH (Zp (Zt ⟨g.k_End,g.zn16⟩) (Zb 0)) (zc (Za (ZB g.zc2) (Za (ZB g.zc17) Zf))) (by with_unfolding_all rfl)) (Zco (zu (zU hr.units) (ZC ZD (Zb 1) (Zm g.zc34)) (Zp (Zt ⟨g.k_End,g.zn17⟩) (Zb 0)))))))))
theorem ZyR (D:Zl K mg "arrive" ZkT ZpG) (g:Glb K mg) (zd36:Zo P w K mg base 5 "come_to_closed" ZaL) (zd37:Zo P w K mg base 5 "come_to_listen" zA) (zd45:Zo P w K mg base 7 "come_to_stream" zg) (zd39:Zo P w K mg base 5 "come_to_syn_sent" ZU) (zd27:Zo P w K mg base 4 "get" ZiW) (zd44:Zo P w K mg base 1 "is_for" ZeJ) (zd24:Zo P w K mg base 3 "is_right" Zah):Zo P w K mg base 8 "arrive" z6:=
  ZV D zc43 3 4 rfl rfl fun f cdv A outer s H E hr=>(Ze (ZJ (ZaI (ZE (Zh zd24 hr (by decide) (Za (Zb 1) Zf)))) (Zi (Zu zD)) ZA)
  (Ze (ZG 3 zc43.nd (Zh zd27 hr (by decide) (Za (Zb 1) Zf)))
  (Ze (ZJ (ZaI (ZE (Zh zd44 hr (by decide) (Za (Zb 0) (Za (Zb 3) Zf))))) (Zi (Zu zD)) ZA)
  (Ze (ZJ (ZF (zU hr.units) (Zp (Zt ⟨g.k_End,g.zn16⟩) (Zb 0)) (ZB g.zc2)) (Zi (ZW (Zh zd36 hr (by decide) (Za (Zb 0) (Za (Zb 3) Zf))))) (Zi (ZJ (ZF (zU hr.units) (Zp (Zt ⟨g.k_End,g.zn16⟩) (Zb 0)) (ZB g.zc17)) (Zi (ZW (Zh zd37 hr (by decide) (Za (Zb 0) (Za (Zb 3) Zf))))) (Zi (ZJ (ZF (zU hr.units) (Zp (Zt ⟨g.k_End,g.zn16⟩) (Zb 0)) (ZB g.zc37)) (Zi (ZW (Zh zd39 hr (by decide) (Za (Zb 0) (Za (Zb 3) (Za (Zb 2) Zf)))))) (Zi (ZW (Zh zd45 hr (by decide) (Za (Zb 0) (Za (Zb 3) (Za (Zb 2) Zf)))))))))))
  (Zi (Zu zD))))))
theorem Zyu (D:Zl K mg "most_at_once" Zkw Zpj) (g:Glb K mg) :Zo P w K mg base 1 "most_at_once" Zag:=
  ZV D ZzJ 1 1 rfl rfl fun f cdv A outer s H E hr=>(Zi (Zu (Z3 ZnU g.b_min PyProof.Rows.boot_min (Za (Zp (Zt ⟨g.k_End,g.zn7⟩) (Zb 0)) (Za (Zm g.zc10) Zf)))))
theorem Zyt (D:Zl K mg "paid_syn" Zkv Zpi) (g:Glb K mg) :Zo P w K mg base 1 "paid_syn" ZbJ:=
  ZV D ZzI 1 1 rfl rfl fun f cdv A outer s H E hr=>(Ze (Zz (Zt ⟨g.k_End,g.zn12⟩) (Zb 0) zD)
  (Ze (ZJ (ZF (zU hr.units) (Zp (Zt ⟨g.k_End,g.zn16⟩) (Zb 0)) (ZB g.zc37)) (Zi (Zu (zc (Za (Zp (Zt ⟨g.k_End,g.zn9⟩) (Zb 0)) (Za (Zp (Zt ⟨g.k_End,g.zn17⟩) (Zb 0)) (Za (Zp (Zt ⟨g.k_End,g.zn5⟩) (Zb 0)) (Za Zj (Za (Zm g.zc35) (Za (Zm g.zc30) (Za (Zm g.zc10) (Za (zc Zf) Zf))))))))))) ZA)
  (Zi (Zu (zc (Za (Zp (Zt ⟨g.k_End,g.zn9⟩) (Zb 0)) (Za (Zp (Zt ⟨g.k_End,g.zn17⟩) (Zb 0)) (Za (Zp (Zt ⟨g.k_End,g.zn5⟩) (Zb 0)) (Za (Zp (Zt ⟨g.k_End,g.zn14⟩) (Zb 0)) (Za (Zx ZQ (Zm g.zc35) (Zm g.zc0)) (Za (Zm g.zc30) (Za (Zm g.zc10) (Za (zc Zf) Zf)))))))))))))
theorem Zys (D:Zl K mg "segment_of" Zku Zph) (g:Glb K mg) (zd11:Zo P w K mg base 2 "our_window" zP):Zo P w K mg base 3 "segment_of" zE:=
  ZV D ZzH 4 4 rfl rfl fun f cdv A outer s H E hr=>(Zi (Zu (zc (Za (Zp (Zt ⟨g.k_End,g.zn9⟩) (Zb 0)) (Za (Zp (Zt ⟨g.k_End,g.zn17⟩) (Zb 0)) (Za (Zb 1) (Za (Zp (Zt ⟨g.k_End,g.zn14⟩) (Zb 0)) (Za (Zx ZQ (Zb 2) (Zm g.zc0)) (Za (Zh zd11 hr (by decide) (Za (Zb 0) Zf)) (Za Zj (Za (ZaN ZhD g.b_tuple PyProof.Rows.boot_tuple (Za (Zb 3) Zf)) Zf)))))))))))
theorem Zyv (D:Zl K mg "again" Zkx Zpk) (g:Glb K mg) (zd66:Zo P w K mg base 1 "most_at_once" Zag) (zd5:Zo P w K mg base 1 "offset" zF) (zd67:Zo P w K mg base 1 "paid_syn" ZbJ) (zd68:Zo P w K mg base 3 "segment_of" zE):Zo P w K mg base 4 "again" Zdv:=
  ZV D zc65 2 3 rfl rfl fun f cdv A outer s H E hr=>(Ze (ZJ (ZF (zU hr.units) (Zp (Zt ⟨g.k_End,g.zn20⟩) (Zb 0)) (Zm g.zc21)) (Ze (Zz (Zt ⟨g.k_End,g.zn16⟩) (Zb 0) (ZB g.zc2))
    (Ze (Zz (Zt ⟨g.k_End,g.zn4⟩) (Zb 0) (ZB g.zc38))
    (Zi (Zu ZaM)))) ZA)
  (Ze (Zz (Zt ⟨g.k_End,g.zn20⟩) (Zb 0) (Zx ZQ (Zp (Zt ⟨g.k_End,g.zn20⟩) (Zb 0)) Zj))
  (Ze (Zz (Zt ⟨g.k_End,g.zn22⟩) (Zb 0) (Z3 ZnU g.b_min PyProof.Rows.boot_min (Za (Zx Zcf Zj (Zp (Zt ⟨g.k_End,g.zn22⟩) (Zb 0))) (Za (Zm g.zc18) Zf))))
  (Ze (Zz (Zt ⟨g.k_End,g.zn15⟩) (Zb 0) (Zb 1))
  (Ze (ZJ (ZF ZjH (Zp (Zt ⟨g.k_End,g.zn16⟩) (Zb 0)) (zc (Za (ZB g.zc37) (Za (ZB g.zc36) Zf))) (by with_unfolding_all rfl)) (Zi (Zu (Zh zd67 hr (by decide) (Za (Zb 0) Zf)))) ZA)
  (Ze (ZG 2 zc65.nd (Zbk (Zp (Zt ⟨g.k_Pile,g.zn25⟩) (Zp (Zt ⟨g.k_End,g.zn24⟩) (Zb 0))) ZbZ (Zaq (Z3 ZnU g.b_min PyProof.Rows.boot_min (Za (Zh zd5 hr (by decide) (Za (Zp (Zt ⟨g.k_End,g.zn8⟩) (Zb 0)) (Za (Zp (Zt ⟨g.k_End,g.zn21⟩) (Zb 0)) Zf))) (Za (Zh zd66 hr (by decide) (Za (Zb 0) Zf)) Zf))))))
  (Zi (Zu (Zh zd68 hr (by decide) (Za (Zb 0) (Za (Zp (Zt ⟨g.k_End,g.zn21⟩) (Zb 0)) (Za (ZcN (ZF Zhs (Z3 Zdj g.b_len PySem.boot_len (Za (Zb 2) Zf)) Zj) Zj (Zm g.zc6)) (Za (Zb 2) Zf)))))))))))))
theorem Zyh (D:Zl K mg "going_as_answer" Zkj Zo6) (g:Glb K mg) (zd68:Zo P w K mg base 3 "segment_of" zE):Zo P w K mg base 4 "going_as_answer" zX:=
  ZV D Zzz 1 1 rfl rfl fun f cdv A outer s H E hr=>(Ze (ZJ (ZaI (ZE (Zp (Zt ⟨g.k_End,g.zn11⟩) (Zb 0)))) (Zi (Zu ZaM)) ZA)
  (Ze (Zz (Zt ⟨g.k_End,g.zn11⟩) (Zb 0) zD)
  (Zi (Zu (Zh zd68 hr (by decide) (Za (Zb 0) (Za (Zp (Zt ⟨g.k_End,g.zn8⟩) (Zb 0)) (Za Zj (Za (z0 Zf) Zf)))))))))
theorem Zyn (D:Zl K mg "unsent" Zkp Zpc) (g:Glb K mg) (zd5:Zo P w K mg base 1 "offset" zF):Zo P w K mg base 2 "unsent" ZbC:=
  ZV D ZzD 1 1 rfl rfl fun f cdv A outer s H E hr=>(Zi (Zu (Zh zd5 hr (by decide) (Za (Zp (Zt ⟨g.k_End,g.zn0⟩) (Zb 0)) (Za (Zp (Zt ⟨g.k_End,g.zn8⟩) (Zb 0)) Zf)))))
theorem Zyo (D:Zl K mg "has_new_data" Zkq Zpd) (g:Glb K mg) (zd73:Zo P w K mg base 2 "unsent" ZbC):Zo P w K mg base 3 "has_new_data" Zai:=
  ZV D ZzE 1 1 rfl rfl fun f cdv A outer s H E hr=>(Zi (Zu (Zbx (zu ZjH (Zp (Zt ⟨g.k_End,g.zn16⟩) (Zb 0)) (zc (Za (ZB g.zc25) (Za (ZB g.zc40) (Za (ZB g.zc3) (Za (ZB g.zc4) (Za (ZB g.zc14) Zf)))))) (by with_unfolding_all rfl)) (Zco (zu Zhs (Zh zd73 hr (by decide) (Za (Zb 0) Zf)) Zj)))))
theorem Zym (D:Zl K mg "has_new_fin" Zko Zpb) (g:Glb K mg) (zd73:Zo P w K mg base 2 "unsent" ZbC):Zo P w K mg base 3 "has_new_fin" ZbD:=
  ZV D ZzC 1 1 rfl rfl fun f cdv A outer s H E hr=>(Zi (Zu (Zbx (zu ZjH (Zp (Zt ⟨g.k_End,g.zn16⟩) (Zb 0)) (zc (Za (ZB g.zc40) (Za (ZB g.zc4) (Za (ZB g.zc14) Zf)))) (by with_unfolding_all rfl)) (Zco (zu (zU hr.units) (Zh zd73 hr (by decide) (Za (Zb 0) Zf)) Zj)))))
theorem Zyp (D:Zl K mg "has_more" Zkr Zpe) (g:Glb K mg) (zd72:Zo P w K mg base 3 "has_new_data" Zai) (zd74:Zo P w K mg base 3 "has_new_fin" ZbD):Zo P w K mg base 4 "has_more" ZbL:=
  ZV D ZzF 1 1 rfl rfl fun f cdv A outer s H E hr=>(Zi (Zu (ZlV (Zh zd72 hr (by decide) (Za (Zb 0) Zf)) (Zco (Zh zd74 hr (by decide) (Za (Zb 0) Zf))))))
theorem Zyk (D:Zl K mg "new_data" Zkm Zo9) (g:Glb K mg) (zd66:Zo P w K mg base 1 "most_at_once" Zag) (zd5:Zo P w K mg base 1 "offset" zF) (zd4:Zo P w K mg base 1 "plus" zr) (zd68:Zo P w K mg base 3 "segment_of" zE) (zd73:Zo P w K mg base 2 "unsent" ZbC):Zo P w K mg base 4 "new_data" Zcj:=
  ZV D zc76 2 5 rfl rfl fun f cdv A outer s H E hr=>(Ze (ZG 2 zc76.nd (Zp (Zt ⟨g.k_End,g.zn8⟩) (Zb 0)))
  (Ze (ZG 3 zc76.nd (Z3 ZnU g.b_min PyProof.Rows.boot_min (Za (Zh zd66 hr (by decide) (Za (Zb 0) Zf)) (Za (Zh zd73 hr (by decide) (Za (Zb 0) Zf)) (Za (Zb 1) Zf)))))
  (Ze (ZG 4 zc76.nd (Zh zd5 hr (by decide) (Za (Zb 2) (Za (Zp (Zt ⟨g.k_End,g.zn21⟩) (Zb 0)) Zf))))
  (Ze (Zz (Zt ⟨g.k_End,g.zn8⟩) (Zb 0) (Zh zd4 hr (by decide) (Za (Zb 2) (Za (Zb 3) Zf))))
  (Zi (Zu (Zh zd68 hr (by decide) (Za (Zb 0) (Za (Zb 2) (Za (ZcN (ZF (zU hr.units) (Zh zd73 hr (by decide) (Za (Zb 0) Zf)) Zj) (Zm g.zc26) Zj) (Za (Zbk (Zp (Zt ⟨g.k_Pile,g.zn25⟩) (Zp (Zt ⟨g.k_End,g.zn24⟩) (Zb 0))) (Zaq (Zb 4)) (Zaq (Zx ZQ (Zb 4) (Zb 3)))) Zf)))))))))))
theorem Zyj (D:Zl K mg "new_fin" Zkl Zo8) (g:Glb K mg) (zd4:Zo P w K mg base 1 "plus" zr) (zd68:Zo P w K mg base 3 "segment_of" zE):Zo P w K mg base 4 "new_fin" ZdU:=
  ZV D zc77 1 2 rfl rfl fun f cdv A outer s H E hr=>(Ze (ZG 1 zc77.nd (Zp (Zt ⟨g.k_End,g.zn8⟩) (Zb 0)))
  (Ze (Zz (Zt ⟨g.k_End,g.zn8⟩) (Zb 0) (Zh zd4 hr (by decide) (Za (Zb 1) (Za Zj Zf))))
  (Zi (Zu (Zh zd68 hr (by decide) (Za (Zb 0) (Za (Zb 1) (Za (Zm g.zc6) (Za (z0 Zf) Zf)))))))))
theorem Zyl (D:Zl K mg "new_piece" Zkn Zpa) (g:Glb K mg) (zd72:Zo P w K mg base 3 "has_new_data" Zai) (zd76:Zo P w K mg base 4 "new_data" Zcj) (zd77:Zo P w K mg base 4 "new_fin" ZdU):Zo P w K mg base 5 "new_piece" ZaZ:=
  ZV D ZzB 2 2 rfl rfl fun f cdv A outer s H E hr=>(Ze (Zz (Zt ⟨g.k_End,g.zn13⟩) (Zb 0) zD)
  (Zi (Zu (ZcN (ZE (Zh zd72 hr (by decide) (Za (Zb 0) Zf))) (Zh zd76 hr (by decide) (Za (Zb 0) (Za (Zb 1) Zf))) (Zh zd77 hr (by decide) (Za (Zb 0) Zf))))))
theorem Zyq (D:Zl K mg "new_syn" Zks Zpf) (g:Glb K mg) (zd67:Zo P w K mg base 1 "paid_syn" ZbJ) (zd4:Zo P w K mg base 1 "plus" zr) (zd8:Zo P w K mg base 1 "start_timer" zd):Zo P w K mg base 2 "new_syn" Zc3:=
  ZV D ZzG 2 2 rfl rfl fun f cdv A outer s H E hr=>(Ze (ZJ (ZF (zU hr.units) (Zp (Zt ⟨g.k_End,g.zn8⟩) (Zb 0)) (Zp (Zt ⟨g.k_End,g.zn21⟩) (Zb 0))) (Zi (ZW (Zh zd8 hr (by decide) (Za (Zb 0) (Za (Zb 1) Zf))))) ZA)
  (Ze (Zz (Zt ⟨g.k_End,g.zn8⟩) (Zb 0) (Zh zd4 hr (by decide) (Za (Zp (Zt ⟨g.k_End,g.zn5⟩) (Zb 0)) (Za Zj Zf))))
  (Zi (Zu (Zh zd67 hr (by decide) (Za (Zb 0) Zf))))))
theorem Zyr (D:Zl K mg "going_as_new" Zkt Zpg) (g:Glb K mg) (zd71:Zo P w K mg base 4 "has_more" ZbL) (zd75:Zo P w K mg base 5 "new_piece" ZaZ) (zd70:Zo P w K mg base 2 "new_syn" Zc3) (zd5:Zo P w K mg base 1 "offset" zF) (zd8:Zo P w K mg base 1 "start_timer" zd):Zo P w K mg base 6 "going_as_new" zb:=
  ZV D zc69 2 3 rfl rfl fun f cdv A outer s H E hr=>(Ze (ZJ (ZF ZjH (Zp (Zt ⟨g.k_End,g.zn16⟩) (Zb 0)) (zc (Za (ZB g.zc37) (Za (ZB g.zc36) Zf))) (by with_unfolding_all rfl)) (Zi (Zu (ZcN (MW.mt (ZcC (ZF (zU hr.units) (Zp (Zt ⟨g.k_End,g.zn8⟩) (Zb 0)) (Zp (Zt ⟨g.k_End,g.zn5⟩) (Zb 0))) (zY (ZE (Zp (Zt ⟨g.k_End,g.zn12⟩) (Zb 0)))))) (Zh zd70 hr (by decide) (Za (Zb 0) (Za (Zb 1) Zf))) ZaM))) ZA)
  (Ze (ZG 2 zc69.nd (Zx ZeL (Zp (Zt ⟨g.k_End,g.zn23⟩) (Zb 0)) (Zh zd5 hr (by decide) (Za (Zp (Zt ⟨g.k_End,g.zn8⟩) (Zb 0)) (Za (Zp (Zt ⟨g.k_End,g.zn21⟩) (Zb 0)) Zf)))))
  (Ze (ZJ (MW.mt (ZcC (ZF ZhU (Zb 2) Zj) (zY (ZaI (ZE (Zh zd71 hr (by decide) (Za (Zb 0) Zf))))))) (Zi (Zu ZaM)) ZA)
  (Ze (ZJ (ZF (zU hr.units) (Zp (Zt ⟨g.k_End,g.zn8⟩) (Zb 0)) (Zp (Zt ⟨g.k_End,g.zn21⟩) (Zb 0))) (Zi (ZW (Zh zd8 hr (by decide) (Za (Zb 0) (Za (Zb 1) Zf))))) ZA)
  (Ze (Zz (Zt ⟨g.k_End,g.zn11⟩) (Zb 0) zD)
  (Zi (Zu (Zh zd75 hr (by decide) (Za (Zb 0) (Za (Zb 2) Zf))))))))))
theorem Zyw (D:Zl K mg "is_due" Zky Zpl) (g:Glb K mg) :Zo P w K mg base 1 "is_due" Zdd:=
  ZV D ZzK 2 2 rfl rfl fun f cdv A outer s H E hr=>(Zi (Zu (zu ZsU (Zx ZeL (Zb 1) (Zp (Zt ⟨g.k_End,g.zn15⟩) (Zb 0))) (Zp (Zt ⟨g.k_End,g.zn22⟩) (Zb 0)))))
theorem Zyi (D:Zl K mg "going_as_probe" Zkk Zo7) (g:Glb K mg) (zd71:Zo P w K mg base 4 "has_more" ZbL) (zd64:Zo P w K mg base 1 "is_due" Zdd) (zd75:Zo P w K mg base 5 "new_piece" ZaZ) (zd8:Zo P w K mg base 1 "start_timer" zd):Zo P w K mg base 6 "going_as_probe" ze:=
  ZV D ZzA 2 2 rfl rfl fun f cdv A outer s H E hr=>(Ze (ZJ (MW.mt (ZcC (ZF (Zea hr.units) (Zp (Zt ⟨g.k_End,g.zn8⟩) (Zb 0)) (Zp (Zt ⟨g.k_End,g.zn21⟩) (Zb 0))) (ZcC (ZF (Zea hr.units) (Zp (Zt ⟨g.k_End,g.zn23⟩) (Zb 0)) Zj) (zY (ZaI (ZE (Zh zd71 hr (by decide) (Za (Zb 0) Zf)))))))) (Ze (Zz (Zt ⟨g.k_End,g.zn13⟩) (Zb 0) zD)
    (Zi (Zu ZaM))) ZA)
  (Ze (ZJ (ZaI (ZE (Zp (Zt ⟨g.k_End,g.zn13⟩) (Zb 0)))) (Ze (Zz (Zt ⟨g.k_End,g.zn13⟩) (Zb 0) zD)
    (Zi (ZW (Zh zd8 hr (by decide) (Za (Zb 0) (Za (Zb 1) Zf)))))) ZA)
  (Ze (ZJ (ZaI (ZE (Zh zd64 hr (by decide) (Za (Zb 0) (Za (Zb 1) Zf))))) (Zi (Zu ZaM)) ZA)
  (Ze (Zz (Zt ⟨g.k_End,g.zn15⟩) (Zb 0) (Zb 1))
  (Zi (Zu (Zh zd75 hr (by decide) (Za (Zb 0) (Za Zj Zf)))))))))
theorem Zyx (D:Zl K mg "paid_reset" Zkz Zpm) (g:Glb K mg) :Zo P w K mg base 1 "paid_reset" Zc0:=
  ZV D zc63 1 2 rfl rfl fun f cdv A outer s H E hr=>(Ze (ZG 1 zc63.nd (Zp (Zt ⟨g.k_End,g.zn10⟩) (Zb 0)))
  (Ze (Zz (Zt ⟨g.k_End,g.zn10⟩) (Zb 0) ZaM)
  (Zi (Zu (Zb 1)))))
theorem Zyy (D:Zl K mg "going" ZkA Zpn) (g:Glb K mg) (zd65:Zo P w K mg base 4 "again" Zdv) (zd79:Zo P w K mg base 4 "going_as_answer" zX) (zd69:Zo P w K mg base 6 "going_as_new" zb) (zd78:Zo P w K mg base 6 "going_as_probe" ze) (zd64:Zo P w K mg base 1 "is_due" Zdd) (zd63:Zo P w K mg base 1 "paid_reset" Zc0):Zo P w K mg base 7 "going" Zd9:=
  ZV D zc62 2 3 rfl rfl fun f cdv A outer s H E hr=>(Ze (ZJ (ZF ZsS (Zp (Zt ⟨g.k_End,g.zn10⟩) (Zb 0)) ZaM) (Zi (Zu (Zh zd63 hr (by decide) (Za (Zb 0) Zf)))) ZA)
  (Ze (ZJ (MW.mt (ZcM (ZF (zU hr.units) (Zp (Zt ⟨g.k_End,g.zn16⟩) (Zb 0)) (ZB g.zc39)) (ZaH (ZF ZsU (Zx ZeL (Zb 1) (Zp (Zt ⟨g.k_End,g.zn15⟩) (Zb 0))) (Zm g.zc15))))) (Zi (Zz (Zt ⟨g.k_End,g.zn16⟩) (Zb 0) (ZB g.zc2))) ZA)
  (Ze (ZJ (ZF ZjH (Zp (Zt ⟨g.k_End,g.zn16⟩) (Zb 0)) (zc (Za (ZB g.zc2) (Za (ZB g.zc17) Zf))) (by with_unfolding_all rfl)) (Zi (Zu ZaM)) ZA)
  (Ze (ZJ (MW.mt (ZcM (ZF (Zea hr.units) (Zp (Zt ⟨g.k_End,g.zn8⟩) (Zb 0)) (Zp (Zt ⟨g.k_End,g.zn21⟩) (Zb 0))) (ZaH (ZE (Zh zd64 hr (by decide) (Za (Zb 0) (Za (Zb 1) Zf))))))) (Zi (Zu (Zh zd65 hr (by decide) (Za (Zb 0) (Za (Zb 1) Zf))))) ZA)
  (Ze (ZG 2 zc62.nd (Zh zd69 hr (by decide) (Za (Zb 0) (Za (Zb 1) Zf))))
  (Ze (ZJ (ZF ZsT (Zb 2) ZaM) (Zi (ZG 2 zc62.nd (Zh zd78 hr (by decide) (Za (Zb 0) (Za (Zb 1) Zf))))) ZA)
  (Ze (ZJ (ZF ZsT (Zb 2) ZaM) (Zi (ZG 2 zc62.nd (Zh zd79 hr (by decide) (Za (Zb 0) Zf)))) ZA)
  (Zi (Zu (Zb 2))))))))))
theorem Zyz (D:Zl K mg "send" ZkB Zpo) (g:Glb K mg) (zd62:Zo P w K mg base 7 "going" Zd9) (zd18:Zo P w K mg base 4 "put" ZlJ):Zo P w K mg base 8 "send" ZcL:=
  ZV D zc61 2 3 rfl rfl fun f cdv A outer s H E hr=>(Ze (ZG 2 zc61.nd (Zh zd62 hr (by decide) (Za (Zb 0) (Za (Zb 1) Zf))))
  (Zi (Zu (ZcN (ZF ZsT (Zb 2) ZaM) (z0 Zf) (Zh zd18 hr (by decide) (Za (Zb 2) Zf))))))
theorem Zyg (D:Zl K mg "_law_cell" Zki Zo5) (g:Glb K mg) :Zo P w K mg base 1 "_law_cell" ZgK:=
  ZV D Zzy 2 2 rfl rfl fun f cdv A outer s H E hr=>(Ze (ZJ (ZE (Zb 0)) (Zi (Zu (ZC ZD (Zb 0) (Zx Za6 (Zb 1) (Z3 Zdj g.b_len PySem.boot_len (Za (Zb 0) Zf)))))) ZA)
  (Zi (Zu Zj)))
theorem Zyf (D:Zl K mg "_law_mix" Zkh Zo4) (g:Glb K mg) (zd80:Zo P w K mg base 1 "_law_cell" ZgK):Zo P w K mg base 2 "_law_mix" Zb1:=
  ZV D zc81 2 3 rfl rfl fun f cdv A outer s H E hr=>(Ze (ZG 2 zc81.nd (Zx Za6 (Zx ZQ (Zh zd80 hr (by decide) (Za (Zb 0) (Za (Zb 1) Zf))) (Zx Zcf Zj (Zx ZQ (Zb 1) Zj))) Zj))
  (Ze (ZG 2 zc81.nd (Zx Za6 (Zx Zcf (Zb 2) Zj) Zj))
  (Zi (Zu (Zx Za6 (Zx ZQ (Zx Zcf (Zx Zer (Zb 2) Zj) Zj) (Zb 2)) Zj)))))
theorem Zye (D:Zl K mg "_law_two" Zkg Zo3) (g:Glb K mg) :Zo P w K mg base 1 "_law_two" Zes:=
  ZV D Zzx 1 1 rfl rfl fun f cdv A outer s H E hr=>(Zi (Zu (z0 (Za (Zx Zer (Zb 0) Zj) (Za (Zx Za6 (Zb 0) Zj) Zf)))))
theorem Zyd (D:Zl K mg "_law_folded" Zkf Zo2) (g:Glb K mg) :Zo P w K mg base 1 "_law_folded" ZcD:=
  ZV D zc83 1 3 rfl rfl fun f cdv A outer s H E hr=>(Ze (ZG 1 zc83.nd Zj)
  (Ze (Zh2 PassesOwn.never (Zc5 g.b_range (Za (Z3 Zdj g.b_len PySem.boot_len (Za (Zb 0) Zf)) Zf)) (Zf5 2 zc83.nd) (Zi (ZG 1 zc83.nd (Zx ZQ (Zb 1) (Zx Zcf (ZC ZD (Zb 0) (Zb 2)) (ZC ZD (z0 (Za Zj (Za Zj Zf))) (Zx Za6 (Zb 2) Zj)))))))
  (Ze (Zh0 200 PassesOwn.never (ZF Zhs (Zb 1) Zj) (Zi (ZG 1 zc83.nd (Zx ZQ (Zx Za6 (Zb 1) Zj) (Zx Zer (Zb 1) Zj)))))
  (Zi (Zu (Zb 1))))))
theorem Zyc (D:Zl K mg "_law_bytes" Zke Zo1) (g:Glb K mg) (zd83:Zo P w K mg base 1 "_law_folded" ZcD) (zd82:Zo P w K mg base 1 "_law_two" Zes):Zo P w K mg base 2 "_law_bytes" Zcw:=
  ZV D zc84 1 3 rfl rfl fun f cdv A outer s H E hr=>(Ze (ZG 1 zc84.nd (Zx ZQ (Zh zd82 hr (by decide) (Za (ZC ZD (Zb 0) Zj) Zf)) (Zh zd82 hr (by decide) (Za (ZC ZD (Zb 0) Zj) Zf))))
  (Ze (Zh2 PassesOwn.never (ZjI (Zbk (Zb 0) (Zaq Zj) (Zaq Zj))) (Zf5 2 zc84.nd) (Zi (ZG 1 zc84.nd (Zx ZQ (Zx ZQ (Zb 1) (Zh zd82 hr (by decide) (Za (Zx Zer (Zb 2) Zj) Zf))) (Zh zd82 hr (by decide) (Za (Zx Za6 (Zb 2) Zj) Zf))))))
  (Ze (ZG 1 zc84.nd (Zx ZQ (Zx ZQ (Zx ZQ (Zb 1) (z0 (Za (ZC ZD (z0 (Za Zj (Za Zj Zf))) (ZaN Zmk g.b_int PyProof.Rows.boot_int (Za (zu Zhs (ZC ZD (Zb 0) Zj) Zj) Zf))) (Za (ZC ZD (Zb 0) Zj) Zf)))) (Zh zd82 hr (by decide) (Za (ZC ZD (Zb 0) Zj) Zf))) (z0 (Za Zj (Za Zj (Za Zj (Za Zj Zf)))))))
  (Ze (ZJ (ZF Zhs (ZC ZD (Zb 0) Zj) Zj) (Zi (ZG 1 zc84.nd (Zx ZQ (Zx ZQ (Zb 1) (z0 (Za Zj (Za Zj Zf)))) (Zh zd82 hr (by decide) (Za (ZC ZD (Zb 0) Zj) Zf))))) ZA)
  (Ze (ZG 1 zc84.nd (Zx ZQ (Zb 1) (ZaN ZrO g.b_list PyProof.Rows.boot_list (Za (ZC ZD (Zb 0) Zj) Zf))))
  (Zi (Zu (Zx ZQ (Zx ZQ (Zbk (Zb 1) ZbZ (Zaq Zj)) (Zh zd82 hr (by decide) (Za (Zx ZeL Zj (Zh zd83 hr (by decide) (Za (Zb 1) Zf))) Zf))) (Zbk (Zb 1) (Zaq Zj) ZbZ)))))))))
theorem Zya (D:Zl K mg "_law_byte" Zkd ZoZ) (g:Glb K mg) :Zo P w K mg base 1 "_law_byte" ZgL:=
  ZV D Zzw 1 1 rfl rfl fun f cdv A outer s H E hr=>(Zi (Zu (Zbx (Z3 ZjX g.b_isinstance PyProof.Rows.boot_isinstance (Za (Zb 0) (Za (ZnB g.b_int PyProof.Rows.boot_int) Zf))) (Zbx (Zre (Z3 ZjX g.b_isinstance PyProof.Rows.boot_isinstance (Za (Zb 0) (Za (ZnB g.b_bool PyProof.Rows.boot_bool) Zf)))) (Zco (Zf7 ZhU ZhU Zj (Zb 0) Zj))))))
theorem Zyb (D:Zl K mg "_law_read" ZiA Zo0) (g:Glb K mg) (zd86:Zo P w K mg base 1 "_law_byte" ZgL) (zd83:Zo P w K mg base 1 "_law_folded" ZcD):Zo P w K mg base 2 "_law_read" ZgJ:=
  ZV D zc85 1 5 rfl rfl fun f cdv A outer s H E hr=>(Ze (ZJ (MW.mt (ZcC (ZaI (ZE (Z3 ZjX g.b_isinstance PyProof.Rows.boot_isinstance (Za (Zb 0) (Za (ZnB g.b_list PyProof.Rows.boot_list) Zf))))) (zY (ZF Zu7 (Z3 Zdj g.b_len PySem.boot_len (Za (Zb 0) Zf)) Zj)))) (Zi (Zu ZaM)) ZA)
  (Ze (ZJ (ZaI (ZE (Z3 Zxm g.b_all PyProof.Rows.boot_all (Za (ZtV (show ZaW _ (Zg ZiA) "_law_byte_here" ["_law_row","_law_head","_law_most","_law_words","_law_found"] ["_law_byte_here"] [] from ⟨rfl,by decide +kernel,by decide +kernel,by decide +kernel,by decide +kernel,by decide +kernel,rfl,by decide,by decide +kernel⟩) rfl rfl (ZjI (Zb 0)) (fun _ _ _ _ _=>(Zh zd86 hr (by decide) (Za (Zb 0) Zf)))) Zf)))) (Zi (Zu ZaM)) ZA)
  (Ze (ZG 1 zc85.nd (Zx Zer (ZC ZD (Zb 0) Zj) Zj))
  (Ze (ZJ (MW.mt (ZcC (ZF Zf2 (ZC ZD (Zb 0) Zj) (zc (Za Zj (Za Zj Zf))) (by with_unfolding_all rfl)) (ZcC (ZF Zhs (ZC ZD (Zb 0) Zj) Zj) (zY (ZF Zhs (Zx ZQ (ZC ZD (Zb 0) Zj) (ZC ZD (Zb 0) Zj)) Zj))))) (Zi (Zu ZaM)) ZA)
  (Ze (ZJ (MW.mt (ZcC (ZaI (Zra ZhU ZhU (Zb 1) (Z3 Zdj g.b_len PySem.boot_len (Za (Zb 0) Zf)) (Zx ZQ (Zb 1) Zj))) (zY (ZF (Zea hr.units) (Zh zd83 hr (by decide) (Za (Zb 0) Zf)) Zj)))) (Zi (Zu ZaM)) ZA)
  (Ze (ZG 2 zc85.nd Zj)
  (Ze (ZJ (ZF (zU hr.units) (Zb 1) Zj) (Ze (ZG 2 zc85.nd (Zx ZQ (Zx Zcf (ZC ZD (Zb 0) Zj) Zj) (ZC ZD (Zb 0) Zj)))
    (Zi (ZJ (MW.mt (ZcC (ZF (zU hr.units) (Zx Za6 (Zx Zer (ZC ZD (Zb 0) Zj) Zj) Zj) Zj) (ZcC (ZF (Zea hr.units) (Zbk (Zb 0) (Zaq Zj) (Zaq Zj)) (z0 (Za Zj (Za Zj Zf)))) (zY (ZF Zu7 (Zb 2) Zj))))) (Zi (Zu ZaM)) ZA))) ZA)
  (Ze (Zh1 3 zc85.nd (show ZaW _ (Zg ZiA) "_law_k" ["_law_row","_law_head","_law_most","_law_words","_law_found"] ["_law_k","_law_row"] [0] from ⟨rfl,by decide +kernel,by decide +kernel,by decide +kernel,by decide +kernel,by decide +kernel,rfl,by decide,by decide +kernel⟩) rfl rfl (Zc5 g.b_range (Za Zj Zf)) (fun _ _ _ _ _=>(Zx ZQ (Zx Zcf Zj (ZC ZD (Zb 1) (Zx Zcf Zj (Zb 0)))) (ZC ZD (Zb 1) (Zx ZQ (Zx Zcf Zj (Zb 0)) Zj)))))
  (Ze (ZG 4 zc85.nd (zc (Za (ZC ZD (Zb 3) Zj) (Za (ZC ZD (Zb 3) Zj) (Za (Zx ZQ (Zx Zcf (ZC ZD (Zb 3) Zj) Zj) (ZC ZD (Zb 3) Zj)) (Za (Zx ZQ (Zx Zcf (ZC ZD (Zb 3) Zj) Zj) (ZC ZD (Zb 3) Zj)) Zf))))))
  (Zi (Zu (Zx ZQ (Zb 4) (zc (Za (ZC ZD (Zb 0) Zj) (Za (ZC ZD (Zb 3) Zj) (Za (Zb 2) (Za (ZaN ZhD g.b_tuple PyProof.Rows.boot_tuple (Za (Zbk (Zb 0) (Zaq (Zb 1)) ZbZ) Zf)) Zf)))))))))))))))))
theorem Zx9 (D:Zl K mg "_law_plus" Zkc ZoY) (g:Glb K mg) :Zo P w K mg base 1 "_law_plus" ZcO:=
  ZV D Zzv 2 2 rfl rfl fun f cdv A outer s H E hr=>(Zi (Zu (Zx Za6 (Zx ZQ (Zb 0) (Zb 1)) Zj)))
theorem Zx8 (D:Zl K mg "_law_first" Zkb ZoX) (g:Glb K mg) :Zo P w K mg base 1 "_law_first" Zfj:=
  ZV D Zzu 1 1 rfl rfl fun f cdv A outer s H E hr=>(Ze (ZJ (ZF (zU hr.units) (Zx Za6 (Zb 0) Zj) Zj) (Zi (Zu (Zx Za6 (Zx ZeL Zj (Zx Za6 (Zx Zer (Zb 0) Zj) Zj)) Zj))) ZA)
  (Zi (Zu (Zb 0))))
theorem Zx7 (D:Zl K mg "_law_segment" Zka ZoW) (g:Glb K mg) :Zo P w K mg base 1 "_law_segment" Zc6:=
  ZV D Zzt 6 6 rfl rfl fun f cdv A outer s H E hr=>(Zi (Zu (zc (Za (ZC ZD (Zb 0) Zj) (Za (ZC ZD (Zb 0) Zj) (Za (Zb 1) (Za (Zb 2) (Za (Zb 3) (Za (Zb 4) (Za Zj (Za (ZaN ZhD g.b_tuple PyProof.Rows.boot_tuple (Za (Zb 5) Zf)) Zf)))))))))))
theorem Zx6 (D:Zl K mg "_law_given" Zj9 ZoV) (g:Glb K mg) (zd85:Zo P w K mg base 2 "_law_read" ZgJ) (zd61:Zo P w K mg base 8 "send" ZcL):Zo P w K mg base 9 "_law_given" Zgc:=
  ZV D zc90 2 5 rfl rfl fun f cdv A outer s H E hr=>(Ze (Zi0 2 zc90.nd Zf)
  (Ze (Zh2 PassesOwn.never (Zc5 g.b_range (Za Zj Zf)) (Zf5 3 zc90.nd) (Ze (ZG 4 zc90.nd (Zh zd61 hr (by decide) (Za (Zb 0) (Za (Zb 1) Zf))))
    (Ze (ZJ (ZF (zU hr.units) (Zb 4) (z0 Zf)) (Zi (ZgG 2 (Zu (Zb 2)))) ZA)
    (Zi (Zi1 2 (Zh zd85 hr (by decide) (Za (Zb 4) Zf)) (hpe:=fun h=>ZtQ PySem.F.plainAttrs_list PySem.F.slot_list_append PySem.F.type_list_append ZiZ h (ZjF (Zh zd85 hr (by decide) (Za (Zb 4) Zf)) ZmI)))))))
  (Zi (ZgG 2 (Zu (Zb 2))))))
theorem Zx5 (D:Zl K mg "_law_opened" Zj8 ZoU) (g:Glb K mg) (zd84:Zo P w K mg base 2 "_law_bytes" Zcw) (zd88:Zo P w K mg base 1 "_law_first" Zfj) (zd81:Zo P w K mg base 2 "_law_mix" Zb1) (zd87:Zo P w K mg base 1 "_law_plus" ZcO) (zd43:Zo P w K mg base 8 "arrive" z6) (zd30:Zo P w K mg base 5 "opened" ZeI) (zd61:Zo P w K mg base 8 "send" ZcL):Zo P w K mg base 9 "_law_opened" ZdV:=
  ZV D zc91 4 8 rfl rfl fun f cdv A outer s H E hr=>(Ze (ZG 4 zc91.nd (zc (Za (Zx Za6 (Zh zd81 hr (by decide) (Za (Zb 0) (Za (Zb 1) Zf))) Zj) (Za (Zx Za6 (Zh zd81 hr (by decide) (Za (Zb 0) (Za (Zx ZQ (Zb 1) Zj) Zf))) Zj) Zf))))
  (Ze (ZG 5 zc91.nd (Zh zd88 hr (by decide) (Za (Zh zd81 hr (by decide) (Za (Zb 0) (Za (Zx ZQ (Zb 1) Zj) Zf))) Zf)))
  (Ze (ZG 6 zc91.nd (Zh zd88 hr (by decide) (Za (Zh zd81 hr (by decide) (Za (Zb 0) (Za (Zx ZQ (Zb 1) Zj) Zf))) Zf)))
  (Ze (ZG 7 zc91.nd (Zh zd30 hr (by decide) (Za (ZC ZD (Zb 4) Zj) (Za Zj (Za (Zb 5) (Za zD Zf))))))
  (Ze (ZW (Zh zd43 hr (by decide) (Za (Zb 7) (Za (Zh zd84 hr (by decide) (Za (zc (Za (ZC ZD (Zb 4) Zj) (Za (ZC ZD (Zb 4) Zj) (Za (Zb 6) (Za Zj (Za Zj (Za (Zb 2) (Za (Zb 3) (Za (zc Zf) Zf))))))))) Zf)) (Za Zj Zf)))))
  (Ze (ZW (Zh zd61 hr (by decide) (Za (Zb 7) (Za Zj Zf))))
  (Ze (ZW (Zh zd43 hr (by decide) (Za (Zb 7) (Za (Zh zd84 hr (by decide) (Za (zc (Za (ZC ZD (Zb 4) Zj) (Za (ZC ZD (Zb 4) Zj) (Za (Zh zd87 hr (by decide) (Za (Zb 6) (Za Zj Zf))) (Za (Zh zd87 hr (by decide) (Za (Zb 5) (Za Zj Zf))) (Za Zj (Za (Zb 2) (Za Zj (Za (zc Zf) Zf))))))))) Zf)) (Za Zj Zf)))))
  (Zi (Zu (zc (Za (Zb 7) (Za (Zb 4) (Za (Zh zd87 hr (by decide) (Za (Zb 5) (Za Zj Zf))) (Za (Zh zd87 hr (by decide) (Za (Zb 6) (Za Zj Zf))) Zf))))))))))))))
theorem Zx4 (D:Zl K mg "_law_close" Zj7 ZoT) (g:Glb K mg) :Zo P w K mg base 1 "_law_close" Zcv:=
  ZV D Zzs 2 2 rfl rfl fun f cdv A outer s H E hr=>(Ze (ZJ (MW.mt (ZcC (ZE (Zb 1)) (zY (ZF Zf2 (Zb 0) (zc (Za ZgH (Za ZgH Zf))) (by with_unfolding_all rfl))))) (Zi (Zu (zc (Za zD (Za (Zb 0) Zf))))) ZA)
  (by refine ZhZ ?_; exact (ZmY (Zvq (Zvt (Zvs (Ztm hr (Zdz (Zdz ZmZ (by decide)) (by decide)) (by decide) (Zb 0)) Zvr))))))
theorem Zx3 (D:Zl K mg "_law_same" Zj6 ZoS) (g:Glb K mg) :Zo P w K mg base 1 "_law_same" Zh7:=
  ZV D Zzr 2 2 rfl rfl fun f cdv A outer s H E hr=>(Zi (Zu (Zbx (Z3 ZjX g.b_isinstance PyProof.Rows.boot_isinstance (Za (Zb 0) (Za (ZnB g.b_bool PyProof.Rows.boot_bool) Zf))) (Zco (zu (zU hr.units) (Zb 0) (Zb 1))))))
theorem Zx2 (D:Zl K mg "_law_fin_comes" Zj5 ZoR) (g:Glb K mg) :Zo P w K mg base 1 "_law_fin_comes" ZcE:=
  ZV D Zzq 1 1 rfl rfl fun f cdv A outer s H E hr=>(by refine ZhZ ?_; exact (ZmY (Zmm hr (Zdz (Zdz (Zdz ZmZ (by decide)) (by decide)) (by decide)) (by decide) (Zb 0) (Zb 0) rfl)))
theorem Zx1 (D:Zl K mg "_law_heard" Zj4 ZoQ) (g:Glb K mg) :Zo P w K mg base 1 "_law_heard" Zgb:=
  ZV D Zzp 2 2 rfl rfl fun f cdv A outer s H E hr=>(Ze (ZJ (ZaI (ZE (Zb 1))) (Zi (Zu (Zb 0))) ZA)
  (by refine ZhZ ?_; exact (ZmY (Zmm hr (Zdz (Zdz (Zdz ZmZ (by decide)) (by decide)) (by decide)) (by decide) (Zb 0) (Zb 0) rfl))))
theorem Zx0 (D:Zl K mg "_law_flags" Zjt ZoP) (g:Glb K mg) (zd90:Zo P w K mg base 9 "_law_given" Zgc):Zo P w K mg base 10 "_law_flags" Zfi:=
  ZV D zc96 3 5 rfl rfl fun f cdv A outer s H E hr=>(Ze (ZG 3 zc96.nd (Zh zd90 hr (by decide) (Za (ZC ZD (Zb 0) Zj) (Za Zj Zf))))
  (Ze (Zh2 PassesOwn.never (ZjI (Zb 3)) (Zf5 4 zc96.nd) (Zi (ZJ (ZF (Zea hr.units) (ZC ZD (Zb 4) Zj) (Zb 1)) (Zi (Zu zD)) ZA)))
  (Zi (Zu (zu (zU hr.units) (ZtV (show ZaW _ (Zg Zjt) "_law_segment_here" ["_law_made_here","_law_rcv","_law_due","_law_went","_law_segment_here"] ["_law_segment_here"] [] from ⟨rfl,by decide +kernel,by decide +kernel,by decide +kernel,by decide +kernel,by decide +kernel,rfl,by decide,by decide +kernel⟩) rfl rfl (ZjI (Zb 3)) (fun _ _ _ _ _=>(ZC ZD (Zb 0) Zj))) (Zb 2))))))
theorem ZxZ {fl:Addr} {fdl:FuncData} (F:Fun K "law" "law" Zgv fl fdl) (g:Glb K mg) (zd84:Zo P w K mg base 2 "_law_bytes" Zcw) (zd92:Zo P w K mg base 1 "_law_close" Zcv) (zd94:Zo P w K mg base 1 "_law_fin_comes" ZcE) (zd96:Zo P w K mg base 10 "_law_flags" Zfi) (zd95:Zo P w K mg base 1 "_law_heard" Zgb) (zd81:Zo P w K mg base 2 "_law_mix" Zb1) (zd91:Zo P w K mg base 9 "_law_opened" ZdV) (zd87:Zo P w K mg base 1 "_law_plus" ZcO) (zd93:Zo P w K mg base 1 "_law_same" Zh7) (zd89:Zo P w K mg base 1 "_law_segment" Zc6) (zd43:Zo P w K mg base 8 "arrive" z6) (zd33:Zo P w K mg base 1 "close" Zfe) (zd10:Zo P w K mg base 1 "error" Zf0) (zd32:Zo P w K mg base 3 "read" ZeH) (zd9:Zo P w K mg base 1 "state" ZfY) (zd31:Zo P w K mg base 3 "write" Zd7):FnOk P w K mg base CX0 11 fl fdl ZoO (spM ⟨z9 mg,K⟩ ZnG):=
  mfn F zc97 1 14 rfl rfl fun cdv A outer s H E hr=>(Ze (ZG 1 zc97.nd (Zh zd91 hr (by decide) (Za (Zb 0) (Za Zj (Za Zj (Za Zj Zf))))))
  (Ze (ZG 2 zc97.nd (ZC ZD (Zb 1) Zj))
  (Ze (Zh1 3 zc97.nd (show ZaW _ (Zg Zgv) "_law_k" ["_law_script","_law_made_here","_law_end","_law_data","_law_given_here","_law_after","_law_closed","_law_rcv","_law_heard_here","_law_k","_law_act","_law_due","_law_answer","_law_row"] ["_law_k","_law_script"] [0] from ⟨rfl,by decide +kernel,by decide +kernel,by decide +kernel,by decide +kernel,by decide +kernel,rfl,by decide,by decide +kernel⟩) rfl rfl (Zc5 g.b_range (Za (Zx Za6 (Zh zd81 hr (by decide) (Za (Zb 0) (Za Zj Zf))) Zj) Zf)) (fun _ _ _ _ _=>(Zx Za6 (Zh zd81 hr (by decide) (Za (Zb 1) (Za (Zx ZQ Zj (Zb 0)) Zf))) Zj)))
  (Ze (Zh1 4 zc97.nd (show ZaW _ (Zg Zgv) "_law_k" ["_law_script","_law_made_here","_law_end","_law_data","_law_given_here","_law_after","_law_closed","_law_rcv","_law_heard_here","_law_k","_law_act","_law_due","_law_answer","_law_row"] ["_law_k","_law_script"] [0] from ⟨rfl,by decide +kernel,by decide +kernel,by decide +kernel,by decide +kernel,by decide +kernel,rfl,by decide,by decide +kernel⟩) rfl rfl (Zc5 g.b_range (Za (Zx Za6 (Zh zd81 hr (by decide) (Za (Zb 0) (Za Zj Zf))) Zj) Zf)) (fun _ _ _ _ _=>(Zx Za6 (Zh zd81 hr (by decide) (Za (Zb 1) (Za (Zx ZQ Zj (Zb 0)) Zf))) Zj)))
  (Ze (ZW (Zh zd31 hr (by decide) (Za (Zb 2) (Za (Zb 3) Zf))))
  (Ze (ZJ (ZaI (ZE (Zh zd96 hr (by decide) (Za (Zb 1) (Za (ZC ZD (Zb 1) Zj) (Za (Zx Zcf (z0 (Za Zj Zf)) (ZaN Zmk g.b_int PyProof.Rows.boot_int (Za (zu Zhs (Z3 Zdj g.b_len PySem.boot_len (Za (Zb 3) Zf)) Zj) Zf))) Zf)))))) (Zi (Zu zD)) ZA)
  (Ze (ZG 5 zc97.nd ZgH)
  (Ze (ZG 6 zc97.nd zD)
  (Ze (ZG 7 zc97.nd (ZC ZD (Zb 1) Zj))
  (Ze (ZG 8 zc97.nd Zj)
  (Ze (Zh2 PassesOwn.never (Zc5 g.b_range (Za Zj Zf)) (Zf5 9 zc97.nd) (Ze (ZG 10 zc97.nd (Zx Za6 (Zh zd81 hr (by decide) (Za (Zb 0) (Za (Zx ZQ Zj (Zb 9)) Zf))) Zj))
    (Ze (ZG 11 zc97.nd (z0 Zf))
    (Ze (ZJ (ZF (zU hr.units) (Zb 10) Zj) (Ze (ZG 12 zc97.nd (Zh zd92 hr (by decide) (Za (Zb 5) (Za (Zb 6) Zf))))
      (Ze (ZJ (ZaI (ZE (Zh zd93 hr (by decide) (Za (Zh zd33 hr (by decide) (Za (Zb 2) Zf)) (Za (ZC ZD (Zb 12) Zj) Zf))))) (Zi (Zu zD)) ZA)
      (Ze (ZG 5 zc97.nd (ZC ZD (Zb 12) Zj))
      (Ze (ZG 6 zc97.nd (ZlV (Zb 6) (Zco (ZC ZD (Zb 12) Zj))))
      (Zi (ZG 11 zc97.nd (Zx Zcf (z0 (Za Zj Zf)) (ZaN Zmk g.b_int PyProof.Rows.boot_int (Za (ZC ZD (Zb 12) Zj) Zf))))))))) ZA)
    (Ze (ZJ (MW.mt (ZcM (ZF (zU hr.units) (Zb 10) Zj) (ZaH (ZF (Zea hr.units) (Zb 5) ZgH)))) (Ze (ZG 13 zc97.nd (Zh zd89 hr (by decide) (Za (ZC ZD (Zb 1) Zj) (Za (ZC ZD (Zb 1) Zj) (Za (Zh zd87 hr (by decide) (Za (ZC ZD (Zb 1) Zj) (Za (Zb 8) Zf))) (Za Zj (Za Zj (Za (Zb 4) Zf))))))))
      (Ze (ZW (Zh zd43 hr (by decide) (Za (Zb 2) (Za (Zh zd84 hr (by decide) (Za (Zb 13) Zf)) (Za Zj Zf)))))
      (Ze (ZG 5 zc97.nd (Zh zd94 hr (by decide) (Za (Zb 5) Zf)))
      (Ze (ZG 7 zc97.nd (Zh zd87 hr (by decide) (Za (ZC ZD (Zb 1) Zj) (Za (Zx ZQ (Z3 Zdj g.b_len PySem.boot_len (Za (Zb 4) Zf)) Zj) Zf))))
      (Zi (ZG 11 zc97.nd (z0 (Za Zj Zf)))))))) ZA)
    (Ze (ZJ (ZaI (ZE (Zh zd96 hr (by decide) (Za (Zb 1) (Za (Zb 7) (Za (Zb 11) Zf)))))) (Zi (Zu zD)) ZA)
    (Ze (ZJ (MW.mt (ZcM (ZF (zU hr.units) (Zb 10) Zj) (ZaH (ZF (Zea hr.units) (Zb 5) ZgH)))) (Ze (ZG 8 zc97.nd (Zx ZQ (Z3 Zdj g.b_len PySem.boot_len (Za (Zb 3) Zf)) (ZaN Zmk g.b_int PyProof.Rows.boot_int (Za (Zb 6) Zf))))
      (Ze (ZG 13 zc97.nd (Zh zd89 hr (by decide) (Za (ZC ZD (Zb 1) Zj) (Za (Zb 7) (Za (Zh zd87 hr (by decide) (Za (ZC ZD (Zb 1) Zj) (Za (Zb 8) Zf))) (Za Zj (Za Zj (Za (z0 Zf) Zf))))))))
      (Ze (ZW (Zh zd43 hr (by decide) (Za (Zb 2) (Za (Zh zd84 hr (by decide) (Za (Zb 13) Zf)) (Za Zj Zf)))))
      (Zi (ZG 5 zc97.nd (Zh zd95 hr (by decide) (Za (Zb 5) (Za (Zb 6) Zf)))))))) ZA)
    (Zi (ZJ (MW.mt (ZcC (ZF (Zea hr.units) (Zh zd9 hr (by decide) (Za (Zb 2) Zf)) (Zb 5)) (zY (ZF (Zea hr.units) (Zh zd10 hr (by decide) (Za (Zb 2) Zf)) ZgH)))) (Zi (Zu zD)) ZA)))))))))
  (Zi (Zu (zu (zU hr.units) (Zh zd32 hr (by decide) (Za (Zb 2) (Za Zj Zf))) (ZC ZD (z0 (Za (z0 Zf) (Za (Zb 4) Zf))) (ZaN Zmk g.b_int PyProof.Rows.boot_int (Za (zu (Zea hr.units) (Zb 7) (ZC ZD (Zb 1) Zj)) Zf)))))))))))))))))
theorem Zu6 {fl:Addr} {fdl:FuncData} (F:Fun K "law" "law" Zgv fl fdl) (zD0:Mk0 K mg "Pile" "Pile.__init__" zs0 zP0) (zD1:Zl K mg "room" zs1 zP1) (zD2:Zl K mg "lay" zs2 zP2) (zD3:Zl K mg "take" zs3 zP3) (zD4:Zl K mg "plus" zs4 zP4) (zD5:Zl K mg "offset" zs5 zP5) (zD6:Zl K mg "past" zs6 zP6) (zD7:Mk0 K mg "End" "End.__init__" zs7 zP7) (zD8:Zl K mg "start_timer" zs8 zP8) (zD9:Zl K mg "state" zs9 zP9) (zD10:Zl K mg "error" Zlq Zqd) (zD11:Zl K mg "our_window" Zlp Zqc) (zD12:Zl K mg "has_sent_fin" Zlo Zqb) (zD13:Zl K mg "folded" Zln Zqa) (zD14:Zl K mg "sum_of" Zlm Zp9) (zD15:Zl K mg "length" Zll Zp8) (zD16:Zl K mg "has" Zlk Zp7) (zD17:Zl K mg "bears" Zlj Zp6) (zD18:Zl K mg "put" Zli Zp5) (zD19:Zl K mg "bytes_ahead_of_sum" Zlh Zp4) (zD20:Zl K mg "byte_of_head" Zlg Zp3) (zD21:Zl K mg "bytes_of_most" Zlf Zp2) (zD22:Zl K mg "two_bytes" Zle Zp1) (zD23:Zl K mg "four_bytes" Zld Zp0) (zD24:Zl K mg "is_right" Zlc ZpZ) (zD25:Zl K mg "head_of" Zlb ZpY) (zD26:Zl K mg "is_right_long_head" Zla ZpX) (zD27:Zl K mg "get" Zk9 ZpW) (zD28:Zl K mg "two_at" Zk8 ZpV) (zD29:Zl K mg "four_at" Zk7 ZpU) (zD30:Zl K mg "opened" Zk6 ZpT) (zD31:Zl K mg "write" Zk5 ZpS) (zD32:Zl K mg "read" Zk4 ZpR) (zD33:Zl K mg "close" Zk3 ZpQ) (zD34:Zl K mg "reset_for" Zk2 ZpP) (zD35:Zl K mg "owe_reset_for" Zk1 ZpO) (zD36:Zl K mg "come_to_closed" Zk0 ZpN) (zD37:Zl K mg "come_to_listen" ZkZ ZpM) (zD38:Zl K mg "hear_syn" ZkY ZpL) (zD39:Zl K mg "come_to_syn_sent" ZkX ZpK) (zD40:Zl K mg "answers_syn" ZkW ZpJ) (zD41:Zl K mg "refuse" ZkV ZpI) (zD42:Zl K mg "go_on_from_syn_sent" ZkU ZpH) (zD43:Zl K mg "arrive" ZkT ZpG) (zD44:Zl K mg "is_for" ZkS ZpF) (zD45:Zl K mg "come_to_stream" ZkR ZpE) (zD46:Zl K mg "fits" ZkQ ZpD) (zD47:Zl K mg "is_in_window" ZkP ZpC) (zD48:Zl K mg "turn_away" ZkO ZpB) (zD49:Zl K mg "hear_reset" ZkN ZpA) (zD50:Zl K mg "goes_on_behind_answer" ZkM Zpz) (zD51:Zl K mg "has_answered_syn" ZkL Zpy) (zD52:Zl K mg "take_window" ZkK Zpx) (zD53:Zl K mg "hear_answer" ZkJ Zpw) (zD54:Zl K mg "is_newer" ZkI Zpv) (zD55:Zl K mg "end_what_is_acknowledged" ZkH Zpu) (zD56:Zl K mg "hear_stream" ZkG Zpt) (zD57:Zl K mg "keep_data" ZkF Zps) (zD58:Zl K mg "keep_fin" ZkE Zpr) (zD59:Zl K mg "draw_in_order" ZkD Zpq) (zD60:Zl K mg "hear_fin" ZkC Zpp) (zD61:Zl K mg "send" ZkB Zpo) (zD62:Zl K mg "going" ZkA Zpn) (zD63:Zl K mg "paid_reset" Zkz Zpm) (zD64:Zl K mg "is_due" Zky Zpl) (zD65:Zl K mg "again" Zkx Zpk) (zD66:Zl K mg "most_at_once" Zkw Zpj) (zD67:Zl K mg "paid_syn" Zkv Zpi) (zD68:Zl K mg "segment_of" Zku Zph) (zD69:Zl K mg "going_as_new" Zkt Zpg) (zD70:Zl K mg "new_syn" Zks Zpf) (zD71:Zl K mg "has_more" Zkr Zpe) (zD72:Zl K mg "has_new_data" Zkq Zpd) (zD73:Zl K mg "unsent" Zkp Zpc) (zD74:Zl K mg "has_new_fin" Zko Zpb) (zD75:Zl K mg "new_piece" Zkn Zpa) (zD76:Zl K mg "new_data" Zkm Zo9) (zD77:Zl K mg "new_fin" Zkl Zo8) (zD78:Zl K mg "going_as_probe" Zkk Zo7) (zD79:Zl K mg "going_as_answer" Zkj Zo6) (zD80:Zl K mg "_law_cell" Zki Zo5) (zD81:Zl K mg "_law_mix" Zkh Zo4) (zD82:Zl K mg "_law_two" Zkg Zo3) (zD83:Zl K mg "_law_folded" Zkf Zo2) (zD84:Zl K mg "_law_bytes" Zke Zo1) (zD85:Zl K mg "_law_read" ZiA Zo0) (zD86:Zl K mg "_law_byte" Zkd ZoZ) (zD87:Zl K mg "_law_plus" Zkc ZoY) (zD88:Zl K mg "_law_first" Zkb ZoX) (zD89:Zl K mg "_law_segment" Zka ZoW) (zD90:Zl K mg "_law_given" Zj9 ZoV) (zD91:Zl K mg "_law_opened" Zj8 ZoU) (zD92:Zl K mg "_law_close" Zj7 ZoT) (zD93:Zl K mg "_law_same" Zj6 ZoS) (zD94:Zl K mg "_law_fin_comes" Zj5 ZoR) (zD95:Zl K mg "_law_heard" Zj4 ZoQ) (zD96:Zl K mg "_law_flags" Zjt ZoP) (g:Glb K mg):FnOk P w K mg base CX0 11 fl fdl ZoO (spM ⟨z9 mg,K⟩ ZnG):=by
  have zd0:=zo0 (P:=P) (w:=w) (base:=base) zD0 g
  have zd1:=zo1 (P:=P) (w:=w) (base:=base) zD1 g
  have zd2:=zo2 (P:=P) (w:=w) (base:=base) zD2 g zd1
  have zd3:=zo3 (P:=P) (w:=w) (base:=base) zD3 g
  have zd4:=zo4 (P:=P) (w:=w) (base:=base) zD4 g
  have zd5:=zo5 (P:=P) (w:=w) (base:=base) zD5 g
  have zd6:=zo6 (P:=P) (w:=w) (base:=base) zD6 g zd5
  have zd7:=zo7 (P:=P) (w:=w) (base:=base) zD7 g zd0 zd4
  have zd8:=zo8 (P:=P) (w:=w) (base:=base) zD8 g
  have zd9:=zo9 (P:=P) (w:=w) (base:=base) zD9 g
  have zd10:=Zzo (P:=P) (w:=w) (base:=base) zD10 g
  have zd11:=Zzn (P:=P) (w:=w) (base:=base) zD11 g zd1
  have zd12:=Zzm (P:=P) (w:=w) (base:=base) zD12 g zd6
  have zd13:=Zzl (P:=P) (w:=w) (base:=base) zD13 g
  have zd14:=Zzk (P:=P) (w:=w) (base:=base) zD14 g zd13
  have zd16:=Zzi (P:=P) (w:=w) (base:=base) zD16 g
  have zd15:=Zzj (P:=P) (w:=w) (base:=base) zD15 g zd16
  have zd17:=Zzh (P:=P) (w:=w) (base:=base) zD17 g zd16
  have zd20:=Zze (P:=P) (w:=w) (base:=base) zD20 g
  have zd22:=Zzc (P:=P) (w:=w) (base:=base) zD22 g
  have zd23:=Zzb (P:=P) (w:=w) (base:=base) zD23 g zd22
  have zd19:=Zzf (P:=P) (w:=w) (base:=base) zD19 g zd20 zd23 zd22
  have zd21:=Zzd (P:=P) (w:=w) (base:=base) zD21 g zd22
  have zd18:=Zzg (P:=P) (w:=w) (base:=base) zD18 g zd19 zd21 zd14 zd22
  have zd25:=Zy9 (P:=P) (w:=w) (base:=base) zD25 g
  have zd28:=Zy6 (P:=P) (w:=w) (base:=base) zD28 g
  have zd26:=Zy8 (P:=P) (w:=w) (base:=base) zD26 g zd16 zd28
  have zd24:=Zza (P:=P) (w:=w) (base:=base) zD24 g zd20 zd13 zd25 zd26 zd28
  have zd29:=Zy5 (P:=P) (w:=w) (base:=base) zD29 g zd28
  have zd27:=Zy7 (P:=P) (w:=w) (base:=base) zD27 g zd29 zd25 zd24 zd28
  have zd30:=Zy4 (P:=P) (w:=w) (base:=base) zD30 g zd7
  have zd31:=Zy3 (P:=P) (w:=w) (base:=base) zD31 g zd2 zd4
  have zd32:=Zy2 (P:=P) (w:=w) (base:=base) zD32 g zd11 zd3
  have zd33:=Zy1 (P:=P) (w:=w) (base:=base) zD33 g
  have zd34:=Zy0 (P:=P) (w:=w) (base:=base) zD34 g zd17 zd15 zd4
  have zd35:=ZyZ (P:=P) (w:=w) (base:=base) zD35 g zd17 zd34
  have zd36:=ZyY (P:=P) (w:=w) (base:=base) zD36 g zd35
  have zd38:=ZyW (P:=P) (w:=w) (base:=base) zD38 g zd17 zd4
  have zd37:=ZyX (P:=P) (w:=w) (base:=base) zD37 g zd17 zd38 zd35
  have zd40:=ZyU (P:=P) (w:=w) (base:=base) zD40 g zd4
  have zd42:=ZyS (P:=P) (w:=w) (base:=base) zD42 g zd17 zd8
  have zd41:=ZyT (P:=P) (w:=w) (base:=base) zD41 g zd17
  have zd39:=ZyV (P:=P) (w:=w) (base:=base) zD39 g zd40 zd17 zd42 zd38 zd35 zd41
  have zd47:=ZyN (P:=P) (w:=w) (base:=base) zD47 g zd5 zd11
  have zd46:=ZyO (P:=P) (w:=w) (base:=base) zD46 g zd47 zd15 zd5 zd4
  have zd55:=ZyF (P:=P) (w:=w) (base:=base) zD55 g zd12
  have zd52:=ZyI (P:=P) (w:=w) (base:=base) zD52 g
  have zd51:=ZyJ (P:=P) (w:=w) (base:=base) zD51 g zd35 zd52
  have zd54:=ZyG (P:=P) (w:=w) (base:=base) zD54 g zd6
  have zd53:=ZyH (P:=P) (w:=w) (base:=base) zD53 g zd54 zd5 zd6 zd8 zd3 zd52
  have zd50:=ZyK (P:=P) (w:=w) (base:=base) zD50 g zd55 zd51 zd53 zd6
  have zd49:=ZyL (P:=P) (w:=w) (base:=base) zD49 g
  have zd59:=ZyB (P:=P) (w:=w) (base:=base) zD59 g zd2 zd4
  have zd60:=ZyA (P:=P) (w:=w) (base:=base) zD60 g zd4
  have zd57:=ZyD (P:=P) (w:=w) (base:=base) zD57 g zd47 zd4
  have zd58:=ZyC (P:=P) (w:=w) (base:=base) zD58 g zd17 zd47 zd4
  have zd56:=ZyE (P:=P) (w:=w) (base:=base) zD56 g zd59 zd60 zd57 zd58
  have zd48:=ZyM (P:=P) (w:=w) (base:=base) zD48 g zd17
  have zd45:=ZyP (P:=P) (w:=w) (base:=base) zD45 g zd17 zd46 zd50 zd49 zd56 zd48
  have zd44:=ZyQ (P:=P) (w:=w) (base:=base) zD44 g
  have zd43:=ZyR (P:=P) (w:=w) (base:=base) zD43 g zd36 zd37 zd45 zd39 zd27 zd44 zd24
  have zd66:=Zyu (P:=P) (w:=w) (base:=base) zD66 g
  have zd67:=Zyt (P:=P) (w:=w) (base:=base) zD67 g
  have zd68:=Zys (P:=P) (w:=w) (base:=base) zD68 g zd11
  have zd65:=Zyv (P:=P) (w:=w) (base:=base) zD65 g zd66 zd5 zd67 zd68
  have zd79:=Zyh (P:=P) (w:=w) (base:=base) zD79 g zd68
  have zd73:=Zyn (P:=P) (w:=w) (base:=base) zD73 g zd5
  have zd72:=Zyo (P:=P) (w:=w) (base:=base) zD72 g zd73
  have zd74:=Zym (P:=P) (w:=w) (base:=base) zD74 g zd73
  have zd71:=Zyp (P:=P) (w:=w) (base:=base) zD71 g zd72 zd74
  have zd76:=Zyk (P:=P) (w:=w) (base:=base) zD76 g zd66 zd5 zd4 zd68 zd73
  have zd77:=Zyj (P:=P) (w:=w) (base:=base) zD77 g zd4 zd68
  have zd75:=Zyl (P:=P) (w:=w) (base:=base) zD75 g zd72 zd76 zd77
  have zd70:=Zyq (P:=P) (w:=w) (base:=base) zD70 g zd67 zd4 zd8
  have zd69:=Zyr (P:=P) (w:=w) (base:=base) zD69 g zd71 zd75 zd70 zd5 zd8
  have zd64:=Zyw (P:=P) (w:=w) (base:=base) zD64 g
  have zd78:=Zyi (P:=P) (w:=w) (base:=base) zD78 g zd71 zd64 zd75 zd8
  have zd63:=Zyx (P:=P) (w:=w) (base:=base) zD63 g
  have zd62:=Zyy (P:=P) (w:=w) (base:=base) zD62 g zd65 zd79 zd69 zd78 zd64 zd63
  have zd61:=Zyz (P:=P) (w:=w) (base:=base) zD61 g zd62 zd18
  have zd80:=Zyg (P:=P) (w:=w) (base:=base) zD80 g
  have zd81:=Zyf (P:=P) (w:=w) (base:=base) zD81 g zd80
  have zd82:=Zye (P:=P) (w:=w) (base:=base) zD82 g
  have zd83:=Zyd (P:=P) (w:=w) (base:=base) zD83 g
  have zd84:=Zyc (P:=P) (w:=w) (base:=base) zD84 g zd83 zd82
  have zd86:=Zya (P:=P) (w:=w) (base:=base) zD86 g
  have zd85:=Zyb (P:=P) (w:=w) (base:=base) zD85 g zd86 zd83
  have zd87:=Zx9 (P:=P) (w:=w) (base:=base) zD87 g
  have zd88:=Zx8 (P:=P) (w:=w) (base:=base) zD88 g
  have zd89:=Zx7 (P:=P) (w:=w) (base:=base) zD89 g
  have zd90:=Zx6 (P:=P) (w:=w) (base:=base) zD90 g zd85 zd61
  have zd91:=Zx5 (P:=P) (w:=w) (base:=base) zD91 g zd84 zd88 zd81 zd87 zd43 zd30 zd61
  have zd92:=Zx4 (P:=P) (w:=w) (base:=base) zD92 g
  have zd93:=Zx3 (P:=P) (w:=w) (base:=base) zD93 g
  have zd94:=Zx2 (P:=P) (w:=w) (base:=base) zD94 g
  have zd95:=Zx1 (P:=P) (w:=w) (base:=base) zD95 g
  have zd96:=Zx0 (P:=P) (w:=w) (base:=base) zD96 g zd90
  exact ZxZ F g zd84 zd92 zd94 zd96 zd95 zd81 zd91 zd87 zd93 zd89 zd43 zd33 zd10 zd32 zd9 zd31
end
theorem us1 {p:List Value→Prop} (h:∀a,p [a]):∀us:List Value,us.length=1→p us
  | [a],_=>h a
theorem us2 {p:List Value→Prop} (h:∀a b,p [a,b]):∀us:List Value,us.length=2→p us
  | [a,b],_=>h a b
theorem us3 {p:List Value→Prop} (h:∀a b c,p [a,b,c]):∀us:List Value,us.length=3→p us
  | [a,b,c],_=>h a b c
theorem us4 {p:List Value→Prop} (h:∀a b c d,p [a,b,c,d]):∀us:List Value,us.length=4→p us
  | [a,b,c,d],_=>h a b c d
theorem us5 {p:List Value→Prop} (h:∀a b c d e,p [a,b,c,d,e]):∀us:List Value,us.length=5→p us
  | [a,b,c,d,e],_=>h a b c d e
theorem us6 {p:List Value→Prop} (h:∀a b c d e f,p [a,b,c,d,e,f]):∀us:List Value,us.length=6→p us
  | [a,b,c,d,e,f],_=>h a b c d e f
open PySem.W
theorem Zvv {l:OpenLaw} {w:World} {K:Frag} {h:Heap} {mg:Str→Option Value} {fa:Addr} (X:K.In h) (G:h.Ns mainGlobals mg) (hfa:mg "law"=some (.ref fa))
    (aC_End:nsIn K mainGlobals "End"=some (some (.ref C_End)))
    (aC_Pile:nsIn K mainGlobals "Pile"=some (some (.ref C_Pile)))
    (a0:findIn K (.ref C_Pile) "__init__"=some (some (.ref f0))) (i0:isFn K (.ref f0)=true) (l0:K.lookup f0=some ⟨oc0,od0,.func (fnOf "__init__" "Pile.__init__" (Zr zs0) (Zn zs0) (Zg zs0) .none kV0 dc0 pm0 an0 cd0 ct0),sl0⟩) (c0:codeIn K cd0 "Pile.__init__"=true) (k0:keepIn K (.ref f0)=true)
    (a1:nsIn K mainGlobals "room"=some (some (.ref f1))) (l1:K.lookup f1=some ⟨oc1,od1,.func (fnOf "room" "room" (Zr zs1) (Zn zs1) (Zg zs1) .none kV1 dc1 pm1 an1 cd1 ct1),sl1⟩) (c1:codeIn K cd1 "room"=true) (k1:keepIn K (.ref f1)=true)
    (a2:nsIn K mainGlobals "lay"=some (some (.ref f2))) (l2:K.lookup f2=some ⟨oc2,od2,.func (fnOf "lay" "lay" (Zr zs2) (Zn zs2) (Zg zs2) .none kV2 dc2 pm2 an2 cd2 ct2),sl2⟩) (c2:codeIn K cd2 "lay"=true) (k2:keepIn K (.ref f2)=true)
    (a3:nsIn K mainGlobals "take"=some (some (.ref f3))) (l3:K.lookup f3=some ⟨oc3,od3,.func (fnOf "take" "take" (Zr zs3) (Zn zs3) (Zg zs3) .none kV3 dc3 pm3 an3 cd3 ct3),sl3⟩) (c3:codeIn K cd3 "take"=true) (k3:keepIn K (.ref f3)=true)
    (a4:nsIn K mainGlobals "plus"=some (some (.ref f4))) (l4:K.lookup f4=some ⟨oc4,od4,.func (fnOf "plus" "plus" (Zr zs4) (Zn zs4) (Zg zs4) .none kV4 dc4 pm4 an4 cd4 ct4),sl4⟩) (c4:codeIn K cd4 "plus"=true) (k4:keepIn K (.ref f4)=true)
    (a5:nsIn K mainGlobals "offset"=some (some (.ref f5))) (l5:K.lookup f5=some ⟨oc5,od5,.func (fnOf "offset" "offset" (Zr zs5) (Zn zs5) (Zg zs5) .none kV5 dc5 pm5 an5 cd5 ct5),sl5⟩) (c5:codeIn K cd5 "offset"=true) (k5:keepIn K (.ref f5)=true)
    (a6:nsIn K mainGlobals "past"=some (some (.ref f6))) (l6:K.lookup f6=some ⟨oc6,od6,.func (fnOf "past" "past" (Zr zs6) (Zn zs6) (Zg zs6) .none kV6 dc6 pm6 an6 cd6 ct6),sl6⟩) (c6:codeIn K cd6 "past"=true) (k6:keepIn K (.ref f6)=true)
    (a7:findIn K (.ref C_End) "__init__"=some (some (.ref f7))) (i7:isFn K (.ref f7)=true) (l7:K.lookup f7=some ⟨oc7,od7,.func (fnOf "__init__" "End.__init__" (Zr zs7) (Zn zs7) (Zg zs7) .none kV7 dc7 pm7 an7 cd7 ct7),sl7⟩) (c7:codeIn K cd7 "End.__init__"=true) (k7:keepIn K (.ref f7)=true)
    (a8:nsIn K mainGlobals "start_timer"=some (some (.ref f8))) (l8:K.lookup f8=some ⟨oc8,od8,.func (fnOf "start_timer" "start_timer" (Zr zs8) (Zn zs8) (Zg zs8) .none kV8 dc8 pm8 an8 cd8 ct8),sl8⟩) (c8:codeIn K cd8 "start_timer"=true) (k8:keepIn K (.ref f8)=true)
    (a9:nsIn K mainGlobals "state"=some (some (.ref f9))) (l9:K.lookup f9=some ⟨oc9,od9,.func (fnOf "state" "state" (Zr zs9) (Zn zs9) (Zg zs9) .none kV9 dc9 pm9 an9 cd9 ct9),sl9⟩) (c9:codeIn K cd9 "state"=true) (k9:keepIn K (.ref f9)=true)
    (a10:nsIn K mainGlobals "error"=some (some (.ref f10))) (l10:K.lookup f10=some ⟨oc10,od10,.func (fnOf "error" "error" (Zr Zlq) (Zn Zlq) (Zg Zlq) .none kV10 dc10 pm10 an10 cd10 ct10),sl10⟩) (c10:codeIn K cd10 "error"=true) (k10:keepIn K (.ref f10)=true)
    (a11:nsIn K mainGlobals "our_window"=some (some (.ref f11))) (l11:K.lookup f11=some ⟨oc11,od11,.func (fnOf "our_window" "our_window" (Zr Zlp) (Zn Zlp) (Zg Zlp) .none kV11 dc11 pm11 an11 cd11 ct11),sl11⟩) (c11:codeIn K cd11 "our_window"=true) (k11:keepIn K (.ref f11)=true)
    (a12:nsIn K mainGlobals "has_sent_fin"=some (some (.ref f12))) (l12:K.lookup f12=some ⟨oc12,od12,.func (fnOf "has_sent_fin" "has_sent_fin" (Zr Zlo) (Zn Zlo) (Zg Zlo) .none kV12 dc12 pm12 an12 cd12 ct12),sl12⟩) (c12:codeIn K cd12 "has_sent_fin"=true) (k12:keepIn K (.ref f12)=true)
    (a13:nsIn K mainGlobals "folded"=some (some (.ref f13))) (l13:K.lookup f13=some ⟨oc13,od13,.func (fnOf "folded" "folded" (Zr Zln) (Zn Zln) (Zg Zln) .none kV13 dc13 pm13 an13 cd13 ct13),sl13⟩) (c13:codeIn K cd13 "folded"=true) (k13:keepIn K (.ref f13)=true)
    (a14:nsIn K mainGlobals "sum_of"=some (some (.ref f14))) (l14:K.lookup f14=some ⟨oc14,od14,.func (fnOf "sum_of" "sum_of" (Zr Zlm) (Zn Zlm) (Zg Zlm) .none kV14 dc14 pm14 an14 cd14 ct14),sl14⟩) (c14:codeIn K cd14 "sum_of"=true) (k14:keepIn K (.ref f14)=true)
    (a15:nsIn K mainGlobals "length"=some (some (.ref f15))) (l15:K.lookup f15=some ⟨oc15,od15,.func (fnOf "length" "length" (Zr Zll) (Zn Zll) (Zg Zll) .none kV15 dc15 pm15 an15 cd15 ct15),sl15⟩) (c15:codeIn K cd15 "length"=true) (k15:keepIn K (.ref f15)=true)
    (a16:nsIn K mainGlobals "has"=some (some (.ref f16))) (l16:K.lookup f16=some ⟨oc16,od16,.func (fnOf "has" "has" (Zr Zlk) (Zn Zlk) (Zg Zlk) .none kV16 dc16 pm16 an16 cd16 ct16),sl16⟩) (c16:codeIn K cd16 "has"=true) (k16:keepIn K (.ref f16)=true)
    (a17:nsIn K mainGlobals "bears"=some (some (.ref f17))) (l17:K.lookup f17=some ⟨oc17,od17,.func (fnOf "bears" "bears" (Zr Zlj) (Zn Zlj) (Zg Zlj) .none kV17 dc17 pm17 an17 cd17 ct17),sl17⟩) (c17:codeIn K cd17 "bears"=true) (k17:keepIn K (.ref f17)=true)
    (a18:nsIn K mainGlobals "put"=some (some (.ref f18))) (l18:K.lookup f18=some ⟨oc18,od18,.func (fnOf "put" "put" (Zr Zli) (Zn Zli) (Zg Zli) .none kV18 dc18 pm18 an18 cd18 ct18),sl18⟩) (c18:codeIn K cd18 "put"=true) (k18:keepIn K (.ref f18)=true)
    (a19:nsIn K mainGlobals "bytes_ahead_of_sum"=some (some (.ref f19))) (l19:K.lookup f19=some ⟨oc19,od19,.func (fnOf "bytes_ahead_of_sum" "bytes_ahead_of_sum" (Zr Zlh) (Zn Zlh) (Zg Zlh) .none kV19 dc19 pm19 an19 cd19 ct19),sl19⟩) (c19:codeIn K cd19 "bytes_ahead_of_sum"=true) (k19:keepIn K (.ref f19)=true)
    (a20:nsIn K mainGlobals "byte_of_head"=some (some (.ref f20))) (l20:K.lookup f20=some ⟨oc20,od20,.func (fnOf "byte_of_head" "byte_of_head" (Zr Zlg) (Zn Zlg) (Zg Zlg) .none kV20 dc20 pm20 an20 cd20 ct20),sl20⟩) (c20:codeIn K cd20 "byte_of_head"=true) (k20:keepIn K (.ref f20)=true)
    (a21:nsIn K mainGlobals "bytes_of_most"=some (some (.ref f21))) (l21:K.lookup f21=some ⟨oc21,od21,.func (fnOf "bytes_of_most" "bytes_of_most" (Zr Zlf) (Zn Zlf) (Zg Zlf) .none kV21 dc21 pm21 an21 cd21 ct21),sl21⟩) (c21:codeIn K cd21 "bytes_of_most"=true) (k21:keepIn K (.ref f21)=true)
    (a22:nsIn K mainGlobals "two_bytes"=some (some (.ref f22))) (l22:K.lookup f22=some ⟨oc22,od22,.func (fnOf "two_bytes" "two_bytes" (Zr Zle) (Zn Zle) (Zg Zle) .none kV22 dc22 pm22 an22 cd22 ct22),sl22⟩) (c22:codeIn K cd22 "two_bytes"=true) (k22:keepIn K (.ref f22)=true)
    (a23:nsIn K mainGlobals "four_bytes"=some (some (.ref f23))) (l23:K.lookup f23=some ⟨oc23,od23,.func (fnOf "four_bytes" "four_bytes" (Zr Zld) (Zn Zld) (Zg Zld) .none kV23 dc23 pm23 an23 cd23 ct23),sl23⟩) (c23:codeIn K cd23 "four_bytes"=true) (k23:keepIn K (.ref f23)=true)
    (a24:nsIn K mainGlobals "is_right"=some (some (.ref f24))) (l24:K.lookup f24=some ⟨oc24,od24,.func (fnOf "is_right" "is_right" (Zr Zlc) (Zn Zlc) (Zg Zlc) .none kV24 dc24 pm24 an24 cd24 ct24),sl24⟩) (c24:codeIn K cd24 "is_right"=true) (k24:keepIn K (.ref f24)=true)
    (a25:nsIn K mainGlobals "head_of"=some (some (.ref f25))) (l25:K.lookup f25=some ⟨oc25,od25,.func (fnOf "head_of" "head_of" (Zr Zlb) (Zn Zlb) (Zg Zlb) .none kV25 dc25 pm25 an25 cd25 ct25),sl25⟩) (c25:codeIn K cd25 "head_of"=true) (k25:keepIn K (.ref f25)=true)
    (a26:nsIn K mainGlobals "is_right_long_head"=some (some (.ref f26))) (l26:K.lookup f26=some ⟨oc26,od26,.func (fnOf "is_right_long_head" "is_right_long_head" (Zr Zla) (Zn Zla) (Zg Zla) .none kV26 dc26 pm26 an26 cd26 ct26),sl26⟩) (c26:codeIn K cd26 "is_right_long_head"=true) (k26:keepIn K (.ref f26)=true)
    (a27:nsIn K mainGlobals "get"=some (some (.ref f27))) (l27:K.lookup f27=some ⟨oc27,od27,.func (fnOf "get" "get" (Zr Zk9) (Zn Zk9) (Zg Zk9) .none kV27 dc27 pm27 an27 cd27 ct27),sl27⟩) (c27:codeIn K cd27 "get"=true) (k27:keepIn K (.ref f27)=true)
    (a28:nsIn K mainGlobals "two_at"=some (some (.ref f28))) (l28:K.lookup f28=some ⟨oc28,od28,.func (fnOf "two_at" "two_at" (Zr Zk8) (Zn Zk8) (Zg Zk8) .none kV28 dc28 pm28 an28 cd28 ct28),sl28⟩) (c28:codeIn K cd28 "two_at"=true) (k28:keepIn K (.ref f28)=true)
    (a29:nsIn K mainGlobals "four_at"=some (some (.ref f29))) (l29:K.lookup f29=some ⟨oc29,od29,.func (fnOf "four_at" "four_at" (Zr Zk7) (Zn Zk7) (Zg Zk7) .none kV29 dc29 pm29 an29 cd29 ct29),sl29⟩) (c29:codeIn K cd29 "four_at"=true) (k29:keepIn K (.ref f29)=true)
    (a30:nsIn K mainGlobals "opened"=some (some (.ref f30))) (l30:K.lookup f30=some ⟨oc30,od30,.func (fnOf "opened" "opened" (Zr Zk6) (Zn Zk6) (Zg Zk6) .none kV30 dc30 pm30 an30 cd30 ct30),sl30⟩) (c30:codeIn K cd30 "opened"=true) (k30:keepIn K (.ref f30)=true)
    (a31:nsIn K mainGlobals "write"=some (some (.ref f31))) (l31:K.lookup f31=some ⟨oc31,od31,.func (fnOf "write" "write" (Zr Zk5) (Zn Zk5) (Zg Zk5) .none kV31 dc31 pm31 an31 cd31 ct31),sl31⟩) (c31:codeIn K cd31 "write"=true) (k31:keepIn K (.ref f31)=true)
    (a32:nsIn K mainGlobals "read"=some (some (.ref f32))) (l32:K.lookup f32=some ⟨oc32,od32,.func (fnOf "read" "read" (Zr Zk4) (Zn Zk4) (Zg Zk4) .none kV32 dc32 pm32 an32 cd32 ct32),sl32⟩) (c32:codeIn K cd32 "read"=true) (k32:keepIn K (.ref f32)=true)
    (a33:nsIn K mainGlobals "close"=some (some (.ref f33))) (l33:K.lookup f33=some ⟨oc33,od33,.func (fnOf "close" "close" (Zr Zk3) (Zn Zk3) (Zg Zk3) .none kV33 dc33 pm33 an33 cd33 ct33),sl33⟩) (c33:codeIn K cd33 "close"=true) (k33:keepIn K (.ref f33)=true)
    (a34:nsIn K mainGlobals "reset_for"=some (some (.ref f34))) (l34:K.lookup f34=some ⟨oc34,od34,.func (fnOf "reset_for" "reset_for" (Zr Zk2) (Zn Zk2) (Zg Zk2) .none kV34 dc34 pm34 an34 cd34 ct34),sl34⟩) (c34:codeIn K cd34 "reset_for"=true) (k34:keepIn K (.ref f34)=true)
    (a35:nsIn K mainGlobals "owe_reset_for"=some (some (.ref f35))) (l35:K.lookup f35=some ⟨oc35,od35,.func (fnOf "owe_reset_for" "owe_reset_for" (Zr Zk1) (Zn Zk1) (Zg Zk1) .none kV35 dc35 pm35 an35 cd35 ct35),sl35⟩) (c35:codeIn K cd35 "owe_reset_for"=true) (k35:keepIn K (.ref f35)=true)
    (a36:nsIn K mainGlobals "come_to_closed"=some (some (.ref f36))) (l36:K.lookup f36=some ⟨oc36,od36,.func (fnOf "come_to_closed" "come_to_closed" (Zr Zk0) (Zn Zk0) (Zg Zk0) .none kV36 dc36 pm36 an36 cd36 ct36),sl36⟩) (c36:codeIn K cd36 "come_to_closed"=true) (k36:keepIn K (.ref f36)=true)
    (a37:nsIn K mainGlobals "come_to_listen"=some (some (.ref f37))) (l37:K.lookup f37=some ⟨oc37,od37,.func (fnOf "come_to_listen" "come_to_listen" (Zr ZkZ) (Zn ZkZ) (Zg ZkZ) .none kV37 dc37 pm37 an37 cd37 ct37),sl37⟩) (c37:codeIn K cd37 "come_to_listen"=true) (k37:keepIn K (.ref f37)=true)
    (a38:nsIn K mainGlobals "hear_syn"=some (some (.ref f38))) (l38:K.lookup f38=some ⟨oc38,od38,.func (fnOf "hear_syn" "hear_syn" (Zr ZkY) (Zn ZkY) (Zg ZkY) .none kV38 dc38 pm38 an38 cd38 ct38),sl38⟩) (c38:codeIn K cd38 "hear_syn"=true) (k38:keepIn K (.ref f38)=true)
    (a39:nsIn K mainGlobals "come_to_syn_sent"=some (some (.ref f39))) (l39:K.lookup f39=some ⟨oc39,od39,.func (fnOf "come_to_syn_sent" "come_to_syn_sent" (Zr ZkX) (Zn ZkX) (Zg ZkX) .none kV39 dc39 pm39 an39 cd39 ct39),sl39⟩) (c39:codeIn K cd39 "come_to_syn_sent"=true) (k39:keepIn K (.ref f39)=true)
    (a40:nsIn K mainGlobals "answers_syn"=some (some (.ref f40))) (l40:K.lookup f40=some ⟨oc40,od40,.func (fnOf "answers_syn" "answers_syn" (Zr ZkW) (Zn ZkW) (Zg ZkW) .none kV40 dc40 pm40 an40 cd40 ct40),sl40⟩) (c40:codeIn K cd40 "answers_syn"=true) (k40:keepIn K (.ref f40)=true)
    (a41:nsIn K mainGlobals "refuse"=some (some (.ref f41))) (l41:K.lookup f41=some ⟨oc41,od41,.func (fnOf "refuse" "refuse" (Zr ZkV) (Zn ZkV) (Zg ZkV) .none kV41 dc41 pm41 an41 cd41 ct41),sl41⟩) (c41:codeIn K cd41 "refuse"=true) (k41:keepIn K (.ref f41)=true)
    (a42:nsIn K mainGlobals "go_on_from_syn_sent"=some (some (.ref f42))) (l42:K.lookup f42=some ⟨oc42,od42,.func (fnOf "go_on_from_syn_sent" "go_on_from_syn_sent" (Zr ZkU) (Zn ZkU) (Zg ZkU) .none kV42 dc42 pm42 an42 cd42 ct42),sl42⟩) (c42:codeIn K cd42 "go_on_from_syn_sent"=true) (k42:keepIn K (.ref f42)=true)
    (a43:nsIn K mainGlobals "arrive"=some (some (.ref f43))) (l43:K.lookup f43=some ⟨oc43,od43,.func (fnOf "arrive" "arrive" (Zr ZkT) (Zn ZkT) (Zg ZkT) .none kV43 dc43 pm43 an43 cd43 ct43),sl43⟩) (c43:codeIn K cd43 "arrive"=true) (k43:keepIn K (.ref f43)=true)
    (a44:nsIn K mainGlobals "is_for"=some (some (.ref f44))) (l44:K.lookup f44=some ⟨oc44,od44,.func (fnOf "is_for" "is_for" (Zr ZkS) (Zn ZkS) (Zg ZkS) .none kV44 dc44 pm44 an44 cd44 ct44),sl44⟩) (c44:codeIn K cd44 "is_for"=true) (k44:keepIn K (.ref f44)=true)
    (a45:nsIn K mainGlobals "come_to_stream"=some (some (.ref f45))) (l45:K.lookup f45=some ⟨oc45,od45,.func (fnOf "come_to_stream" "come_to_stream" (Zr ZkR) (Zn ZkR) (Zg ZkR) .none kV45 dc45 pm45 an45 cd45 ct45),sl45⟩) (c45:codeIn K cd45 "come_to_stream"=true) (k45:keepIn K (.ref f45)=true)
    (a46:nsIn K mainGlobals "fits"=some (some (.ref f46))) (l46:K.lookup f46=some ⟨oc46,od46,.func (fnOf "fits" "fits" (Zr ZkQ) (Zn ZkQ) (Zg ZkQ) .none kV46 dc46 pm46 an46 cd46 ct46),sl46⟩) (c46:codeIn K cd46 "fits"=true) (k46:keepIn K (.ref f46)=true)
    (a47:nsIn K mainGlobals "is_in_window"=some (some (.ref f47))) (l47:K.lookup f47=some ⟨oc47,od47,.func (fnOf "is_in_window" "is_in_window" (Zr ZkP) (Zn ZkP) (Zg ZkP) .none kV47 dc47 pm47 an47 cd47 ct47),sl47⟩) (c47:codeIn K cd47 "is_in_window"=true) (k47:keepIn K (.ref f47)=true)
    (a48:nsIn K mainGlobals "turn_away"=some (some (.ref f48))) (l48:K.lookup f48=some ⟨oc48,od48,.func (fnOf "turn_away" "turn_away" (Zr ZkO) (Zn ZkO) (Zg ZkO) .none kV48 dc48 pm48 an48 cd48 ct48),sl48⟩) (c48:codeIn K cd48 "turn_away"=true) (k48:keepIn K (.ref f48)=true)
    (a49:nsIn K mainGlobals "hear_reset"=some (some (.ref f49))) (l49:K.lookup f49=some ⟨oc49,od49,.func (fnOf "hear_reset" "hear_reset" (Zr ZkN) (Zn ZkN) (Zg ZkN) .none kV49 dc49 pm49 an49 cd49 ct49),sl49⟩) (c49:codeIn K cd49 "hear_reset"=true) (k49:keepIn K (.ref f49)=true)
    (a50:nsIn K mainGlobals "goes_on_behind_answer"=some (some (.ref f50))) (l50:K.lookup f50=some ⟨oc50,od50,.func (fnOf "goes_on_behind_answer" "goes_on_behind_answer" (Zr ZkM) (Zn ZkM) (Zg ZkM) .none kV50 dc50 pm50 an50 cd50 ct50),sl50⟩) (c50:codeIn K cd50 "goes_on_behind_answer"=true) (k50:keepIn K (.ref f50)=true)
    (a51:nsIn K mainGlobals "has_answered_syn"=some (some (.ref f51))) (l51:K.lookup f51=some ⟨oc51,od51,.func (fnOf "has_answered_syn" "has_answered_syn" (Zr ZkL) (Zn ZkL) (Zg ZkL) .none kV51 dc51 pm51 an51 cd51 ct51),sl51⟩) (c51:codeIn K cd51 "has_answered_syn"=true) (k51:keepIn K (.ref f51)=true)
    (a52:nsIn K mainGlobals "take_window"=some (some (.ref f52))) (l52:K.lookup f52=some ⟨oc52,od52,.func (fnOf "take_window" "take_window" (Zr ZkK) (Zn ZkK) (Zg ZkK) .none kV52 dc52 pm52 an52 cd52 ct52),sl52⟩) (c52:codeIn K cd52 "take_window"=true) (k52:keepIn K (.ref f52)=true)
    (a53:nsIn K mainGlobals "hear_answer"=some (some (.ref f53))) (l53:K.lookup f53=some ⟨oc53,od53,.func (fnOf "hear_answer" "hear_answer" (Zr ZkJ) (Zn ZkJ) (Zg ZkJ) .none kV53 dc53 pm53 an53 cd53 ct53),sl53⟩) (c53:codeIn K cd53 "hear_answer"=true) (k53:keepIn K (.ref f53)=true)
    (a54:nsIn K mainGlobals "is_newer"=some (some (.ref f54))) (l54:K.lookup f54=some ⟨oc54,od54,.func (fnOf "is_newer" "is_newer" (Zr ZkI) (Zn ZkI) (Zg ZkI) .none kV54 dc54 pm54 an54 cd54 ct54),sl54⟩) (c54:codeIn K cd54 "is_newer"=true) (k54:keepIn K (.ref f54)=true)
    (a55:nsIn K mainGlobals "end_what_is_acknowledged"=some (some (.ref f55))) (l55:K.lookup f55=some ⟨oc55,od55,.func (fnOf "end_what_is_acknowledged" "end_what_is_acknowledged" (Zr ZkH) (Zn ZkH) (Zg ZkH) .none kV55 dc55 pm55 an55 cd55 ct55),sl55⟩) (c55:codeIn K cd55 "end_what_is_acknowledged"=true) (k55:keepIn K (.ref f55)=true)
    (a56:nsIn K mainGlobals "hear_stream"=some (some (.ref f56))) (l56:K.lookup f56=some ⟨oc56,od56,.func (fnOf "hear_stream" "hear_stream" (Zr ZkG) (Zn ZkG) (Zg ZkG) .none kV56 dc56 pm56 an56 cd56 ct56),sl56⟩) (c56:codeIn K cd56 "hear_stream"=true) (k56:keepIn K (.ref f56)=true)
    (a57:nsIn K mainGlobals "keep_data"=some (some (.ref f57))) (l57:K.lookup f57=some ⟨oc57,od57,.func (fnOf "keep_data" "keep_data" (Zr ZkF) (Zn ZkF) (Zg ZkF) .none kV57 dc57 pm57 an57 cd57 ct57),sl57⟩) (c57:codeIn K cd57 "keep_data"=true) (k57:keepIn K (.ref f57)=true)
    (a58:nsIn K mainGlobals "keep_fin"=some (some (.ref f58))) (l58:K.lookup f58=some ⟨oc58,od58,.func (fnOf "keep_fin" "keep_fin" (Zr ZkE) (Zn ZkE) (Zg ZkE) .none kV58 dc58 pm58 an58 cd58 ct58),sl58⟩) (c58:codeIn K cd58 "keep_fin"=true) (k58:keepIn K (.ref f58)=true)
    (a59:nsIn K mainGlobals "draw_in_order"=some (some (.ref f59))) (l59:K.lookup f59=some ⟨oc59,od59,.func (fnOf "draw_in_order" "draw_in_order" (Zr ZkD) (Zn ZkD) (Zg ZkD) .none kV59 dc59 pm59 an59 cd59 ct59),sl59⟩) (c59:codeIn K cd59 "draw_in_order"=true) (k59:keepIn K (.ref f59)=true)
    (a60:nsIn K mainGlobals "hear_fin"=some (some (.ref f60))) (l60:K.lookup f60=some ⟨oc60,od60,.func (fnOf "hear_fin" "hear_fin" (Zr ZkC) (Zn ZkC) (Zg ZkC) .none kV60 dc60 pm60 an60 cd60 ct60),sl60⟩) (c60:codeIn K cd60 "hear_fin"=true) (k60:keepIn K (.ref f60)=true)
    (a61:nsIn K mainGlobals "send"=some (some (.ref f61))) (l61:K.lookup f61=some ⟨oc61,od61,.func (fnOf "send" "send" (Zr ZkB) (Zn ZkB) (Zg ZkB) .none kV61 dc61 pm61 an61 cd61 ct61),sl61⟩) (c61:codeIn K cd61 "send"=true) (k61:keepIn K (.ref f61)=true)
    (a62:nsIn K mainGlobals "going"=some (some (.ref f62))) (l62:K.lookup f62=some ⟨oc62,od62,.func (fnOf "going" "going" (Zr ZkA) (Zn ZkA) (Zg ZkA) .none kV62 dc62 pm62 an62 cd62 ct62),sl62⟩) (c62:codeIn K cd62 "going"=true) (k62:keepIn K (.ref f62)=true)
    (a63:nsIn K mainGlobals "paid_reset"=some (some (.ref f63))) (l63:K.lookup f63=some ⟨oc63,od63,.func (fnOf "paid_reset" "paid_reset" (Zr Zkz) (Zn Zkz) (Zg Zkz) .none kV63 dc63 pm63 an63 cd63 ct63),sl63⟩) (c63:codeIn K cd63 "paid_reset"=true) (k63:keepIn K (.ref f63)=true)
    (a64:nsIn K mainGlobals "is_due"=some (some (.ref f64))) (l64:K.lookup f64=some ⟨oc64,od64,.func (fnOf "is_due" "is_due" (Zr Zky) (Zn Zky) (Zg Zky) .none kV64 dc64 pm64 an64 cd64 ct64),sl64⟩) (c64:codeIn K cd64 "is_due"=true) (k64:keepIn K (.ref f64)=true)
    (a65:nsIn K mainGlobals "again"=some (some (.ref f65))) (l65:K.lookup f65=some ⟨oc65,od65,.func (fnOf "again" "again" (Zr Zkx) (Zn Zkx) (Zg Zkx) .none kV65 dc65 pm65 an65 cd65 ct65),sl65⟩) (c65:codeIn K cd65 "again"=true) (k65:keepIn K (.ref f65)=true)
    (a66:nsIn K mainGlobals "most_at_once"=some (some (.ref f66))) (l66:K.lookup f66=some ⟨oc66,od66,.func (fnOf "most_at_once" "most_at_once" (Zr Zkw) (Zn Zkw) (Zg Zkw) .none kV66 dc66 pm66 an66 cd66 ct66),sl66⟩) (c66:codeIn K cd66 "most_at_once"=true) (k66:keepIn K (.ref f66)=true)
    (a67:nsIn K mainGlobals "paid_syn"=some (some (.ref f67))) (l67:K.lookup f67=some ⟨oc67,od67,.func (fnOf "paid_syn" "paid_syn" (Zr Zkv) (Zn Zkv) (Zg Zkv) .none kV67 dc67 pm67 an67 cd67 ct67),sl67⟩) (c67:codeIn K cd67 "paid_syn"=true) (k67:keepIn K (.ref f67)=true)
    (a68:nsIn K mainGlobals "segment_of"=some (some (.ref f68))) (l68:K.lookup f68=some ⟨oc68,od68,.func (fnOf "segment_of" "segment_of" (Zr Zku) (Zn Zku) (Zg Zku) .none kV68 dc68 pm68 an68 cd68 ct68),sl68⟩) (c68:codeIn K cd68 "segment_of"=true) (k68:keepIn K (.ref f68)=true)
    (a69:nsIn K mainGlobals "going_as_new"=some (some (.ref f69))) (l69:K.lookup f69=some ⟨oc69,od69,.func (fnOf "going_as_new" "going_as_new" (Zr Zkt) (Zn Zkt) (Zg Zkt) .none kV69 dc69 pm69 an69 cd69 ct69),sl69⟩) (c69:codeIn K cd69 "going_as_new"=true) (k69:keepIn K (.ref f69)=true)
    (a70:nsIn K mainGlobals "new_syn"=some (some (.ref f70))) (l70:K.lookup f70=some ⟨oc70,od70,.func (fnOf "new_syn" "new_syn" (Zr Zks) (Zn Zks) (Zg Zks) .none kV70 dc70 pm70 an70 cd70 ct70),sl70⟩) (c70:codeIn K cd70 "new_syn"=true) (k70:keepIn K (.ref f70)=true)
    (a71:nsIn K mainGlobals "has_more"=some (some (.ref f71))) (l71:K.lookup f71=some ⟨oc71,od71,.func (fnOf "has_more" "has_more" (Zr Zkr) (Zn Zkr) (Zg Zkr) .none kV71 dc71 pm71 an71 cd71 ct71),sl71⟩) (c71:codeIn K cd71 "has_more"=true) (k71:keepIn K (.ref f71)=true)
    (a72:nsIn K mainGlobals "has_new_data"=some (some (.ref f72))) (l72:K.lookup f72=some ⟨oc72,od72,.func (fnOf "has_new_data" "has_new_data" (Zr Zkq) (Zn Zkq) (Zg Zkq) .none kV72 dc72 pm72 an72 cd72 ct72),sl72⟩) (c72:codeIn K cd72 "has_new_data"=true) (k72:keepIn K (.ref f72)=true)
    (a73:nsIn K mainGlobals "unsent"=some (some (.ref f73))) (l73:K.lookup f73=some ⟨oc73,od73,.func (fnOf "unsent" "unsent" (Zr Zkp) (Zn Zkp) (Zg Zkp) .none kV73 dc73 pm73 an73 cd73 ct73),sl73⟩) (c73:codeIn K cd73 "unsent"=true) (k73:keepIn K (.ref f73)=true)
    (a74:nsIn K mainGlobals "has_new_fin"=some (some (.ref f74))) (l74:K.lookup f74=some ⟨oc74,od74,.func (fnOf "has_new_fin" "has_new_fin" (Zr Zko) (Zn Zko) (Zg Zko) .none kV74 dc74 pm74 an74 cd74 ct74),sl74⟩) (c74:codeIn K cd74 "has_new_fin"=true) (k74:keepIn K (.ref f74)=true)
    (a75:nsIn K mainGlobals "new_piece"=some (some (.ref f75))) (l75:K.lookup f75=some ⟨oc75,od75,.func (fnOf "new_piece" "new_piece" (Zr Zkn) (Zn Zkn) (Zg Zkn) .none kV75 dc75 pm75 an75 cd75 ct75),sl75⟩) (c75:codeIn K cd75 "new_piece"=true) (k75:keepIn K (.ref f75)=true)
    (a76:nsIn K mainGlobals "new_data"=some (some (.ref f76))) (l76:K.lookup f76=some ⟨oc76,od76,.func (fnOf "new_data" "new_data" (Zr Zkm) (Zn Zkm) (Zg Zkm) .none kV76 dc76 pm76 an76 cd76 ct76),sl76⟩) (c76:codeIn K cd76 "new_data"=true) (k76:keepIn K (.ref f76)=true)
    (a77:nsIn K mainGlobals "new_fin"=some (some (.ref f77))) (l77:K.lookup f77=some ⟨oc77,od77,.func (fnOf "new_fin" "new_fin" (Zr Zkl) (Zn Zkl) (Zg Zkl) .none kV77 dc77 pm77 an77 cd77 ct77),sl77⟩) (c77:codeIn K cd77 "new_fin"=true) (k77:keepIn K (.ref f77)=true)
    (a78:nsIn K mainGlobals "going_as_probe"=some (some (.ref f78))) (l78:K.lookup f78=some ⟨oc78,od78,.func (fnOf "going_as_probe" "going_as_probe" (Zr Zkk) (Zn Zkk) (Zg Zkk) .none kV78 dc78 pm78 an78 cd78 ct78),sl78⟩) (c78:codeIn K cd78 "going_as_probe"=true) (k78:keepIn K (.ref f78)=true)
    (a79:nsIn K mainGlobals "going_as_answer"=some (some (.ref f79))) (l79:K.lookup f79=some ⟨oc79,od79,.func (fnOf "going_as_answer" "going_as_answer" (Zr Zkj) (Zn Zkj) (Zg Zkj) .none kV79 dc79 pm79 an79 cd79 ct79),sl79⟩) (c79:codeIn K cd79 "going_as_answer"=true) (k79:keepIn K (.ref f79)=true)
    (a80:nsIn K mainGlobals "_law_cell"=some (some (.ref f80))) (l80:K.lookup f80=some ⟨oc80,od80,.func (fnOf "_law_cell" "_law_cell" (Zr Zki) (Zn Zki) (Zg Zki) .none kV80 dc80 pm80 an80 cd80 ct80),sl80⟩) (c80:codeIn K cd80 "_law_cell"=true) (k80:keepIn K (.ref f80)=true)
    (a81:nsIn K mainGlobals "_law_mix"=some (some (.ref f81))) (l81:K.lookup f81=some ⟨oc81,od81,.func (fnOf "_law_mix" "_law_mix" (Zr Zkh) (Zn Zkh) (Zg Zkh) .none kV81 dc81 pm81 an81 cd81 ct81),sl81⟩) (c81:codeIn K cd81 "_law_mix"=true) (k81:keepIn K (.ref f81)=true)
    (a82:nsIn K mainGlobals "_law_two"=some (some (.ref f82))) (l82:K.lookup f82=some ⟨oc82,od82,.func (fnOf "_law_two" "_law_two" (Zr Zkg) (Zn Zkg) (Zg Zkg) .none kV82 dc82 pm82 an82 cd82 ct82),sl82⟩) (c82:codeIn K cd82 "_law_two"=true) (k82:keepIn K (.ref f82)=true)
    (a83:nsIn K mainGlobals "_law_folded"=some (some (.ref f83))) (l83:K.lookup f83=some ⟨oc83,od83,.func (fnOf "_law_folded" "_law_folded" (Zr Zkf) (Zn Zkf) (Zg Zkf) .none kV83 dc83 pm83 an83 cd83 ct83),sl83⟩) (c83:codeIn K cd83 "_law_folded"=true) (k83:keepIn K (.ref f83)=true)
    (a84:nsIn K mainGlobals "_law_bytes"=some (some (.ref f84))) (l84:K.lookup f84=some ⟨oc84,od84,.func (fnOf "_law_bytes" "_law_bytes" (Zr Zke) (Zn Zke) (Zg Zke) .none kV84 dc84 pm84 an84 cd84 ct84),sl84⟩) (c84:codeIn K cd84 "_law_bytes"=true) (k84:keepIn K (.ref f84)=true)
    (a85:nsIn K mainGlobals "_law_read"=some (some (.ref f85))) (l85:K.lookup f85=some ⟨oc85,od85,.func (fnOf "_law_read" "_law_read" (Zr ZiA) (Zn ZiA) (Zg ZiA) .none kV85 dc85 pm85 an85 cd85 ct85),sl85⟩) (c85:codeIn K cd85 "_law_read"=true) (k85:keepIn K (.ref f85)=true)
    (a86:nsIn K mainGlobals "_law_byte"=some (some (.ref f86))) (l86:K.lookup f86=some ⟨oc86,od86,.func (fnOf "_law_byte" "_law_byte" (Zr Zkd) (Zn Zkd) (Zg Zkd) .none kV86 dc86 pm86 an86 cd86 ct86),sl86⟩) (c86:codeIn K cd86 "_law_byte"=true) (k86:keepIn K (.ref f86)=true)
    (a87:nsIn K mainGlobals "_law_plus"=some (some (.ref f87))) (l87:K.lookup f87=some ⟨oc87,od87,.func (fnOf "_law_plus" "_law_plus" (Zr Zkc) (Zn Zkc) (Zg Zkc) .none kV87 dc87 pm87 an87 cd87 ct87),sl87⟩) (c87:codeIn K cd87 "_law_plus"=true) (k87:keepIn K (.ref f87)=true)
    (a88:nsIn K mainGlobals "_law_first"=some (some (.ref f88))) (l88:K.lookup f88=some ⟨oc88,od88,.func (fnOf "_law_first" "_law_first" (Zr Zkb) (Zn Zkb) (Zg Zkb) .none kV88 dc88 pm88 an88 cd88 ct88),sl88⟩) (c88:codeIn K cd88 "_law_first"=true) (k88:keepIn K (.ref f88)=true)
    (a89:nsIn K mainGlobals "_law_segment"=some (some (.ref f89))) (l89:K.lookup f89=some ⟨oc89,od89,.func (fnOf "_law_segment" "_law_segment" (Zr Zka) (Zn Zka) (Zg Zka) .none kV89 dc89 pm89 an89 cd89 ct89),sl89⟩) (c89:codeIn K cd89 "_law_segment"=true) (k89:keepIn K (.ref f89)=true)
    (a90:nsIn K mainGlobals "_law_given"=some (some (.ref f90))) (l90:K.lookup f90=some ⟨oc90,od90,.func (fnOf "_law_given" "_law_given" (Zr Zj9) (Zn Zj9) (Zg Zj9) .none kV90 dc90 pm90 an90 cd90 ct90),sl90⟩) (c90:codeIn K cd90 "_law_given"=true) (k90:keepIn K (.ref f90)=true)
    (a91:nsIn K mainGlobals "_law_opened"=some (some (.ref f91))) (l91:K.lookup f91=some ⟨oc91,od91,.func (fnOf "_law_opened" "_law_opened" (Zr Zj8) (Zn Zj8) (Zg Zj8) .none kV91 dc91 pm91 an91 cd91 ct91),sl91⟩) (c91:codeIn K cd91 "_law_opened"=true) (k91:keepIn K (.ref f91)=true)
    (a92:nsIn K mainGlobals "_law_close"=some (some (.ref f92))) (l92:K.lookup f92=some ⟨oc92,od92,.func (fnOf "_law_close" "_law_close" (Zr Zj7) (Zn Zj7) (Zg Zj7) .none kV92 dc92 pm92 an92 cd92 ct92),sl92⟩) (c92:codeIn K cd92 "_law_close"=true) (k92:keepIn K (.ref f92)=true)
    (a93:nsIn K mainGlobals "_law_same"=some (some (.ref f93))) (l93:K.lookup f93=some ⟨oc93,od93,.func (fnOf "_law_same" "_law_same" (Zr Zj6) (Zn Zj6) (Zg Zj6) .none kV93 dc93 pm93 an93 cd93 ct93),sl93⟩) (c93:codeIn K cd93 "_law_same"=true) (k93:keepIn K (.ref f93)=true)
    (a94:nsIn K mainGlobals "_law_fin_comes"=some (some (.ref f94))) (l94:K.lookup f94=some ⟨oc94,od94,.func (fnOf "_law_fin_comes" "_law_fin_comes" (Zr Zj5) (Zn Zj5) (Zg Zj5) .none kV94 dc94 pm94 an94 cd94 ct94),sl94⟩) (c94:codeIn K cd94 "_law_fin_comes"=true) (k94:keepIn K (.ref f94)=true)
    (a95:nsIn K mainGlobals "_law_heard"=some (some (.ref f95))) (l95:K.lookup f95=some ⟨oc95,od95,.func (fnOf "_law_heard" "_law_heard" (Zr Zj4) (Zn Zj4) (Zg Zj4) .none kV95 dc95 pm95 an95 cd95 ct95),sl95⟩) (c95:codeIn K cd95 "_law_heard"=true) (k95:keepIn K (.ref f95)=true)
    (a96:nsIn K mainGlobals "_law_flags"=some (some (.ref f96))) (l96:K.lookup f96=some ⟨oc96,od96,.func (fnOf "_law_flags" "_law_flags" (Zr Zjt) (Zn Zjt) (Zg Zjt) .none kV96 dc96 pm96 an96 cd96 ct96),sl96⟩) (c96:codeIn K cd96 "_law_flags"=true) (k96:keepIn K (.ref f96)=true)
    (a97:nsIn K mainGlobals "law"=some (some (.ref f97))) (l97:K.lookup f97=some ⟨oc97,od97,.func (fnOf "law" "law" (Zr Zgv) (Zn Zgv) (Zg Zgv) .none kV97 dc97 pm97 an97 cd97 ct97),sl97⟩) (c97:codeIn K cd97 "law"=true) (k97:keepIn K (.ref f97)=true)
    (pg_End:plainGet K C_End Str.empty=true) (hd_End:hasDictIn K C_End=true) (po_End:plainOver K C_End=true) (sa_End:findIn K (.ref C_End) "__setattr__"=some (some (.builtin "object.__setattr__"))) (mk_End:makesIn K C_End=true) (kc_End:keepIn K (.ref C_End)=true)
    (pg_Pile:plainGet K C_Pile Str.empty=true) (hd_Pile:hasDictIn K C_Pile=true) (po_Pile:plainOver K C_Pile=true) (sa_Pile:findIn K (.ref C_Pile) "__setattr__"=some (some (.builtin "object.__setattr__"))) (mk_Pile:makesIn K C_Pile=true) (kc_Pile:keepIn K (.ref C_Pile)=true)
    (zA0:findIn K (.ref C_End) "behind"=some none)
    (zA1:findIn K (.ref C_End) "come"=some none)
    (zA2:findIn K (.ref C_End) "early"=some none)
    (zA3:findIn K (.ref C_End) "early_fin"=some none)
    (zA4:findIn K (.ref C_End) "error"=some none)
    (zA5:findIn K (.ref C_End) "first"=some none)
    (zA6:findIn K (.ref C_End) "has_closed"=some none)
    (zA7:findIn K (.ref C_End) "most"=some none)
    (zA8:findIn K (.ref C_End) "nxt"=some none)
    (zA9:findIn K (.ref C_End) "ours"=some none)
    (zA10:findIn K (.ref C_End) "owed_reset"=some none)
    (zA11:findIn K (.ref C_End) "owes_answer"=some none)
    (zA12:findIn K (.ref C_End) "owes_syn"=some none)
    (zA13:findIn K (.ref C_End) "probes"=some none)
    (zA14:findIn K (.ref C_End) "rcv"=some none)
    (zA15:findIn K (.ref C_End) "since"=some none)
    (zA16:findIn K (.ref C_End) "state"=some none)
    (zA17:findIn K (.ref C_End) "theirs"=some none)
    (zA18:findIn K (.ref C_End) "told"=some none)
    (zA19:findIn K (.ref C_End) "told_by"=some none)
    (zA20:findIn K (.ref C_End) "tries"=some none)
    (zA21:findIn K (.ref C_End) "una"=some none)
    (zA22:findIn K (.ref C_End) "wait"=some none)
    (zA23:findIn K (.ref C_End) "wnd"=some none)
    (zA24:findIn K (.ref C_End) "written"=some none)
    (zA25:findIn K (.ref C_Pile) "row"=some none)
    (zg0:nsIn K mainGlobals "ACK"=some (some (.int 16 zt0)))
    (zg1:nsIn K mainGlobals "ANSWER"=some (some (.int 3 zt1)))
    (zg2:nsIn K mainGlobals "CLOSED"=some (some (.str "closed" zt2)))
    (zg3:nsIn K mainGlobals "CLOSE_WAIT"=some (some (.str "close wait" zt3)))
    (zg4:nsIn K mainGlobals "CLOSING"=some (some (.str "closing" zt4)))
    (zg5:nsIn K mainGlobals "DATA"=some (some (.int 7 zt5)))
    (zg6:nsIn K mainGlobals "FIN"=some (some (.int 1 zt6)))
    (zg7:nsIn K mainGlobals "FIRST_WAIT"=some (some (.int 1000 zt7)))
    (zg8:nsIn K mainGlobals "FLAGS"=some (some (.int 4 zt8)))
    (zg9:nsIn K mainGlobals "GOAL"=some (some (.int 1 zt9)))
    (zg10:nsIn K mainGlobals "GREATEST_DATA"=some (some (.int 16 zt10)))
    (zg11:nsIn K mainGlobals "GREATEST_FLAGS"=some (some (.int 31 zt11)))
    (zg12:nsIn K mainGlobals "GREATEST_WORD"=some (some (.int 65535 zt12)))
    (zg13:nsIn K mainGlobals "HALF_ROUND"=some (some (.int 2147483648 zt13)))
    (zg14:nsIn K mainGlobals "LAST_ACK"=some (some (.str "last ack" zt14)))
    (zg15:nsIn K mainGlobals "LAST_WAIT"=some (some (.int 120000 zt15)))
    (zg16:nsIn K mainGlobals "LEAST_MOST"=some (some (.int 4 zt16)))
    (zg17:nsIn K mainGlobals "LISTEN"=some (some (.str "listen" zt17)))
    (zg18:nsIn K mainGlobals "LONGEST_WAIT"=some (some (.int 16000 zt18)))
    (zg19:nsIn K mainGlobals "LONG_HEAD"=some (some (.int 24 zt19)))
    (zg20:nsIn K mainGlobals "MOST"=some (some (.int 6 zt20)))
    (zg21:nsIn K mainGlobals "MOST_TRIES"=some (some (.int 6 zt21)))
    (zg22:nsIn K mainGlobals "MOST_UNTOLD"=some (some (.int 12 zt22)))
    (zg23:nsIn K mainGlobals "NO_ERROR"=some (some (.str "" zt23)))
    (zg24:nsIn K mainGlobals "NUMBER"=some (some (.int 2 zt24)))
    (zg25:nsIn K mainGlobals "OPEN"=some (some (.str "open" zt25)))
    (zg26:nsIn K mainGlobals "PSH"=some (some (.int 8 zt26)))
    (zg27:nsIn K mainGlobals "REFUSED"=some (some (.str "refused" zt27)))
    (zg28:nsIn K mainGlobals "RESET"=some (some (.str "reset" zt28)))
    (zg29:nsIn K mainGlobals "RIGHT_SUM"=some (some (.int 65535 zt29)))
    (zg30:nsIn K mainGlobals "ROOM"=some (some (.int 64 zt30)))
    (zg31:nsIn K mainGlobals "ROUND"=some (some (.int 4294967296 zt31)))
    (zg32:nsIn K mainGlobals "RST"=some (some (.int 4 zt32)))
    (zg33:nsIn K mainGlobals "SHORT_HEAD"=some (some (.int 20 zt33)))
    (zg34:nsIn K mainGlobals "SOURCE"=some (some (.int 0 zt34)))
    (zg35:nsIn K mainGlobals "SYN"=some (some (.int 2 zt35)))
    (zg36:nsIn K mainGlobals "SYN_COME"=some (some (.str "syn come" zt36)))
    (zg37:nsIn K mainGlobals "SYN_SENT"=some (some (.str "syn sent" zt37)))
    (zg38:nsIn K mainGlobals "TIME"=some (some (.str "time" zt38)))
    (zg39:nsIn K mainGlobals "TIME_WAIT"=some (some (.str "time wait" zt39)))
    (zg40:nsIn K mainGlobals "WAIT_ONE"=some (some (.str "wait one" zt40)))
    (zg41:nsIn K mainGlobals "WAIT_TWO"=some (some (.str "wait two" zt41)))
    (zg42:nsIn K mainGlobals "WINDOW"=some (some (.int 5 zt42)))
    (zg43:nsIn K mainGlobals "WORDS"=some (some (.int 65536 zt43)))
    (z_all:nsIn K mainGlobals "all"=some none)
    (z_bool:nsIn K mainGlobals "bool"=some none)
    (z_enumerate:nsIn K mainGlobals "enumerate"=some none)
    (z_int:nsIn K mainGlobals "int"=some none)
    (z_isinstance:nsIn K mainGlobals "isinstance"=some none)
    (z_len:nsIn K mainGlobals "len"=some none)
    (z_list:nsIn K mainGlobals "list"=some none)
    (z_max:nsIn K mainGlobals "max"=some none)
    (z_min:nsIn K mainGlobals "min"=some none)
    (z_range:nsIn K mainGlobals "range"=some none)
    (z_sum:nsIn K mainGlobals "sum"=some none)
    (z_tuple:nsIn K mainGlobals "tuple"=some none) :
    ∃fd:FuncData,(∀(s:Shared) (v:Value),BindsTo s fd ⟨[v],[]⟩ [("_law_script",v)])∧∀base:Heap,K.In base→base.Ns mainGlobals mg→FnOk l.prog w K mg base CX0 11 fa fd ["_law_script"] (Znf K):=by
  have e:=hfa.symm.trans (mg_of X G a97)
  cases e
  have eC_End:C_End=z9 mg "End":=(ZnS (mg_of X G aC_End)).symm
  have eC_Pile:C_Pile=z9 mg "Pile":=(ZnS (mg_of X G aC_Pile)).symm
  subst eC_End
  subst eC_Pile
  have g:Glb K mg:=⟨⟨_,mg_of X G zg0⟩,⟨_,mg_of X G zg1⟩,⟨_,mg_of X G zg2⟩,⟨_,mg_of X G zg3⟩,⟨_,mg_of X G zg4⟩,⟨_,mg_of X G zg5⟩,⟨_,mg_of X G zg6⟩,⟨_,mg_of X G zg7⟩,⟨_,mg_of X G zg8⟩,⟨_,mg_of X G zg9⟩,⟨_,mg_of X G zg10⟩,⟨_,mg_of X G zg11⟩,⟨_,mg_of X G zg12⟩,⟨_,mg_of X G zg13⟩,⟨_,mg_of X G zg14⟩,⟨_,mg_of X G zg15⟩,⟨_,mg_of X G zg16⟩,⟨_,mg_of X G zg17⟩,⟨_,mg_of X G zg18⟩,⟨_,mg_of X G zg19⟩,⟨_,mg_of X G zg20⟩,⟨_,mg_of X G zg21⟩,⟨_,mg_of X G zg22⟩,⟨_,mg_of X G zg23⟩,⟨_,mg_of X G zg24⟩,⟨_,mg_of X G zg25⟩,⟨_,mg_of X G zg26⟩,⟨_,mg_of X G zg27⟩,⟨_,mg_of X G zg28⟩,⟨_,mg_of X G zg29⟩,⟨_,mg_of X G zg30⟩,⟨_,mg_of X G zg31⟩,⟨_,mg_of X G zg32⟩,⟨_,mg_of X G zg33⟩,⟨_,mg_of X G zg34⟩,⟨_,mg_of X G zg35⟩,⟨_,mg_of X G zg36⟩,⟨_,mg_of X G zg37⟩,⟨_,mg_of X G zg38⟩,⟨_,mg_of X G zg39⟩,⟨_,mg_of X G zg40⟩,⟨_,mg_of X G zg41⟩,⟨_,mg_of X G zg42⟩,⟨_,mg_of X G zg43⟩,mg_none_of X G z_all,mg_none_of X G z_bool,mg_none_of X G z_enumerate,mg_none_of X G z_int,mg_none_of X G z_isinstance,mg_none_of X G z_len,mg_none_of X G z_list,mg_none_of X G z_max,mg_none_of X G z_min,mg_none_of X G z_range,mg_none_of X G z_sum,mg_none_of X G z_tuple,⟨pg_End,hd_End,po_End,sa_End⟩,⟨pg_Pile,hd_Pile,po_Pile,sa_Pile⟩,zA0,zA1,zA2,zA3,zA4,zA5,zA6,zA7,zA8,zA9,zA10,zA11,zA12,zA13,zA14,zA15,zA16,zA17,zA18,zA19,zA20,zA21,zA22,zA23,zA24,zA25⟩
  have F0:=Zy (st:=zs0) l0 c0 k0
  have b0:=F0.binds (ps:=zP0) fun _ _ _ _ _ _=>us1 fun _=>rfl
  have D0:Mk0 K mg "Pile" "Pile.__init__" zs0 zP0:=⟨_,_,F0,b0,⟨mk_Pile,a0,i0,kc_Pile⟩,mg_of X G aC_Pile⟩
  have F1:=Zy (st:=zs1) l1 c1 k1
  have b1:=F1.binds (ps:=zP1) fun _ _ _ _ _ _=>us1 fun _=>rfl
  have D1:Zl K mg "room" zs1 zP1:=⟨_,_,F1,b1,mg_of X G a1⟩
  have F2:=Zy (st:=zs2) l2 c2 k2
  have b2:=F2.binds (ps:=zP2) fun _ _ _ _ _ _=>us2 fun _ _=>rfl
  have D2:Zl K mg "lay" zs2 zP2:=⟨_,_,F2,b2,mg_of X G a2⟩
  have F3:=Zy (st:=zs3) l3 c3 k3
  have b3:=F3.binds (ps:=zP3) fun _ _ _ _ _ _=>us2 fun _ _=>rfl
  have D3:Zl K mg "take" zs3 zP3:=⟨_,_,F3,b3,mg_of X G a3⟩
  have F4:=Zy (st:=zs4) l4 c4 k4
  have b4:=F4.binds (ps:=zP4) fun _ _ _ _ _ _=>us2 fun _ _=>rfl
  have D4:Zl K mg "plus" zs4 zP4:=⟨_,_,F4,b4,mg_of X G a4⟩
  have F5:=Zy (st:=zs5) l5 c5 k5
  have b5:=F5.binds (ps:=zP5) fun _ _ _ _ _ _=>us2 fun _ _=>rfl
  have D5:Zl K mg "offset" zs5 zP5:=⟨_,_,F5,b5,mg_of X G a5⟩
  have F6:=Zy (st:=zs6) l6 c6 k6
  have b6:=F6.binds (ps:=zP6) fun _ _ _ _ _ _=>us2 fun _ _=>rfl
  have D6:Zl K mg "past" zs6 zP6:=⟨_,_,F6,b6,mg_of X G a6⟩
  have F7:=Zy (st:=zs7) l7 c7 k7
  have b7:=F7.binds (ps:=zP7) fun _ _ _ _ _ _=>us5 fun _ _ _ _ _=>rfl
  have D7:Mk0 K mg "End" "End.__init__" zs7 zP7:=⟨_,_,F7,b7,⟨mk_End,a7,i7,kc_End⟩,mg_of X G aC_End⟩
  have F8:=Zy (st:=zs8) l8 c8 k8
  have b8:=F8.binds (ps:=zP8) fun _ _ _ _ _ _=>us2 fun _ _=>rfl
  have D8:Zl K mg "start_timer" zs8 zP8:=⟨_,_,F8,b8,mg_of X G a8⟩
  have F9:=Zy (st:=zs9) l9 c9 k9
  have b9:=F9.binds (ps:=zP9) fun _ _ _ _ _ _=>us1 fun _=>rfl
  have D9:Zl K mg "state" zs9 zP9:=⟨_,_,F9,b9,mg_of X G a9⟩
  have F10:=Zy (st:=Zlq) l10 c10 k10
  have b10:=F10.binds (ps:=Zqd) fun _ _ _ _ _ _=>us1 fun _=>rfl
  have D10:Zl K mg "error" Zlq Zqd:=⟨_,_,F10,b10,mg_of X G a10⟩
  have F11:=Zy (st:=Zlp) l11 c11 k11
  have b11:=F11.binds (ps:=Zqc) fun _ _ _ _ _ _=>us1 fun _=>rfl
  have D11:Zl K mg "our_window" Zlp Zqc:=⟨_,_,F11,b11,mg_of X G a11⟩
  have F12:=Zy (st:=Zlo) l12 c12 k12
  have b12:=F12.binds (ps:=Zqb) fun _ _ _ _ _ _=>us1 fun _=>rfl
  have D12:Zl K mg "has_sent_fin" Zlo Zqb:=⟨_,_,F12,b12,mg_of X G a12⟩
  have F13:=Zy (st:=Zln) l13 c13 k13
  have b13:=F13.binds (ps:=Zqa) fun _ _ _ _ _ _=>us1 fun _=>rfl
  have D13:Zl K mg "folded" Zln Zqa:=⟨_,_,F13,b13,mg_of X G a13⟩
  have F14:=Zy (st:=Zlm) l14 c14 k14
  have b14:=F14.binds (ps:=Zp9) fun _ _ _ _ _ _=>us1 fun _=>rfl
  have D14:Zl K mg "sum_of" Zlm Zp9:=⟨_,_,F14,b14,mg_of X G a14⟩
  have F15:=Zy (st:=Zll) l15 c15 k15
  have b15:=F15.binds (ps:=Zp8) fun _ _ _ _ _ _=>us1 fun _=>rfl
  have D15:Zl K mg "length" Zll Zp8:=⟨_,_,F15,b15,mg_of X G a15⟩
  have F16:=Zy (st:=Zlk) l16 c16 k16
  have b16:=F16.binds (ps:=Zp7) fun _ _ _ _ _ _=>us2 fun _ _=>rfl
  have D16:Zl K mg "has" Zlk Zp7:=⟨_,_,F16,b16,mg_of X G a16⟩
  have F17:=Zy (st:=Zlj) l17 c17 k17
  have b17:=F17.binds (ps:=Zp6) fun _ _ _ _ _ _=>us2 fun _ _=>rfl
  have D17:Zl K mg "bears" Zlj Zp6:=⟨_,_,F17,b17,mg_of X G a17⟩
  have F18:=Zy (st:=Zli) l18 c18 k18
  have b18:=F18.binds (ps:=Zp5) fun _ _ _ _ _ _=>us1 fun _=>rfl
  have D18:Zl K mg "put" Zli Zp5:=⟨_,_,F18,b18,mg_of X G a18⟩
  have F19:=Zy (st:=Zlh) l19 c19 k19
  have b19:=F19.binds (ps:=Zp4) fun _ _ _ _ _ _=>us1 fun _=>rfl
  have D19:Zl K mg "bytes_ahead_of_sum" Zlh Zp4:=⟨_,_,F19,b19,mg_of X G a19⟩
  have F20:=Zy (st:=Zlg) l20 c20 k20
  have b20:=F20.binds (ps:=Zp3) fun _ _ _ _ _ _=>us1 fun _=>rfl
  have D20:Zl K mg "byte_of_head" Zlg Zp3:=⟨_,_,F20,b20,mg_of X G a20⟩
  have F21:=Zy (st:=Zlf) l21 c21 k21
  have b21:=F21.binds (ps:=Zp2) fun _ _ _ _ _ _=>us1 fun _=>rfl
  have D21:Zl K mg "bytes_of_most" Zlf Zp2:=⟨_,_,F21,b21,mg_of X G a21⟩
  have F22:=Zy (st:=Zle) l22 c22 k22
  have b22:=F22.binds (ps:=Zp1) fun _ _ _ _ _ _=>us1 fun _=>rfl
  have D22:Zl K mg "two_bytes" Zle Zp1:=⟨_,_,F22,b22,mg_of X G a22⟩
  have F23:=Zy (st:=Zld) l23 c23 k23
  have b23:=F23.binds (ps:=Zp0) fun _ _ _ _ _ _=>us1 fun _=>rfl
  have D23:Zl K mg "four_bytes" Zld Zp0:=⟨_,_,F23,b23,mg_of X G a23⟩
  have F24:=Zy (st:=Zlc) l24 c24 k24
  have b24:=F24.binds (ps:=ZpZ) fun _ _ _ _ _ _=>us1 fun _=>rfl
  have D24:Zl K mg "is_right" Zlc ZpZ:=⟨_,_,F24,b24,mg_of X G a24⟩
  have F25:=Zy (st:=Zlb) l25 c25 k25
  have b25:=F25.binds (ps:=ZpY) fun _ _ _ _ _ _=>us1 fun _=>rfl
  have D25:Zl K mg "head_of" Zlb ZpY:=⟨_,_,F25,b25,mg_of X G a25⟩
  have F26:=Zy (st:=Zla) l26 c26 k26
  have b26:=F26.binds (ps:=ZpX) fun _ _ _ _ _ _=>us1 fun _=>rfl
  have D26:Zl K mg "is_right_long_head" Zla ZpX:=⟨_,_,F26,b26,mg_of X G a26⟩
  have F27:=Zy (st:=Zk9) l27 c27 k27
  have b27:=F27.binds (ps:=ZpW) fun _ _ _ _ _ _=>us1 fun _=>rfl
  have D27:Zl K mg "get" Zk9 ZpW:=⟨_,_,F27,b27,mg_of X G a27⟩
  have F28:=Zy (st:=Zk8) l28 c28 k28
  have b28:=F28.binds (ps:=ZpV) fun _ _ _ _ _ _=>us2 fun _ _=>rfl
  have D28:Zl K mg "two_at" Zk8 ZpV:=⟨_,_,F28,b28,mg_of X G a28⟩
  have F29:=Zy (st:=Zk7) l29 c29 k29
  have b29:=F29.binds (ps:=ZpU) fun _ _ _ _ _ _=>us2 fun _ _=>rfl
  have D29:Zl K mg "four_at" Zk7 ZpU:=⟨_,_,F29,b29,mg_of X G a29⟩
  have F30:=Zy (st:=Zk6) l30 c30 k30
  have b30:=F30.binds (ps:=ZpT) fun _ _ _ _ _ _=>us4 fun _ _ _ _=>rfl
  have D30:Zl K mg "opened" Zk6 ZpT:=⟨_,_,F30,b30,mg_of X G a30⟩
  have F31:=Zy (st:=Zk5) l31 c31 k31
  have b31:=F31.binds (ps:=ZpS) fun _ _ _ _ _ _=>us2 fun _ _=>rfl
  have D31:Zl K mg "write" Zk5 ZpS:=⟨_,_,F31,b31,mg_of X G a31⟩
  have F32:=Zy (st:=Zk4) l32 c32 k32
  have b32:=F32.binds (ps:=ZpR) fun _ _ _ _ _ _=>us2 fun _ _=>rfl
  have D32:Zl K mg "read" Zk4 ZpR:=⟨_,_,F32,b32,mg_of X G a32⟩
  have F33:=Zy (st:=Zk3) l33 c33 k33
  have b33:=F33.binds (ps:=ZpQ) fun _ _ _ _ _ _=>us1 fun _=>rfl
  have D33:Zl K mg "close" Zk3 ZpQ:=⟨_,_,F33,b33,mg_of X G a33⟩
  have F34:=Zy (st:=Zk2) l34 c34 k34
  have b34:=F34.binds (ps:=ZpP) fun _ _ _ _ _ _=>us1 fun _=>rfl
  have D34:Zl K mg "reset_for" Zk2 ZpP:=⟨_,_,F34,b34,mg_of X G a34⟩
  have F35:=Zy (st:=Zk1) l35 c35 k35
  have b35:=F35.binds (ps:=ZpO) fun _ _ _ _ _ _=>us2 fun _ _=>rfl
  have D35:Zl K mg "owe_reset_for" Zk1 ZpO:=⟨_,_,F35,b35,mg_of X G a35⟩
  have F36:=Zy (st:=Zk0) l36 c36 k36
  have b36:=F36.binds (ps:=ZpN) fun _ _ _ _ _ _=>us2 fun _ _=>rfl
  have D36:Zl K mg "come_to_closed" Zk0 ZpN:=⟨_,_,F36,b36,mg_of X G a36⟩
  have F37:=Zy (st:=ZkZ) l37 c37 k37
  have b37:=F37.binds (ps:=ZpM) fun _ _ _ _ _ _=>us2 fun _ _=>rfl
  have D37:Zl K mg "come_to_listen" ZkZ ZpM:=⟨_,_,F37,b37,mg_of X G a37⟩
  have F38:=Zy (st:=ZkY) l38 c38 k38
  have b38:=F38.binds (ps:=ZpL) fun _ _ _ _ _ _=>us2 fun _ _=>rfl
  have D38:Zl K mg "hear_syn" ZkY ZpL:=⟨_,_,F38,b38,mg_of X G a38⟩
  have F39:=Zy (st:=ZkX) l39 c39 k39
  have b39:=F39.binds (ps:=ZpK) fun _ _ _ _ _ _=>us3 fun _ _ _=>rfl
  have D39:Zl K mg "come_to_syn_sent" ZkX ZpK:=⟨_,_,F39,b39,mg_of X G a39⟩
  have F40:=Zy (st:=ZkW) l40 c40 k40
  have b40:=F40.binds (ps:=ZpJ) fun _ _ _ _ _ _=>us2 fun _ _=>rfl
  have D40:Zl K mg "answers_syn" ZkW ZpJ:=⟨_,_,F40,b40,mg_of X G a40⟩
  have F41:=Zy (st:=ZkV) l41 c41 k41
  have b41:=F41.binds (ps:=ZpI) fun _ _ _ _ _ _=>us2 fun _ _=>rfl
  have D41:Zl K mg "refuse" ZkV ZpI:=⟨_,_,F41,b41,mg_of X G a41⟩
  have F42:=Zy (st:=ZkU) l42 c42 k42
  have b42:=F42.binds (ps:=ZpH) fun _ _ _ _ _ _=>us3 fun _ _ _=>rfl
  have D42:Zl K mg "go_on_from_syn_sent" ZkU ZpH:=⟨_,_,F42,b42,mg_of X G a42⟩
  have F43:=Zy (st:=ZkT) l43 c43 k43
  have b43:=F43.binds (ps:=ZpG) fun _ _ _ _ _ _=>us3 fun _ _ _=>rfl
  have D43:Zl K mg "arrive" ZkT ZpG:=⟨_,_,F43,b43,mg_of X G a43⟩
  have F44:=Zy (st:=ZkS) l44 c44 k44
  have b44:=F44.binds (ps:=ZpF) fun _ _ _ _ _ _=>us2 fun _ _=>rfl
  have D44:Zl K mg "is_for" ZkS ZpF:=⟨_,_,F44,b44,mg_of X G a44⟩
  have F45:=Zy (st:=ZkR) l45 c45 k45
  have b45:=F45.binds (ps:=ZpE) fun _ _ _ _ _ _=>us3 fun _ _ _=>rfl
  have D45:Zl K mg "come_to_stream" ZkR ZpE:=⟨_,_,F45,b45,mg_of X G a45⟩
  have F46:=Zy (st:=ZkQ) l46 c46 k46
  have b46:=F46.binds (ps:=ZpD) fun _ _ _ _ _ _=>us2 fun _ _=>rfl
  have D46:Zl K mg "fits" ZkQ ZpD:=⟨_,_,F46,b46,mg_of X G a46⟩
  have F47:=Zy (st:=ZkP) l47 c47 k47
  have b47:=F47.binds (ps:=ZpC) fun _ _ _ _ _ _=>us2 fun _ _=>rfl
  have D47:Zl K mg "is_in_window" ZkP ZpC:=⟨_,_,F47,b47,mg_of X G a47⟩
  have F48:=Zy (st:=ZkO) l48 c48 k48
  have b48:=F48.binds (ps:=ZpB) fun _ _ _ _ _ _=>us3 fun _ _ _=>rfl
  have D48:Zl K mg "turn_away" ZkO ZpB:=⟨_,_,F48,b48,mg_of X G a48⟩
  have F49:=Zy (st:=ZkN) l49 c49 k49
  have b49:=F49.binds (ps:=ZpA) fun _ _ _ _ _ _=>us2 fun _ _=>rfl
  have D49:Zl K mg "hear_reset" ZkN ZpA:=⟨_,_,F49,b49,mg_of X G a49⟩
  have F50:=Zy (st:=ZkM) l50 c50 k50
  have b50:=F50.binds (ps:=Zpz) fun _ _ _ _ _ _=>us3 fun _ _ _=>rfl
  have D50:Zl K mg "goes_on_behind_answer" ZkM Zpz:=⟨_,_,F50,b50,mg_of X G a50⟩
  have F51:=Zy (st:=ZkL) l51 c51 k51
  have b51:=F51.binds (ps:=Zpy) fun _ _ _ _ _ _=>us2 fun _ _=>rfl
  have D51:Zl K mg "has_answered_syn" ZkL Zpy:=⟨_,_,F51,b51,mg_of X G a51⟩
  have F52:=Zy (st:=ZkK) l52 c52 k52
  have b52:=F52.binds (ps:=Zpx) fun _ _ _ _ _ _=>us2 fun _ _=>rfl
  have D52:Zl K mg "take_window" ZkK Zpx:=⟨_,_,F52,b52,mg_of X G a52⟩
  have F53:=Zy (st:=ZkJ) l53 c53 k53
  have b53:=F53.binds (ps:=Zpw) fun _ _ _ _ _ _=>us3 fun _ _ _=>rfl
  have D53:Zl K mg "hear_answer" ZkJ Zpw:=⟨_,_,F53,b53,mg_of X G a53⟩
  have F54:=Zy (st:=ZkI) l54 c54 k54
  have b54:=F54.binds (ps:=Zpv) fun _ _ _ _ _ _=>us2 fun _ _=>rfl
  have D54:Zl K mg "is_newer" ZkI Zpv:=⟨_,_,F54,b54,mg_of X G a54⟩
  have F55:=Zy (st:=ZkH) l55 c55 k55
  have b55:=F55.binds (ps:=Zpu) fun _ _ _ _ _ _=>us2 fun _ _=>rfl
  have D55:Zl K mg "end_what_is_acknowledged" ZkH Zpu:=⟨_,_,F55,b55,mg_of X G a55⟩
  have F56:=Zy (st:=ZkG) l56 c56 k56
  have b56:=F56.binds (ps:=Zpt) fun _ _ _ _ _ _=>us3 fun _ _ _=>rfl
  have D56:Zl K mg "hear_stream" ZkG Zpt:=⟨_,_,F56,b56,mg_of X G a56⟩
  have F57:=Zy (st:=ZkF) l57 c57 k57
  have b57:=F57.binds (ps:=Zps) fun _ _ _ _ _ _=>us2 fun _ _=>rfl
  have D57:Zl K mg "keep_data" ZkF Zps:=⟨_,_,F57,b57,mg_of X G a57⟩
  have F58:=Zy (st:=ZkE) l58 c58 k58
  have b58:=F58.binds (ps:=Zpr) fun _ _ _ _ _ _=>us2 fun _ _=>rfl
  have D58:Zl K mg "keep_fin" ZkE Zpr:=⟨_,_,F58,b58,mg_of X G a58⟩
  have F59:=Zy (st:=ZkD) l59 c59 k59
  have b59:=F59.binds (ps:=Zpq) fun _ _ _ _ _ _=>us1 fun _=>rfl
  have D59:Zl K mg "draw_in_order" ZkD Zpq:=⟨_,_,F59,b59,mg_of X G a59⟩
  have F60:=Zy (st:=ZkC) l60 c60 k60
  have b60:=F60.binds (ps:=Zpp) fun _ _ _ _ _ _=>us2 fun _ _=>rfl
  have D60:Zl K mg "hear_fin" ZkC Zpp:=⟨_,_,F60,b60,mg_of X G a60⟩
  have F61:=Zy (st:=ZkB) l61 c61 k61
  have b61:=F61.binds (ps:=Zpo) fun _ _ _ _ _ _=>us2 fun _ _=>rfl
  have D61:Zl K mg "send" ZkB Zpo:=⟨_,_,F61,b61,mg_of X G a61⟩
  have F62:=Zy (st:=ZkA) l62 c62 k62
  have b62:=F62.binds (ps:=Zpn) fun _ _ _ _ _ _=>us2 fun _ _=>rfl
  have D62:Zl K mg "going" ZkA Zpn:=⟨_,_,F62,b62,mg_of X G a62⟩
  have F63:=Zy (st:=Zkz) l63 c63 k63
  have b63:=F63.binds (ps:=Zpm) fun _ _ _ _ _ _=>us1 fun _=>rfl
  have D63:Zl K mg "paid_reset" Zkz Zpm:=⟨_,_,F63,b63,mg_of X G a63⟩
  have F64:=Zy (st:=Zky) l64 c64 k64
  have b64:=F64.binds (ps:=Zpl) fun _ _ _ _ _ _=>us2 fun _ _=>rfl
  have D64:Zl K mg "is_due" Zky Zpl:=⟨_,_,F64,b64,mg_of X G a64⟩
  have F65:=Zy (st:=Zkx) l65 c65 k65
  have b65:=F65.binds (ps:=Zpk) fun _ _ _ _ _ _=>us2 fun _ _=>rfl
  have D65:Zl K mg "again" Zkx Zpk:=⟨_,_,F65,b65,mg_of X G a65⟩
  have F66:=Zy (st:=Zkw) l66 c66 k66
  have b66:=F66.binds (ps:=Zpj) fun _ _ _ _ _ _=>us1 fun _=>rfl
  have D66:Zl K mg "most_at_once" Zkw Zpj:=⟨_,_,F66,b66,mg_of X G a66⟩
  have F67:=Zy (st:=Zkv) l67 c67 k67
  have b67:=F67.binds (ps:=Zpi) fun _ _ _ _ _ _=>us1 fun _=>rfl
  have D67:Zl K mg "paid_syn" Zkv Zpi:=⟨_,_,F67,b67,mg_of X G a67⟩
  have F68:=Zy (st:=Zku) l68 c68 k68
  have b68:=F68.binds (ps:=Zph) fun _ _ _ _ _ _=>us4 fun _ _ _ _=>rfl
  have D68:Zl K mg "segment_of" Zku Zph:=⟨_,_,F68,b68,mg_of X G a68⟩
  have F69:=Zy (st:=Zkt) l69 c69 k69
  have b69:=F69.binds (ps:=Zpg) fun _ _ _ _ _ _=>us2 fun _ _=>rfl
  have D69:Zl K mg "going_as_new" Zkt Zpg:=⟨_,_,F69,b69,mg_of X G a69⟩
  have F70:=Zy (st:=Zks) l70 c70 k70
  have b70:=F70.binds (ps:=Zpf) fun _ _ _ _ _ _=>us2 fun _ _=>rfl
  have D70:Zl K mg "new_syn" Zks Zpf:=⟨_,_,F70,b70,mg_of X G a70⟩
  have F71:=Zy (st:=Zkr) l71 c71 k71
  have b71:=F71.binds (ps:=Zpe) fun _ _ _ _ _ _=>us1 fun _=>rfl
  have D71:Zl K mg "has_more" Zkr Zpe:=⟨_,_,F71,b71,mg_of X G a71⟩
  have F72:=Zy (st:=Zkq) l72 c72 k72
  have b72:=F72.binds (ps:=Zpd) fun _ _ _ _ _ _=>us1 fun _=>rfl
  have D72:Zl K mg "has_new_data" Zkq Zpd:=⟨_,_,F72,b72,mg_of X G a72⟩
  have F73:=Zy (st:=Zkp) l73 c73 k73
  have b73:=F73.binds (ps:=Zpc) fun _ _ _ _ _ _=>us1 fun _=>rfl
  have D73:Zl K mg "unsent" Zkp Zpc:=⟨_,_,F73,b73,mg_of X G a73⟩
  have F74:=Zy (st:=Zko) l74 c74 k74
  have b74:=F74.binds (ps:=Zpb) fun _ _ _ _ _ _=>us1 fun _=>rfl
  have D74:Zl K mg "has_new_fin" Zko Zpb:=⟨_,_,F74,b74,mg_of X G a74⟩
  have F75:=Zy (st:=Zkn) l75 c75 k75
  have b75:=F75.binds (ps:=Zpa) fun _ _ _ _ _ _=>us2 fun _ _=>rfl
  have D75:Zl K mg "new_piece" Zkn Zpa:=⟨_,_,F75,b75,mg_of X G a75⟩
  have F76:=Zy (st:=Zkm) l76 c76 k76
  have b76:=F76.binds (ps:=Zo9) fun _ _ _ _ _ _=>us2 fun _ _=>rfl
  have D76:Zl K mg "new_data" Zkm Zo9:=⟨_,_,F76,b76,mg_of X G a76⟩
  have F77:=Zy (st:=Zkl) l77 c77 k77
  have b77:=F77.binds (ps:=Zo8) fun _ _ _ _ _ _=>us1 fun _=>rfl
  have D77:Zl K mg "new_fin" Zkl Zo8:=⟨_,_,F77,b77,mg_of X G a77⟩
  have F78:=Zy (st:=Zkk) l78 c78 k78
  have b78:=F78.binds (ps:=Zo7) fun _ _ _ _ _ _=>us2 fun _ _=>rfl
  have D78:Zl K mg "going_as_probe" Zkk Zo7:=⟨_,_,F78,b78,mg_of X G a78⟩
  have F79:=Zy (st:=Zkj) l79 c79 k79
  have b79:=F79.binds (ps:=Zo6) fun _ _ _ _ _ _=>us1 fun _=>rfl
  have D79:Zl K mg "going_as_answer" Zkj Zo6:=⟨_,_,F79,b79,mg_of X G a79⟩
  have F80:=Zy (st:=Zki) l80 c80 k80
  have b80:=F80.binds (ps:=Zo5) fun _ _ _ _ _ _=>us2 fun _ _=>rfl
  have D80:Zl K mg "_law_cell" Zki Zo5:=⟨_,_,F80,b80,mg_of X G a80⟩
  have F81:=Zy (st:=Zkh) l81 c81 k81
  have b81:=F81.binds (ps:=Zo4) fun _ _ _ _ _ _=>us2 fun _ _=>rfl
  have D81:Zl K mg "_law_mix" Zkh Zo4:=⟨_,_,F81,b81,mg_of X G a81⟩
  have F82:=Zy (st:=Zkg) l82 c82 k82
  have b82:=F82.binds (ps:=Zo3) fun _ _ _ _ _ _=>us1 fun _=>rfl
  have D82:Zl K mg "_law_two" Zkg Zo3:=⟨_,_,F82,b82,mg_of X G a82⟩
  have F83:=Zy (st:=Zkf) l83 c83 k83
  have b83:=F83.binds (ps:=Zo2) fun _ _ _ _ _ _=>us1 fun _=>rfl
  have D83:Zl K mg "_law_folded" Zkf Zo2:=⟨_,_,F83,b83,mg_of X G a83⟩
  have F84:=Zy (st:=Zke) l84 c84 k84
  have b84:=F84.binds (ps:=Zo1) fun _ _ _ _ _ _=>us1 fun _=>rfl
  have D84:Zl K mg "_law_bytes" Zke Zo1:=⟨_,_,F84,b84,mg_of X G a84⟩
  have F85:=Zy (st:=ZiA) l85 c85 k85
  have b85:=F85.binds (ps:=Zo0) fun _ _ _ _ _ _=>us1 fun _=>rfl
  have D85:Zl K mg "_law_read" ZiA Zo0:=⟨_,_,F85,b85,mg_of X G a85⟩
  have F86:=Zy (st:=Zkd) l86 c86 k86
  have b86:=F86.binds (ps:=ZoZ) fun _ _ _ _ _ _=>us1 fun _=>rfl
  have D86:Zl K mg "_law_byte" Zkd ZoZ:=⟨_,_,F86,b86,mg_of X G a86⟩
  have F87:=Zy (st:=Zkc) l87 c87 k87
  have b87:=F87.binds (ps:=ZoY) fun _ _ _ _ _ _=>us2 fun _ _=>rfl
  have D87:Zl K mg "_law_plus" Zkc ZoY:=⟨_,_,F87,b87,mg_of X G a87⟩
  have F88:=Zy (st:=Zkb) l88 c88 k88
  have b88:=F88.binds (ps:=ZoX) fun _ _ _ _ _ _=>us1 fun _=>rfl
  have D88:Zl K mg "_law_first" Zkb ZoX:=⟨_,_,F88,b88,mg_of X G a88⟩
  have F89:=Zy (st:=Zka) l89 c89 k89
  have b89:=F89.binds (ps:=ZoW) fun _ _ _ _ _ _=>us6 fun _ _ _ _ _ _=>rfl
  have D89:Zl K mg "_law_segment" Zka ZoW:=⟨_,_,F89,b89,mg_of X G a89⟩
  have F90:=Zy (st:=Zj9) l90 c90 k90
  have b90:=F90.binds (ps:=ZoV) fun _ _ _ _ _ _=>us2 fun _ _=>rfl
  have D90:Zl K mg "_law_given" Zj9 ZoV:=⟨_,_,F90,b90,mg_of X G a90⟩
  have F91:=Zy (st:=Zj8) l91 c91 k91
  have b91:=F91.binds (ps:=ZoU) fun _ _ _ _ _ _=>us4 fun _ _ _ _=>rfl
  have D91:Zl K mg "_law_opened" Zj8 ZoU:=⟨_,_,F91,b91,mg_of X G a91⟩
  have F92:=Zy (st:=Zj7) l92 c92 k92
  have b92:=F92.binds (ps:=ZoT) fun _ _ _ _ _ _=>us2 fun _ _=>rfl
  have D92:Zl K mg "_law_close" Zj7 ZoT:=⟨_,_,F92,b92,mg_of X G a92⟩
  have F93:=Zy (st:=Zj6) l93 c93 k93
  have b93:=F93.binds (ps:=ZoS) fun _ _ _ _ _ _=>us2 fun _ _=>rfl
  have D93:Zl K mg "_law_same" Zj6 ZoS:=⟨_,_,F93,b93,mg_of X G a93⟩
  have F94:=Zy (st:=Zj5) l94 c94 k94
  have b94:=F94.binds (ps:=ZoR) fun _ _ _ _ _ _=>us1 fun _=>rfl
  have D94:Zl K mg "_law_fin_comes" Zj5 ZoR:=⟨_,_,F94,b94,mg_of X G a94⟩
  have F95:=Zy (st:=Zj4) l95 c95 k95
  have b95:=F95.binds (ps:=ZoQ) fun _ _ _ _ _ _=>us2 fun _ _=>rfl
  have D95:Zl K mg "_law_heard" Zj4 ZoQ:=⟨_,_,F95,b95,mg_of X G a95⟩
  have F96:=Zy (st:=Zjt) l96 c96 k96
  have b96:=F96.binds (ps:=ZoP) fun _ _ _ _ _ _=>us3 fun _ _ _=>rfl
  have D96:Zl K mg "_law_flags" Zjt ZoP:=⟨_,_,F96,b96,mg_of X G a96⟩
  have F97:=Zy (st:=Zgv) l97 c97 k97
  have b97:=F97.binds (ps:=ZoO) fun _ _ _ _ _ _=>us1 fun _=>rfl
  have D97:Zl K mg "law" Zgv ZoO:=⟨_,_,F97,b97,mg_of X G a97⟩
  refine ⟨fnOf "law" "law" (Zr Zgv) (Zn Zgv) (Zg Zgv) .none kV97 dc97 pm97 an97 cd97 ct97,fun s v=>.of_eq rfl,fun base _ _=>?_⟩
  exact Zs3 law_true (Zu6 F97 D0 D1 D2 D3 D4 D5 D6 D7 D8 D9 D10 D11 D12 D13 D14 D15 D16 D17 D18 D19 D20 D21 D22 D23 D24 D25 D26 D27 D28 D29 D30 D31 D32 D33 D34 D35 D36 D37 D38 D39 D40 D41 D42 D43 D44 D45 D46 D47 D48 D49 D50 D51 D52 D53 D54 D55 D56 D57 D58 D59 D60 D61 D62 D63 D64 D65 D66 D67 D68 D69 D70 D71 D72 D73 D74 D75 D76 D77 D78 D79 D80 D81 D82 D83 D84 D85 D86 D87 D88 D89 D90 D91 D92 D93 D94 D95 D96 g)
theorem ZAc {l:OpenLaw} {q:Program} {loose:List Str} {XP:(Str→Option Value)→Heap→Prop} {YP:World→Heap→Prop} {d:DefRec} {K:Params→Frag} (hn:l.most=some 63) (hdf:d.params.defaults=[])
    (hY:∀(w:World) (h:Heap),YP w h→(K w.params).In h)
    (F:∀(w:World) (mg:Str→Option Value) (fa:Addr) (h:Heap),(K w.params).In h→h.Ns mainGlobals mg→mg d.name=some (.ref fa)→
      ∃fd:FuncData,(∀(s:Shared) (u:Value),BindsTo s fd ⟨[u],[]⟩ [("_law_script",u)])∧∀base:Heap,(K w.params).In base→base.Ns mainGlobals mg→FnOk l.prog w (K w.params) mg base CX0 11 fa fd ["_law_script"] (Znf (K w.params))) :
    WalkO q loose XP YP l.row.toRowW d [] (fun f vs=>PySem.call f vs):=
  L2.Zr7 (n:=63) (k:=11) (x:="_law_script") (CX:=fun _=>CX0) (sp:=fun w=>Znf (K w.params)) hn (by decide) hdf ⟨rfl,by decide,by decide⟩ hY F (fun _ H a ns hl hO hS=>⟨a,ns,rfl,hO,hS,hl,fun _=>rfl⟩) fun _ _ _ _ _ z=>z
end My
open PySem PySem.W PyProof.Rows
set_option maxRecDepth 100000 in
set_option maxHeartbeats 0 in
theorem PySem.Challenge.cw_wirestream_k23_closing_holds : PySem.Challenge.rw_wirestream_k23_closing.Holds := by
  w_on; o_law; k_head; (case hw=>w_witness2)
  k_fill
  refine My.ZAc (l:=PySem.Challenge.rw_wirestream_k23_closing) rfl rfl (fun w h Y=>PySem.W.kIn_of Y) ?F
  case F=>
    intro w mg fa h KX G hmg
    refine' My.Zvv KX G hmg ?aC_End ?aC_Pile ?a0 ?i0 ?l0 ?c0 ?k0 ?a1 ?l1 ?c1 ?k1 ?a2 ?l2 ?c2 ?k2 ?a3 ?l3 ?c3 ?k3 ?a4 ?l4 ?c4 ?k4 ?a5 ?l5 ?c5 ?k5 ?a6 ?l6 ?c6 ?k6 ?a7 ?i7 ?l7 ?c7 ?k7 ?a8 ?l8 ?c8 ?k8 ?a9 ?l9 ?c9 ?k9 ?a10 ?l10 ?c10 ?k10 ?a11 ?l11 ?c11 ?k11 ?a12 ?l12 ?c12 ?k12 ?a13 ?l13 ?c13 ?k13 ?a14 ?l14 ?c14 ?k14 ?a15 ?l15 ?c15 ?k15 ?a16 ?l16 ?c16 ?k16 ?a17 ?l17 ?c17 ?k17 ?a18 ?l18 ?c18 ?k18 ?a19 ?l19 ?c19 ?k19 ?a20 ?l20 ?c20 ?k20 ?a21 ?l21 ?c21 ?k21 ?a22 ?l22 ?c22 ?k22 ?a23 ?l23 ?c23 ?k23 ?a24 ?l24 ?c24 ?k24 ?a25 ?l25 ?c25 ?k25 ?a26 ?l26 ?c26 ?k26 ?a27 ?l27 ?c27 ?k27 ?a28 ?l28 ?c28 ?k28 ?a29 ?l29 ?c29 ?k29 ?a30 ?l30 ?c30 ?k30 ?a31 ?l31 ?c31 ?k31 ?a32 ?l32 ?c32 ?k32 ?a33 ?l33 ?c33 ?k33 ?a34 ?l34 ?c34 ?k34 ?a35 ?l35 ?c35 ?k35 ?a36 ?l36 ?c36 ?k36 ?a37 ?l37 ?c37 ?k37 ?a38 ?l38 ?c38 ?k38 ?a39 ?l39 ?c39 ?k39 ?a40 ?l40 ?c40 ?k40 ?a41 ?l41 ?c41 ?k41 ?a42 ?l42 ?c42 ?k42 ?a43 ?l43 ?c43 ?k43 ?a44 ?l44 ?c44 ?k44 ?a45 ?l45 ?c45 ?k45 ?a46 ?l46 ?c46 ?k46 ?a47 ?l47 ?c47 ?k47 ?a48 ?l48 ?c48 ?k48 ?a49 ?l49 ?c49 ?k49 ?a50 ?l50 ?c50 ?k50 ?a51 ?l51 ?c51 ?k51 ?a52 ?l52 ?c52 ?k52 ?a53 ?l53 ?c53 ?k53 ?a54 ?l54 ?c54 ?k54 ?a55 ?l55 ?c55 ?k55 ?a56 ?l56 ?c56 ?k56 ?a57 ?l57 ?c57 ?k57 ?a58 ?l58 ?c58 ?k58 ?a59 ?l59 ?c59 ?k59 ?a60 ?l60 ?c60 ?k60 ?a61 ?l61 ?c61 ?k61 ?a62 ?l62 ?c62 ?k62 ?a63 ?l63 ?c63 ?k63 ?a64 ?l64 ?c64 ?k64 ?a65 ?l65 ?c65 ?k65 ?a66 ?l66 ?c66 ?k66 ?a67 ?l67 ?c67 ?k67 ?a68 ?l68 ?c68 ?k68 ?a69 ?l69 ?c69 ?k69 ?a70 ?l70 ?c70 ?k70 ?a71 ?l71 ?c71 ?k71 ?a72 ?l72 ?c72 ?k72 ?a73 ?l73 ?c73 ?k73 ?a74 ?l74 ?c74 ?k74 ?a75 ?l75 ?c75 ?k75 ?a76 ?l76 ?c76 ?k76 ?a77 ?l77 ?c77 ?k77 ?a78 ?l78 ?c78 ?k78 ?a79 ?l79 ?c79 ?k79 ?a80 ?l80 ?c80 ?k80 ?a81 ?l81 ?c81 ?k81 ?a82 ?l82 ?c82 ?k82 ?a83 ?l83 ?c83 ?k83 ?a84 ?l84 ?c84 ?k84 ?a85 ?l85 ?c85 ?k85 ?a86 ?l86 ?c86 ?k86 ?a87 ?l87 ?c87 ?k87 ?a88 ?l88 ?c88 ?k88 ?a89 ?l89 ?c89 ?k89 ?a90 ?l90 ?c90 ?k90 ?a91 ?l91 ?c91 ?k91 ?a92 ?l92 ?c92 ?k92 ?a93 ?l93 ?c93 ?k93 ?a94 ?l94 ?c94 ?k94 ?a95 ?l95 ?c95 ?k95 ?a96 ?l96 ?c96 ?k96 ?a97 ?l97 ?c97 ?k97 ?pg_End ?hd_End ?po_End ?sa_End ?mk_End ?kc_End ?pg_Pile ?hd_Pile ?po_Pile ?sa_Pile ?mk_Pile ?kc_Pile ?zA0 ?zA1 ?zA2 ?zA3 ?zA4 ?zA5 ?zA6 ?zA7 ?zA8 ?zA9 ?zA10 ?zA11 ?zA12 ?zA13 ?zA14 ?zA15 ?zA16 ?zA17 ?zA18 ?zA19 ?zA20 ?zA21 ?zA22 ?zA23 ?zA24 ?zA25 ?zg0 ?zg1 ?zg2 ?zg3 ?zg4 ?zg5 ?zg6 ?zg7 ?zg8 ?zg9 ?zg10 ?zg11 ?zg12 ?zg13 ?zg14 ?zg15 ?zg16 ?zg17 ?zg18 ?zg19 ?zg20 ?zg21 ?zg22 ?zg23 ?zg24 ?zg25 ?zg26 ?zg27 ?zg28 ?zg29 ?zg30 ?zg31 ?zg32 ?zg33 ?zg34 ?zg35 ?zg36 ?zg37 ?zg38 ?zg39 ?zg40 ?zg41 ?zg42 ?zg43 ?z_all ?z_bool ?z_enumerate ?z_int ?z_isinstance ?z_len ?z_list ?z_max ?z_min ?z_range ?z_sum ?z_tuple
    case aC_End | aC_Pile | a0 | i0 | l0 | c0 | k0 | a1 | l1 | c1 | k1 | a2 | l2 | c2 | k2 | a3 | l3 | c3 | k3 | a4 | l4 | c4 | k4 | a5 | l5 | c5 | k5 | a6 | l6 | c6 | k6 | a7 | i7 | l7 | c7 | k7 | a8 | l8 | c8 | k8 | a9 | l9 | c9 | k9 | a10 | l10 | c10 | k10 | a11 | l11 | c11 | k11 | a12 | l12 | c12 | k12 | a13 | l13 | c13 | k13 | a14 | l14 | c14 | k14 | a15 | l15 | c15 | k15 | a16 | l16 | c16 | k16 | a17 | l17 | c17 | k17 | a18 | l18 | c18 | k18 | a19 | l19 | c19 | k19 | a20 | l20 | c20 | k20 | a21 | l21 | c21 | k21 | a22 | l22 | c22 | k22 | a23 | l23 | c23 | k23 | a24 | l24 | c24 | k24 | a25 | l25 | c25 | k25 | a26 | l26 | c26 | k26 | a27 | l27 | c27 | k27 | a28 | l28 | c28 | k28 | a29 | l29 | c29 | k29 | a30 | l30 | c30 | k30 | a31 | l31 | c31 | k31 | a32 | l32 | c32 | k32 | a33 | l33 | c33 | k33 | a34 | l34 | c34 | k34 | a35 | l35 | c35 | k35 | a36 | l36 | c36 | k36 | a37 | l37 | c37 | k37 | a38 | l38 | c38 | k38 | a39 | l39 | c39 | k39 | a40 | l40 | c40 | k40 | a41 | l41 | c41 | k41 | a42 | l42 | c42 | k42 | a43 | l43 | c43 | k43 | a44 | l44 | c44 | k44 | a45 | l45 | c45 | k45 | a46 | l46 | c46 | k46 | a47 | l47 | c47 | k47 | a48 | l48 | c48 | k48 | a49 | l49 | c49 | k49 | a50 | l50 | c50 | k50 | a51 | l51 | c51 | k51 | a52 | l52 | c52 | k52 | a53 | l53 | c53 | k53 | a54 | l54 | c54 | k54 | a55 | l55 | c55 | k55 | a56 | l56 | c56 | k56 | a57 | l57 | c57 | k57 | a58 | l58 | c58 | k58 | a59 | l59 | c59 | k59 | a60 | l60 | c60 | k60 | a61 | l61 | c61 | k61 | a62 | l62 | c62 | k62 | a63 | l63 | c63 | k63 | a64 | l64 | c64 | k64 | a65 | l65 | c65 | k65 | a66 | l66 | c66 | k66 | a67 | l67 | c67 | k67 | a68 | l68 | c68 | k68 | a69 | l69 | c69 | k69 | a70 | l70 | c70 | k70 | a71 | l71 | c71 | k71 | a72 | l72 | c72 | k72 | a73 | l73 | c73 | k73 | a74 | l74 | c74 | k74 | a75 | l75 | c75 | k75 | a76 | l76 | c76 | k76 | a77 | l77 | c77 | k77 | a78 | l78 | c78 | k78 | a79 | l79 | c79 | k79 | a80 | l80 | c80 | k80 | a81 | l81 | c81 | k81 | a82 | l82 | c82 | k82 | a83 | l83 | c83 | k83 | a84 | l84 | c84 | k84 | a85 | l85 | c85 | k85 | a86 | l86 | c86 | k86 | a87 | l87 | c87 | k87 | a88 | l88 | c88 | k88 | a89 | l89 | c89 | k89 | a90 | l90 | c90 | k90 | a91 | l91 | c91 | k91 | a92 | l92 | c92 | k92 | a93 | l93 | c93 | k93 | a94 | l94 | c94 | k94 | a95 | l95 | c95 | k95 | a96 | l96 | c96 | k96 | a97 | l97 | c97 | k97 | pg_End | hd_End | po_End | sa_End | mk_End | kc_End | pg_Pile | hd_Pile | po_Pile | sa_Pile | mk_Pile | kc_Pile | zA0 | zA1 | zA2 | zA3 | zA4 | zA5 | zA6 | zA7 | zA8 | zA9 | zA10 | zA11 | zA12 | zA13 | zA14 | zA15 | zA16 | zA17 | zA18 | zA19 | zA20 | zA21 | zA22 | zA23 | zA24 | zA25 | zg0 | zg1 | zg2 | zg3 | zg4 | zg5 | zg6 | zg7 | zg8 | zg9 | zg10 | zg11 | zg12 | zg13 | zg14 | zg15 | zg16 | zg17 | zg18 | zg19 | zg20 | zg21 | zg22 | zg23 | zg24 | zg25 | zg26 | zg27 | zg28 | zg29 | zg30 | zg31 | zg32 | zg33 | zg34 | zg35 | zg36 | zg37 | zg38 | zg39 | zg40 | zg41 | zg42 | zg43 | z_all | z_bool | z_enumerate | z_int | z_isinstance | z_len | z_list | z_max | z_min | z_range | z_sum | z_tuple=>k_is
#print axioms PySem.Challenge.cw_wirestream_k23_closing_holds
