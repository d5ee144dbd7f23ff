import PyProof.Rows.All
import Wide.All
import OpenK.AllK
import Wide.FinOn
import Lean
import PyProof.EqAt
import PyProof.EqKinds
import PyProof.TupleCall
import PySem.Challenge.RW_wirestream_k42_each_in_turn
set_option compiler.extract_closed false
set_option bootstrap.genMatcherCode false
set_option Elab.async false
set_option linter.all false
set_option maxRecDepth 100000
namespace L2
open PySem PySem.Spec PyProof.Rows
abbrev Key:=Sum Int Str
def Zeq:Key→Value→Bool
  | .inl k,v=>Value.isInt k v
  | .inr x,v=>Value.isStrOf x v
def Zp1 (w:World):Key→Int
  | .inl k=>hashInt k
  | .inr x=>hashStr w x
theorem zj:∀{k:Key} {v:Value},Zeq k v=true→(∃i t,k=Sum.inl i∧v=Value.int i t)∨(∃x t,k=Sum.inr x∧v=Value.str x t)
  | .inl i,v,h=>by
    obtain ⟨t,e⟩:=Value.isInt_shape (k:=i) (v:=v) h
    exact .inl ⟨i,t,rfl,e⟩
  | .inr x,v,h=>by
    obtain ⟨t,e⟩:=Value.isStrOf_shape (x:=x) (v:=v) h
    exact .inr ⟨x,t,rfl,e⟩
theorem ZhG (i:Int) (t:Tok):Zeq (.inl i) (.int i t)=true:=by simp [Zeq,Value.isInt]
theorem ZhF (x:Str) (t:Tok):Zeq (.inr x) (.str x t)=true:=by simp [Zeq,Value.isStrOf]
theorem ZmA (a b:Int):decide ((Sum.inl a:Key)=Sum.inl b)=(a == b):=by
  by_cases e:a=b
  · subst e; simp
  · have h:¬(Sum.inl a:Key)=Sum.inl b:=fun q=>e (Sum.inl.inj q)
    rw [decide_eq_false h]
    exact (beq_eq_false_iff_ne.mpr e).symm
theorem Zmx (a b:Str):decide ((Sum.inr a:Key)=Sum.inr b)=decide (a=b):=by
  by_cases e:a=b
  · subst e; simp
  · have h:¬(Sum.inr a:Key)=Sum.inr b:=fun q=>e (Sum.inr.inj q)
    rw [decide_eq_false h,decide_eq_false e]
theorem Zmz (a:Int) (b:Str):decide ((Sum.inl a:Key)=Sum.inr b)=false:=decide_eq_false (fun q=>nomatch q)
theorem Zmy (a:Str) (b:Int):decide ((Sum.inr a:Key)=Sum.inl b)=false:=decide_eq_false (fun q=>nomatch q)
def zn (prog:Program) (w:World):PySem.KeyKind prog w Key where
  is:=Zeq
  hash:=Zp1 w
  inj:=fun v a b ha hb=>by
    rcases zj ha with ⟨i,t,rfl,rfl⟩ | ⟨x,t,rfl,rfl⟩
    · rcases zj hb with ⟨j,u,rfl,e⟩ | ⟨y,u,rfl,e⟩
      · injection e with e1 _; rw [e1]
      · exact nomatch e
    · rcases zj hb with ⟨j,u,rfl,e⟩ | ⟨y,u,rfl,e⟩
      · exact nomatch e
      · injection e with e1 _; rw [e1]
  byValue:=fun k v h=>by
    rcases zj h with ⟨i,t,rfl,rfl⟩ | ⟨x,t,rfl,rfl⟩<;>rfl
  pyHash:=fun hv h=>by
    rcases zj hv with ⟨i,t,rfl,rfl⟩ | ⟨x,t,rfl,rfl⟩
    · exact wpAny_pyHash_int h
    · exact wpAny_pyHash_str h
  eqBool:=fun hu hv h=>by
    rcases zj hu with ⟨i,t,rfl,rfl⟩ | ⟨x,t,rfl,rfl⟩
    · rcases zj hv with ⟨j,u,rfl,rfl⟩ | ⟨y,u,rfl,rfl⟩
      · rw [ZmA] at h; exact wpAny_eqBool_int h
      · rw [Zmz] at h; exact SeqAt.EqAt.int_str i t y u _ _ _ _ h
    · rcases zj hv with ⟨j,u,rfl,rfl⟩ | ⟨y,u,rfl,rfl⟩
      · rw [Zmy] at h; exact SeqAt.EqAt.str_int x t j u _ _ _ _ h
      · rw [Zmx] at h; exact wpAny_eqBool_str h
  «strs»:=fun k x t v h=>by
    rcases zj h with ⟨i,u,rfl,e⟩ | ⟨y,u,rfl,e⟩
    · exact nomatch e
    · injection e with e1 _
      subst e1
      cases v<;>rfl
theorem Zf2 (prog:Program) (w:World) (i:Int) (t:Tok):(zn prog w).is (.inl i) (.int i t)=true:=ZhG i t
theorem Zf1 (prog:Program) (w:World) (x:Str) (t:Tok):(zn prog w).is (.inr x) (.str x t)=true:=ZhF x t
end L2
namespace L2
open PySem PySem.Spec PyProof.Rows
inductive V where
  | non | bl (b:Bool) | int (i:Int) | str (x:Str) | byt (b:Array UInt8) | flt (b:UInt64) | ref (a:Addr) | ty (n:String)
  deriving DecidableEq
def RelV:V→Value→Prop
  | .non,u=>u=Value.none
  | .bl b,u=>u=Value.bool b
  | .int i,u=>∃t,u=Value.int i t
  | .str x,u=>∃t,u=Value.str x t
  | .byt b,u=>∃t,u=Value.bytes b t
  | .flt b,u=>∃t,u=Value.float b t
  | .ref a,u=>u=Value.ref a
  | .ty n,u=>u=Value.type n
abbrev Vals:List V→List Value→Prop:=Paired RelV
theorem Vals.length {xs:List V} {us:List Value} (r:Vals xs us):xs.length=us.length:=Paired.length r
theorem Vals.get:∀{xs:List V} {us:List Value} {i:Nat} {x:V},Vals xs us→xs[i]?=some x→∃u,us[i]?=some u∧RelV x u
  | _,_,_,_,.nil,e=>by simp at e
  | _,_,0,_,.cons r _,e=>by simp at e; subst e; exact ⟨_,rfl,r⟩
  | _,_,i+1,x,.cons _ t,e=>by
    obtain ⟨u,h1,h2⟩:=Vals.get (i:=i) (x:=x) t (by simpa using e)
    exact ⟨u,by simpa using h1,h2⟩
theorem Vals.append:∀{xs ys:List V} {us ws:List Value},Vals xs us→Vals ys ws→Vals (xs++ys) (us++ws)
  | _,_,_,_,.nil,s=>s
  | _,_,_,_,.cons r t,s=>.cons r (Vals.append t s)
theorem Vals.take:∀{xs:List V} {us:List Value} (n:Nat),Vals xs us→Vals (xs.take n) (us.take n)
  | _,_,0,_=>.nil
  | _,_,_+1,.nil=>.nil
  | _,_,n+1,.cons r t=>.cons r (Vals.take n t)
theorem Vals.drop:∀{xs:List V} {us:List Value} (n:Nat),Vals xs us→Vals (xs.drop n) (us.drop n)
  | _,_,0,r=>r
  | _,_,_+1,.nil=>.nil
  | _,_,n+1,.cons _ t=>Vals.drop n t
theorem Vals.none_of:∀{xs:List V} {us:List Value} {i:Nat},Vals xs us→xs[i]?=none→us[i]?=none:=fun {xs us i} r e=>by
  have h1:=r.length
  have h2:xs.length≤i:=List.getElem?_eq_none_iff.mp e
  exact List.getElem?_eq_none_iff.mpr (by omega)
def RelO:Option V→Option Value→Prop
  | some v,some u=>RelV v u
  | none,none=>True
  | _,_=>False
def KV {κ:Type}:List (κ×V)→List (κ×Value)→Prop:=Paired fun (p:κ×V) (q:κ×Value)=>p.1=q.1∧RelV p.2 q.2
def kV:Key→V
  | .inl i=>.int i
  | .inr x=>.str x
inductive HO where
  | lst (xs:List V)
  | tup (xs:List V)
  | dK (kvs:List (Key×V)) | dT (kvs:List (List Key×V))
  | set (S:Int→Bool) (n:Nat)
  | ins (C dx:Addr) (fs:List (Str×V))
  | own (x:Addr)
  | xd (fs:List (Str×V))
  | met (f x:Addr)
  | rng (lo hi:Int)
  | frz (o:Obj) (u:HO)
  | tbl (ps:Array Value)
  | ext (φ:Heap→Prop)
abbrev Hp:=Addr→Option HO
def upd (H:Hp) (a:Addr) (o:HO):Hp:=fun b=>if b=a then some o else H b
theorem Z3 {H:Hp} {a:Addr} {o:HO}:upd H a o a=some o:=by unfold upd; rw [if_pos rfl]
theorem ZT {H:Hp} {a b:Addr} {o:HO} (h:b≠a):upd H a o b=H b:=by unfold upd; rw [if_neg h]
theorem ZnU {H:Hp} {a b:Addr} {o u:HO} (h:H a=some o) (h':H b=some u) (d:o≠u):a≠b:=by
  intro e; subst e; rw [h] at h'; exact d (Option.some.inj h')
theorem zm {H:Hp} {a b:Addr} {o:HO} (h:H a=some o) (h':H b=none):a≠b:=by
  intro e; subst e; rw [h] at h'; cases h'
section
variable (P:Program) (w:World)
def ObjOk (H:Hp) (h:Heap) (a:Addr):HO→Prop
  | .lst xs=>xs.length≤sizeLine∧∃(its:List Value) (n:Nat),Vals xs its∧h.get? a=some { cls:=.type "list",data:=.seq its.toArray n }
  | .tup xs=>xs.length≤sizeLine∧∃its:List Value,Vals xs its∧IsTup h a its.toArray
  | .dK kvs=>kvs.length≤sizeLine∧(a == sysModules)=false∧∃vs,KV kvs vs∧h.DictOf (zn P w) a vs
  | .dT kvs=>kvs.length≤sizeLine∧(a == sysModules)=false∧∃xs:List (List Key×Addr×Value),
      Paired (fun (p:List Key×V) (q:List Key×Addr×Value)=>p.1=q.1∧H q.2.1=some (.tup (p.1.map kV))∧RelV p.2 q.2.2) kvs xs∧
      ∃o es ep,h.get? a=some o∧o.ExactDict∧o.data=.dict es ep∧es.toList=xs.map (entryOfKey (tupleKind (zn P w)))∧(xs.map (·.1)).Nodup
  | .set S n=>h.SetOf (intKind P w) a S n
  | .ins C dx fs=>H dx=some (.own a)∧fs.length≤1000∧dx≠a∧h.get? a=some (PySem.W.instObj C dx)∧
      ∃mA,h.Ns1 dx mA∧(∀f,RelO (fs.lookup f) (mA f))∧PySem.Within mA (fs.map (·.1))
  | .own _=>∃o,h.get? a=some o
  | .xd fs=>∃mA,h.Ns1 a mA∧∀f,RelO (fs.lookup f) (mA f)
  | .rng lo hi=>∃t u v,h.get? a=some { cls:=.type "range",data:=.fields #[.int lo t,.int hi u,.int 1 v] }
  | .frz o u=>h.get? a=some o∧ObjOk H h a u
  | .tbl ps=>h.get? a=some { cls:=.none,data:=.fields ps }
  | .met f x=>h.get? a=some (PySem.W.methodObj (.ref f) (.ref x))
  | .ext φ=>φ h∧(∃o,h.get? a=some o)∧∀h1 h2:Heap,φ h1→(∀o,h1.get? a=some o→h2.get? a=some o)→φ h2
def HOk (H:Hp) (h:Heap):Prop:=∀a o,H a=some o→ObjOk P w H h a o
end
section
variable {P:Program} {w:World} {H H':Hp} {h h':Heap} {a:Addr} {o:HO}
theorem ObjOk.lt (x:ObjOk P w H h a o):a<h.objs.size:=by
  cases o with
  | lst xs=>obtain ⟨_,_,_,_,e⟩:=x; exact Heap.lt_size e
  | tup xs=>obtain ⟨_,_,_,p⟩:=x; exact p.lt
  | dK kvs=>obtain ⟨_,_,_,_,o,_,_,e,_⟩:=x; exact Heap.lt_size e
  | dT kvs=>obtain ⟨_,_,_,_,o,_,_,e,_⟩:=x; exact Heap.lt_size e
  | set S n=>obtain ⟨o,_,_,_,e,_⟩:=x; exact Heap.lt_size e
  | ins C dx fs=>obtain ⟨_,_,_,e,_⟩:=x; exact Heap.lt_size e
  | own y=>obtain ⟨_,e⟩:=x; exact Heap.lt_size e
  | xd fs=>obtain ⟨_,⟨_,_,_,e,_⟩,_⟩:=x; exact Heap.lt_size e
  | rng lo hi=>obtain ⟨_,_,_,e⟩:=x; exact Heap.lt_size e
  | frz ob u=>obtain ⟨e,_⟩:=x; exact Heap.lt_size e
  | tbl ps=>exact Heap.lt_size (show h.get? a=some _ from x)
  | met f y=>exact Heap.lt_size (show h.get? a=some _ from x)
  | ext φ=>obtain ⟨_,⟨_,e⟩,_⟩:=x; exact Heap.lt_size e
theorem Paired.mapP {α β:Type} {F G:α→β→Prop}:∀{l₁:List α} {l₂:List β},Paired F l₁ l₂→(∀a b,F a b→G a b)→Paired G l₁ l₂
  | _,_,.nil,_=>.nil
  | _,_,.cons r t,f=>.cons (f _ _ r) (Paired.mapP t f)
theorem ObjOk.stay (x:ObjOk P w H h a o) (k:∀b u,(b=a∨H b=some (.own a))→h.get? b=some u→h'.get? b=some u)
    (ho:∀b,H b=some (.own a)→H' b=some (.own a)) (ht:∀b xs,H b=some (.tup xs)→H' b=some (.tup xs)):ObjOk P w H' h' a o:=by
  induction o with
  | lst xs=>obtain ⟨z,its,n,r,e⟩:=x; exact ⟨z,its,n,r,k _ _ (.inl rfl) e⟩
  | tup xs=>obtain ⟨z,its,r,ob,e,c⟩:=x; exact ⟨z,its,r,ob,k _ _ (.inl rfl) e,c⟩
  | dK kvs=>obtain ⟨z,y,vs,r,ob,es,ep,e,c⟩:=x; exact ⟨z,y,vs,r,ob,es,ep,k _ _ (.inl rfl) e,c⟩
  | dT kvs=>
    obtain ⟨z,y,xs,r,ob,es,ep,e,c⟩:=x
    exact ⟨z,y,xs,Paired.mapP r fun p q z=>⟨z.1,ht _ _ z.2.1,z.2.2⟩,ob,es,ep,k _ _ (.inl rfl) e,c⟩
  | set S n=>obtain ⟨ob,es,ep,t,e,c⟩:=x; exact ⟨ob,es,ep,t,k _ _ (.inl rfl) e,c⟩
  | ins C dx fs=>
    obtain ⟨d,z,ne,e,mA,⟨od,es,ep,e2,c⟩,r⟩:=x
    exact ⟨ho _ d,z,ne,k _ _ (.inl rfl) e,mA,⟨od,es,ep,k _ _ (.inr d) e2,c⟩,r⟩
  | own y=>obtain ⟨ob,e⟩:=x; exact ⟨ob,k _ _ (.inl rfl) e⟩
  | xd fs=>obtain ⟨mA,⟨od,es,ep,e,c⟩,r⟩:=x; exact ⟨mA,⟨od,es,ep,k _ _ (.inl rfl) e,c⟩,r⟩
  | rng lo hi=>obtain ⟨t,u,v,e⟩:=x; exact ⟨t,u,v,k _ _ (.inl rfl) e⟩
  | frz ob u ih=>obtain ⟨e,q⟩:=x; exact ⟨k _ _ (.inl rfl) e,ih q⟩
  | tbl ps=>
    have e:h.get? a=some { cls:=.none,data:=.fields ps }:=x
    show h'.get? a=some { cls:=.none,data:=.fields ps }
    exact k a _ (.inl rfl) e
  | met f y=>
    have e:h.get? a=some (PySem.W.methodObj (.ref f) (.ref y)):=x
    show h'.get? a=some (PySem.W.methodObj (.ref f) (.ref y))
    exact k a _ (.inl rfl) e
  | ext φ=>obtain ⟨p,⟨o,e⟩,st⟩:=x; exact ⟨st _ _ p fun o q=>k _ _ (.inl rfl) q,⟨o,k _ _ (.inl rfl) e⟩,st⟩
theorem HOk.lt (x:HOk P w H h) (e:H a=some o):a<h.objs.size:=(x a o e).lt
theorem HOk.fresh (x:HOk P w H h) (e:h.objs.size≤a):H a=none:=by
  cases q:H a with
  | none=>rfl
  | some u=>exact absurd (Nat.lt_of_lt_of_le (x.lt q) e) (Nat.lt_irrefl _)
theorem HOk.kept (x:HOk P w H h) (k:∀b u,h.get? b=some u→h'.get? b=some u):HOk P w H h':=fun a o e=>
  (x a o e).stay (fun b u _ q=>k b u q) (fun _ q=>q) fun _ _ q=>q
theorem HOk.laid (x:HOk P w H h) (k:∀b u,h.get? b=some u→h'.get? b=some u) (hp:h.objs.size≤a) (new:ObjOk P w (upd H a o) h' a o):HOk P w (upd H a o) h':=fun b u e=>by
  have hn:=x.fresh hp
  by_cases hb:b=a
  · subst hb; rw [Z3] at e; cases e; exact new
  · rw [ZT hb] at e
    exact (x b u e).stay (fun c v _ q=>k c v q) (fun c q=>by rw [ZT (zm q hn)]; exact q) fun c xs q=>by rw [ZT (zm q hn)]; exact q
end
def Rd (H:Hp) (a:Addr) (u:HO):Prop:=H a=some u∨∃o,H a=some (.frz o u)
theorem Rd.ok {P:Program} {w:World} {H:Hp} {h:Heap} {a:Addr} {u:HO} (r:Rd H a u) (x:HOk P w H h):ObjOk P w H h a u:=by
  rcases r with r | ⟨o,r⟩
  · exact x a u r
  · obtain ⟨_,q⟩:=x a _ r
    exact q
def Mut:Option HO→Prop
  | some (.lst _)=>True
  | some (.dK _)=>True
  | some (.dT _)=>True
  | some (.set _ _)=>True
  | some (.ins _ _ _)=>True
  | some (.ext _)=>True
  | _=>False
section
variable {P:Program} {w:World} {H:Hp} {h h':Heap} {x e:Addr} {o':HO}
theorem HOk.write (ok:HOk P w H h) (mu:Mut (H x)) (he:e=x∨H e=some (.own x)) (k:∀b u,b≠e→h.get? b=some u→h'.get? b=some u) (heo:∃u,h'.get? e=some u)
    (new:ObjOk P w (upd H x o') h' x o'):HOk P w (upd H x o') h':=fun b u q=>by
  have nown:∀c y,H c=some (.own y)→c≠x:=fun c y r z=>by subst z; rw [r] at mu; exact mu
  have ntup:∀c xs,H c=some (.tup xs)→c≠x:=fun c xs r z=>by subst z; rw [r] at mu; exact mu
  by_cases hb:b=x
  · subst hb; rw [Z3] at q; cases q; exact new
  · rw [ZT hb] at q
    by_cases hbe:b=e
    · have q':H b=some (.own x):=by
        rcases he with z | z
        · exact absurd (hbe.trans z) hb
        · rw [hbe]; exact z
      rw [q] at q'; cases q'
      obtain ⟨v,hv⟩:=heo
      exact ⟨v,by rw [hbe]; exact hv⟩
    · refine (ok b u q).stay (fun c v hc r=>k c v ?_ r) (fun c r=>by rw [ZT (nown c b r)]; exact r) fun c xs r=>by rw [ZT (ntup c xs r)]; exact r
      rcases hc with rfl | hc
      · exact hbe
      · rintro rfl
        rcases he with z | z
        · exact nown c b hc z
        · rw [hc] at z; cases z; exact hb rfl
end
structure Un (fs ex:List Addr) (H H':Hp) (h h':Heap):Prop where
  keep:∀b o,h.get? b=some o→H b=none→b∉fs→b∉ex→h'.get? b=some o
  slot:∀b o,h.get? b=some o→H b=none→b∈fs→b∉ex→∃sl,h'.get? b=some { o with slots:=sl }
  free:∀b o,h.get? b=some o→H b=none→b∉ex→H' b=none
  there:∀b o,h.get? b=some o→b∉ex→∃o',h'.get? b=some o'
  tups:∀b xs,H b=some (.tup xs)→H' b=some (.tup xs)
  frzs:∀b o u,H b=some (.frz o u)→H' b=some (.frz o u)
  tbls:∀b ps,H b=some (.tbl ps)→∃more,H' b=some (.tbl (ps++more))
section
variable {fs fs' ex ex':List Addr} {H H1 H2:Hp} {h h1 h2 h':Heap} {a x e:Addr} {o:HO}
theorem Un.any (u:Un fs ex H H1 h h1) {b:Addr} {ob:Obj} (q:h.get? b=some ob) (n:H b=none) (hx:b∉ex):∃sl,h1.get? b=some { ob with slots:=sl }:=by
  by_cases hb:b∈fs
  · exact u.slot b ob q n hb hx
  · exact ⟨ob.slots,u.keep b ob q n hb hx⟩
theorem Un.kept (k:∀b u,h.get? b=some u→h'.get? b=some u):Un fs ex H H h h':=
  ⟨fun b ob q _ _ _=>k b ob q,fun b ob q _ _ _=>⟨ob.slots,k b ob q⟩,fun _ _ _ n _=>n,fun b ob q _=>⟨ob,k b ob q⟩,fun _ _ q=>q,fun _ _ _ q=>q,fun _ ps q=>⟨#[],by rw [q]; simp⟩⟩
theorem Un.refl:Un fs ex H H h h:=Un.kept fun _ _ q=>q
theorem Un.laid (k:∀b u,h.get? b=some u→h'.get? b=some u) (hp:h.objs.size≤a) (hn:H a=none):Un fs ex H (upd H a o) h h' where
  keep:=fun b u q _ _ _=>k b u q
  slot:=fun b u q _ _ _=>⟨u.slots,k b u q⟩
  free:=fun b u q n _=>by rw [ZT (Nat.ne_of_lt (Nat.lt_of_lt_of_le (Heap.lt_size q) hp))]; exact n
  there:=fun b u q _=>⟨u,k b u q⟩
  tups:=fun b xs q=>by rw [ZT (zm q hn)]; exact q
  frzs:=fun b u xs q=>by rw [ZT (zm q hn)]; exact q
  tbls:=fun b ps q=>⟨#[],by rw [ZT (zm q hn),q]; simp⟩
theorem Un.write (mu:Mut (H x)) (he:e=x∨H e=some (.own x)) (k:∀b u,b≠e→h.get? b=some u→h'.get? b=some u) (heo:∃u,h'.get? e=some u):Un fs ex H (upd H x o) h h':=by
  have hx:∀b,H b=none→b≠x:=fun b n z=>by subst z; rw [n] at mu; exact mu
  have hb:∀b,H b=none→b≠e:=fun b n z=>by
    subst z
    rcases he with r | r
    · exact hx b n r
    · rw [n] at r; cases r
  have hm:∀b u,H b=some u→¬Mut (some u)→b≠x:=fun b u q nm z=>by subst z; rw [q] at mu; exact nm mu
  refine ⟨fun b u q n _ _=>k b u (hb b n) q,fun b u q n _ _=>⟨u.slots,k b u (hb b n) q⟩,fun b u q n _=>by rw [ZT (hx b n)]; exact n,fun b u q _=>?_,
    fun b xs q=>by rw [ZT (hm b _ q fun z=>z)]; exact q,fun b u xs q=>by rw [ZT (hm b _ q fun z=>z)]; exact q,fun b ps q=>⟨#[],by rw [ZT (hm b _ q fun z=>z),q]; simp⟩⟩
  by_cases hbe:b=e
  · subst hbe; exact heo
  · exact ⟨u,k b u hbe q⟩
end
def trk (h:Heap) (H:Hp):List Addr:=(List.range h.objs.size).filter fun a=>(H a).isSome
def ZeY (h:Heap) (H:Hp):Heap:=PySem.W.hideAll h (trk h H)
theorem ZhK (h:Heap) (H:Hp):(ZeY h H).objs.size=h.objs.size:=PySem.W.hideAll_size _ _
theorem Zjy {h:Heap} {H:Hp} {b:Addr} {o:Obj} (e:h.get? b=some o) (n:H b=none):(ZeY h H).get? b=some o:=
  PySem.W.hideAll_get _ e fun hm=>by
    have q:(H b).isSome=true:=(List.mem_filter.mp hm).2
    rw [n] at q; simp at q
theorem ZkG {h:Heap} {H:Hp} {b:Addr} {o:Obj} (e:(ZeY h H).get? b=some o):h.get? b=some o∧H b=none:=by
  have e':h.get? b=some o:=PySem.W.of_hideAll (trk h H) e
  refine ⟨e',?_⟩
  cases q:H b with
  | none=>rfl
  | some x=>
    have hm:b∈trk h H:=List.mem_filter.mpr ⟨List.mem_range.mpr (Heap.lt_size e'),by simp [q]⟩
    have z:(ZeY h H).get? b=none:=PySem.W.hideAll_none (trk h H) hm
    rw [z] at e; cases e
def Zk4 (g h:Heap) (L:Addr):List (Addr×Obj):=(List.range h.objs.size).filterMap fun a=>if a=L∨(g.get? a).isSome=true then none else (h.get? a).map fun o=>(a,o)
def rest (g h:Heap) (L d:Addr):List (Addr×Obj):=(Zk4 g h L).filter fun p=>decide (p.1≠d)
end L2
namespace L2
open PySem PySem.Spec PyProof.Rows
structure Mod (K:PySem.W.Frag) (mg:Str→Option Value) (base:Heap):Prop where
  kin:K.In base
  glob:base.Ns mainGlobals mg
  blt:∃mb,base.Ns builtinsNs mb∧∀x:Str,x≠"__name__"→mb x=bootBuiltins x
  nolimit:base.NoLimit
structure Cx where
  prog:Program
  w:World
  K:PySem.W.Frag
  mg:Str→Option Value
  base:Heap
  A:Around
  N:List Str
  s₀:Shared
  H₀:Hp
  env:Env
  outer:List Env
  stack:List Env
  ex:List Addr
  fn:Str→Bool
  calm:Bool
  pn:List (Addr×Obj)
  xe:Value→Shared→Prop
def frs (l:List Env):List Addr:=l.filterMap (·.frame)
abbrev Cx.fs (X:Cx):List Addr:=frs X.outer
def Vis (sc:Scope) (x:Str):Prop:=sc.names.lookup x=some .local∨sc.names.lookup x=some .cell∨sc.names.lookup x=some .free
def Loc (sc:Scope) (x:Str):Prop:=sc.names.lookup x=some .local∨sc.names.lookup x=some .cell
def Zqk (env:Env) (h:Heap) (m:Str→Option Value) (x:Str) (u:Value):Prop:=
  (env.kindOf x=some .local∧m x=some u)∨((env.kindOf x=some .cell∨env.kindOf x=some .free)∧∃c,env.cells.lookup x=some c∧h.IsCell c (some u))
structure Cx.Ok (X:Cx):Prop where
  mod:Mod X.K X.mg X.base
  kind:X.env.scope.kind=.function
  glob:X.env.globals=mainGlobals
  blt:X.env.builtins=builtinsNs
  above:X.s₀.heap.objs.size≤X.env.locals
  inj:∀x y c,X.env.cells.lookup x=some c→X.env.cells.lookup y=some c→x=y
  has:∀x,(X.env.kindOf x=some .cell∨X.env.kindOf x=some .free)→∃c,X.env.cells.lookup x=some c
  cab:∀x c,X.fn x=true→X.env.cells.lookup x=some c→X.s₀.heap.objs.size≤c
  hd:X.calm=true→X.A.handled=none
  frames:X.A.frames=some X.stack
  stk:X.stack=X.outer∨(X.stack=X.env::X.outer∧X.env.frame=some X.env.locals)
  exf:∀b∈X.ex,b≠X.env.locals∧∀x c,X.env.cells.lookup x=some c→c≠b
  bs:∀b o,X.base.get? b=some o→X.s₀.heap.get? b=some o∧X.H₀ b=none
  bsz:X.base.objs.size≤X.s₀.heap.objs.size
  noex:∀b o,X.base.get? b=some o→b∉X.ex
  exfs:∀b∈X.ex,b∉X.fs
  funs:X.s₀.heap.FunFrames X.base X.outer
  frf:∀b∈X.fs,X.H₀ b=none
structure Inv (X:Cx) (pins:List (Addr×Obj)) (σ:List (Option V)) (H:Hp) (s:Shared):Prop where
  ok:X.Ok
  os:s.os=X.s₀.os
  bare:AllBare s.gens
  base:Un X.fs X.ex X.H₀ H X.s₀.heap s.heap
  loc:∃m,s.heap.Ns X.env.locals m∧∀(i:Nat) (x:Str) (v:V),X.N[i]?=some x→σ[i]?=some (some v)→Vis X.env.scope x→∃u,RelV v u∧Zqk X.env s.heap m x u
  cell:∀x c,X.env.cells.lookup x=some c→∃v,s.heap.IsCell c v
  free:H X.env.locals=none
  freeC:∀x c,X.env.cells.lookup x=some c→H c=none
  pin:∀p∈X.pn++pins,s.heap.get? p.1=some p.2∧H p.1=none∧p.1≠X.env.locals∧p.1∉X.fs∧∀v,p.2.data≠.cell v
  hok:HOk X.prog X.w H s.heap
  len:σ.length=X.N.length
section
variable {X:Cx} {pins:List (Addr×Obj)} {σ:List (Option V)} {H H':Hp} {s:Shared} {h':Heap}
theorem Cx.Ok.nofr (ok:X.Ok) {b:Addr} {o:Obj} (e:X.base.get? b=some o):b∉X.fs:=fun hb=>by
  have:=(ok.funs.mem hb).1
  rw [e] at this; cases this
theorem Inv.bs (I:Inv X pins σ H s):∀b o,X.base.get? b=some o→s.heap.get? b=some o∧H b=none:=fun b o e=>
  ⟨I.base.keep b o (I.ok.bs b o e).1 (I.ok.bs b o e).2 (I.ok.nofr e) (I.ok.noex b o e),I.base.free b o (I.ok.bs b o e).1 (I.ok.bs b o e).2 (I.ok.noex b o e)⟩
theorem Inv.bk (I:Inv X pins σ H s):∀b o,X.base.get? b=some o→s.heap.get? b=some o:=fun b o e=>(I.bs b o e).1
theorem Inv.mod (I:Inv X pins σ H s):Mod X.K X.mg X.base:=I.ok.mod
theorem Inv.kIn (I:Inv X pins σ H s):X.K.In s.heap:=I.ok.mod.kin.keeps I.bk
theorem Inv.lt (I:Inv X pins σ H s):X.env.locals<s.heap.objs.size:=let ⟨_,hn,_⟩:=I.loc; hn.lt
theorem Inv.sz (I:Inv X pins σ H s):X.s₀.heap.objs.size≤s.heap.objs.size:=Nat.le_trans I.ok.above (Nat.le_of_lt I.lt)
theorem Inv.nofs (I:Inv X pins σ H s) {a:Addr} (h:s.heap.objs.size≤a):a∉X.fs:=fun hb=>by
  obtain ⟨_,o,ho,_⟩:=I.ok.funs.mem hb
  exact absurd (Nat.lt_of_lt_of_le (Heap.lt_size ho) (Nat.le_trans I.sz h)) (Nat.lt_irrefl _)
theorem Inv.cne (I:Inv X pins σ H s):∀x c,X.env.cells.lookup x=some c→c≠X.env.locals:=fun x c e z=>by
  obtain ⟨v,o,ho,hd⟩:=I.cell x c e
  obtain ⟨m,⟨o',es,ep,ho',hd',_⟩,_⟩:=I.loc
  rw [z,ho'] at ho; cases ho; rw [hd'] at hd; cases hd
theorem Inv.funs (I:Inv X pins σ H s):s.heap.FunFrames X.base X.outer:=by
  have all:∀(l:List Env),(∀b∈frs l,b∈X.fs)→X.s₀.heap.FunFrames X.base l→s.heap.FunFrames X.base l:=by
    intro l
    induction l with
    | nil=>intro _ _; trivial
    | cons env r ih=>
      intro hs hl
      obtain ⟨hk,⟨L,o,hf,hn,ho,hd⟩,hr⟩:=hl
      have hL:L∈X.fs:=hs L (by unfold frs; rw [List.filterMap_cons,hf]; exact List.mem_cons_self)
      obtain ⟨sl,e⟩:=I.base.slot L o ho (I.ok.frf L hL) hL fun z=>I.ok.exfs L z hL
      exact ⟨hk,⟨L,_,hf,hn,e,hd⟩,ih (fun b hb=>hs b (by unfold frs; rw [List.filterMap_cons,hf]; exact List.mem_cons_of_mem _ hb)) hr⟩
  exact all X.outer (fun _ hb=>hb) I.ok.funs
theorem Inv.stack (I:Inv X pins σ H s):s.heap.FunFrames X.base X.stack:=by
  rcases I.ok.stk with e | ⟨e,hf⟩
  · rw [e]; exact I.funs
  · rw [e]
    obtain ⟨m,hn,_⟩:=I.loc
    refine .cons (by rw [I.ok.kind]; decide) hf hn ?_ I.funs
    exact Heap.get?_none_of_le (Nat.le_trans I.ok.bsz I.ok.above)
theorem Inv.stkSub (I:Inv X pins σ H s):∀b∈frs X.stack,b∈X.env.locals::X.fs:=fun b hb=>by
  rcases I.ok.stk with e | ⟨e,hf⟩
  · rw [e] at hb; exact List.mem_cons_of_mem _ hb
  · rw [e] at hb
    unfold frs at hb
    rw [List.filterMap_cons,hf] at hb
    exact hb
theorem Inv.stkFree (I:Inv X pins σ H s):∀b∈frs X.stack,H b=none:=fun b hb=>by
  rcases List.mem_cons.mp (I.stkSub b hb) with e | hb
  · rw [e]; exact I.free
  · obtain ⟨_,o,ho,_⟩:=I.ok.funs.mem hb
    exact I.base.free b o ho (I.ok.frf b hb) fun z=>I.ok.exfs b z hb
theorem Inv.step {g':Array GenState} {t':Nat} {d':Drawn} {ch:List Addr} (I:Inv X pins σ H s)
    (hch:∀b∈ch,(b∈X.ex∨X.s₀.heap.objs.size≤b)∧b≠X.env.locals∧(∀x c,X.env.cells.lookup x=some c→c≠b)∧∀p∈X.pn++pins,p.1≠b)
    (keep:∀b o,b≠X.env.locals→b∉X.fs→b∉ch→s.heap.get? b=some o→H b=none→h'.get? b=some o)
    (slot:∀b o,b≠X.env.locals→b∈X.fs→b∉ch→s.heap.get? b=some o→H b=none→∃sl,h'.get? b=some { o with slots:=sl }) (free:∀b o,b∉ch→s.heap.get? b=some o→H b=none→H' b=none)
    (there:∀b o,b∉ch→s.heap.get? b=some o→∃o',h'.get? b=some o')
    (tups:∀b xs,H b=some (.tup xs)→H' b=some (.tup xs)) (frzs:∀b o u,H b=some (.frz o u)→H' b=some (.frz o u)) (tbls:∀b ps,H b=some (.tbl ps)→∃more,H' b=some (.tbl (ps++more)))
    (ns:∀m,s.heap.Ns X.env.locals m→h'.Ns X.env.locals m) (hok:HOk X.prog X.w H' h') (hg:AllBare g') :
    Inv X pins σ H' { s with heap:=h',gens:=g',drawn:=d',toks:=t' }:=by
  have neL:∀b o,X.s₀.heap.get? b=some o→b≠X.env.locals:=fun b o e=>Nat.ne_of_lt (Nat.lt_of_lt_of_le (Heap.lt_size e) I.ok.above)
  have neC:∀b o,X.s₀.heap.get? b=some o→b∉X.ex→b∉ch:=fun b o e hx hb=>by
    rcases (hch b hb).1 with z | z
    · exact hx z
    · exact absurd (Nat.lt_of_lt_of_le (Heap.lt_size e) z) (Nat.lt_irrefl _)
  have cellK:∀x c,X.env.cells.lookup x=some c→∀v,s.heap.IsCell c v→h'.IsCell c v:=fun x c e v ⟨o,ho,hd⟩=>by
    have nch:c∉ch:=fun z=>(hch c z).2.2.1 x c e rfl
    by_cases hc:c∈X.fs
    · obtain ⟨sl,q⟩:=slot c o (I.cne x c e) hc nch ho (I.freeC x c e)
      exact ⟨_,q,hd⟩
    · exact ⟨o,keep c o (I.cne x c e) hc nch ho (I.freeC x c e),hd⟩
  refine ⟨I.ok,I.os,hg,⟨fun b o e n hb hx=>?_,fun b o e n hb hx=>?_,fun b o e n hx=>?_,fun b o e hx=>?_,fun b xs e=>tups b xs (I.base.tups b xs e),fun b o xs e=>frzs b o xs (I.base.frzs b o xs e),fun b ps e=>?_⟩,?_,fun x c e=>?_,?_,fun x c e=>?_,fun p hp=>?_,hok,I.len⟩
  · exact keep b o (neL b o e) hb (neC b o e hx) (I.base.keep b o e n hb hx) (I.base.free b o e n hx)
  · obtain ⟨sl,e1⟩:=I.base.slot b o e n hb hx
    obtain ⟨sl',e2⟩:=slot b _ (neL b o e) hb (neC b o e hx) e1 (I.base.free b o e n hx)
    exact ⟨sl',e2⟩
  · obtain ⟨o',e1⟩:=I.base.there b o e hx
    exact free b o' (neC b o e hx) e1 (I.base.free b o e n hx)
  · obtain ⟨o',e1⟩:=I.base.there b o e hx
    exact there b o' (neC b o e hx) e1
  · obtain ⟨m1,e1⟩:=I.base.tbls b ps e
    obtain ⟨m2,e2⟩:=tbls b _ e1
    exact ⟨m1++m2,by rw [e2,Array.append_assoc]⟩
  · obtain ⟨m,hn,hl⟩:=I.loc
    refine ⟨m,ns m hn,fun i x v e1 e2 e3=>?_⟩
    obtain ⟨u,r,l⟩:=hl i x v e1 e2 e3
    refine ⟨u,r,?_⟩
    rcases l with l | ⟨k,c,e,z⟩
    · exact .inl l
    · exact .inr ⟨k,c,e,cellK x c e _ z⟩
  · obtain ⟨v,z⟩:=I.cell x c e
    exact ⟨v,cellK x c e v z⟩
  · obtain ⟨m,⟨o,_,_,ho,_⟩,_⟩:=I.loc
    exact free _ o (fun z=>(hch _ z).2.1 rfl) ho I.free
  · obtain ⟨v,o,ho,hd⟩:=I.cell x c e
    exact free c o (fun z=>(hch c z).2.2.1 x c e rfl) ho (I.freeC x c e)
  · obtain ⟨e,n,ne,nf,d⟩:=I.pin p hp
    have nch:p.1∉ch:=fun z=>(hch p.1 z).2.2.2 p hp rfl
    exact ⟨keep p.1 p.2 ne nf nch e n,free p.1 p.2 nch e n,ne,nf,d⟩
theorem Inv.un {t':Nat} (I:Inv X pins σ H s) (u:Un X.fs [] H H' s.heap h') (hok:HOk X.prog X.w H' h'):Inv X pins σ H' { s with heap:=h',toks:=t' }:=by
  obtain ⟨m,⟨o,es,ep,ho,r⟩,_⟩:=id I.loc
  obtain ⟨sl,hL⟩:=u.any ho I.free (by simp)
  exact I.step (g':=s.gens) (d':=s.drawn) (ch:=[]) (fun _ z=>nomatch z) (fun b o _ hb _ e n=>u.keep b o e n hb (by simp)) (fun b o _ hb _ e n=>u.slot b o e n hb (by simp)) (fun b o _ e n=>u.free b o e n (by simp)) (fun b o _ e=>u.there b o e (by simp)) u.tups u.frzs u.tbls (fun m' hm=>by
    obtain ⟨o',es',ep',ho',r'⟩:=hm
    rw [ho] at ho'; cases ho'
    exact ⟨_,es',ep',hL,r'⟩) hok I.bare
theorem Inv.call {g':Array GenState} {t':Nat} {d':Drawn} {ch:List Addr} (I:Inv X pins σ H s) (u:Un (frs X.stack) ch H H' s.heap h') (hok:HOk X.prog X.w H' h') (hg:AllBare g')
    (hch:∀b∈ch,(b∈X.ex∨X.s₀.heap.objs.size≤b)∧b≠X.env.locals∧(∀x c,X.env.cells.lookup x=some c→c≠b)∧∀p∈X.pn++pins,p.1≠b) :
    Inv X pins σ H' { s with heap:=h',gens:=g',drawn:=d',toks:=t' }:=by
  obtain ⟨m,⟨o,es,ep,ho,r⟩,_⟩:=id I.loc
  obtain ⟨sl,hL⟩:=u.any ho I.free fun z=>(hch _ z).2.1 rfl
  exact I.step (ch:=ch) hch (fun b o hL hb hc e n=>u.keep b o e n (fun z=>(List.mem_cons.mp (I.stkSub b z)).elim hL hb) hc) (fun b o _ _ hc e n=>u.any e n hc) (fun b o hc e n=>u.free b o e n hc) (fun b o hc e=>u.there b o e hc) u.tups u.frzs u.tbls (fun m' hm=>by
    obtain ⟨o',es',ep',ho',r'⟩:=hm
    rw [ho] at ho'; cases ho'
    exact ⟨_,es',ep',hL,r'⟩) hok hg
theorem Inv.turned {t':Nat} {it:Addr} (I:Inv X pins σ H s) (k:∀b o,b≠it→s.heap.get? b=some o→h'.get? b=some o) (hn:H it=none) (hL:it≠X.env.locals)
    (h1:it∈X.ex∨X.s₀.heap.objs.size≤it) (h2:∀x c,X.env.cells.lookup x=some c→c≠it) (h3:∀p∈X.pn++pins,p.1≠it):Inv X pins σ H { s with heap:=h',toks:=t' }:=by
  have nit:∀b u,H b=some u→b≠it:=fun b u e z=>by rw [z,hn] at e; cases e
  refine I.step (g':=s.gens) (d':=s.drawn) (ch:=[it]) (fun b hb=>?_) (fun b o _ _ hc e _=>k b o (fun z=>hc (by simp [z])) e) (fun b o _ _ hc e _=>⟨o.slots,k b o (fun z=>hc (by simp [z])) e⟩) (fun _ _ _ _ n=>n)
    (fun b o hc e=>⟨o,k b o (fun z=>hc (by simp [z])) e⟩) (fun _ _ e=>e) (fun _ _ _ e=>e) (fun b ps e=>⟨#[],by rw [e]; simp⟩) (fun m hm=>?_) (fun b u e=>?_) I.bare
  · have e:b=it:=by simpa using hb
    subst e
    exact ⟨h1,hL,h2,h3⟩
  · obtain ⟨o,es,ep,ho,r⟩:=hm
    exact ⟨o,es,ep,k _ o (Ne.symm hL) ho,r⟩
  · refine (I.hok b u e).stay (fun c v hc q=>k c v ?_ q) (fun _ q=>q) fun _ _ q=>q
    rcases hc with z | z
    · rw [z]; exact nit b u e
    · exact nit c _ z
theorem Inv.tok (I:Inv X pins σ H s) (t:Nat):Inv X pins σ H { s with toks:=t }:=I.un (h':=s.heap) (t':=t) Un.refl I.hok
theorem Inv.kept {t':Nat} (I:Inv X pins σ H s) (k:∀b u,s.heap.get? b=some u→h'.get? b=some u):Inv X pins σ H { s with heap:=h',toks:=t' }:=I.un (Un.kept k) (I.hok.kept k)
theorem Inv.laid {a:Addr} {o:HO} {t':Nat} (I:Inv X pins σ H s) (k:∀b u,s.heap.get? b=some u→h'.get? b=some u) (hp:s.heap.objs.size≤a) (new:ObjOk X.prog X.w (upd H a o) h' a o) :
    Inv X pins σ (upd H a o) { s with heap:=h',toks:=t' }:=I.un (Un.laid k hp (I.hok.fresh hp)) (I.hok.laid k hp new)
theorem Inv.write {x e:Addr} {o:HO} {t':Nat} (I:Inv X pins σ H s) (mu:Mut (H x)) (he:e=x∨H e=some (.own x)) (k:∀b u,b≠e→s.heap.get? b=some u→h'.get? b=some u) (heo:∃u,h'.get? e=some u)
    (new:ObjOk X.prog X.w (upd H x o) h' x o):Inv X pins σ (upd H x o) { s with heap:=h',toks:=t' }:=I.un (Un.write mu he k heo) (I.hok.write mu he k heo new)
theorem Inv.pins_of {pins':List (Addr×Obj)} (I:Inv X pins σ H s) (h:∀p∈pins',s.heap.get? p.1=some p.2∧H p.1=none∧p.1≠X.env.locals∧p.1∉X.fs∧∀v,p.2.data≠.cell v):Inv X pins' σ H s:=
  ⟨I.ok,I.os,I.bare,I.base,I.loc,I.cell,I.free,I.freeC,fun p hp=>(List.mem_append.mp hp).elim (fun z=>I.pin p (List.mem_append_left _ z)) (h p),I.hok,I.len⟩
theorem ZfY {N:List Str} (hN:N.Nodup) {i j:Nat} {x:Str} (a:N[i]?=some x) (b:N[j]?=some x):i=j:=by
  obtain ⟨h1,e1⟩:=List.getElem?_eq_some_iff.mp a
  obtain ⟨h2,e2⟩:=List.getElem?_eq_some_iff.mp b
  exact (List.getElem_inj hN).mp (e1.trans e2.symm)
theorem Zhr {M:Model} {A:Around} {E:Value→Shared→Prop} {i:Nat} {x:Str} {v:V} {u:Value} {Q:Unit→Shared→Prop} (I:Inv X pins σ H s) (hN:X.N.Nodup) (hi:X.N[i]?=some x) (hx:Loc X.env.scope x) (r:RelV v u)
    (h:∀s',Inv X pins (σ.set i (some v)) H s'→(∃a,Heap.SameBut a s.heap s'.heap∧(a=X.env.locals∨X.env.cells.lookup x=some a))→Q () s') (hf:X.fn x=true∨X.env.scope.names.lookup x=some .local:=by first | exact .inl rfl | exact .inr rfl | assumption):wpAny M A (storeName X.env x u) Q E s:=by
  obtain ⟨m,hn,hl⟩:=id I.loc
  have hcls:(X.env.scope.kind == .class || (X.env.scope.kind == .module && X.env.locals != X.env.globals))=false:=by rw [I.ok.kind]; rfl
  have hiσ:i < σ.length:=by rw [I.len]; exact (List.getElem?_eq_some_iff.mp hi).1
  have cne:=I.cne
  have tracked:∀{a:Addr} {h':Heap},(∃o,s.heap.get? a=some o∧H a=none)→Heap.SameBut a s.heap h'→HOk X.prog X.w H h':=fun {a h'} ha hs b ob e=>by
    obtain ⟨_,_,hfree⟩:=ha
    refine (I.hok b ob e).stay (fun c w' hc q=>(hs.2 c ?_).trans q) (fun _ q=>q) fun _ _ q=>q
    rintro rfl
    rcases hc with rfl | hc
    · rw [hfree] at e; cases e
    · rw [hfree] at hc; cases hc
  rcases hx with hk | hk
  · refine wpAny_storeName_local hk hn (fun h' hn' hs=>?_) hcls
    obtain ⟨oL,_,_,hoL,_⟩:=id hn
    refine h _ ⟨I.ok,I.os,I.bare,⟨fun b o e n hb hx=>?_,fun b o e n hb hx=>?_,I.base.free,fun b o e hx=>?_,I.base.tups,I.base.frzs,I.base.tbls⟩,⟨_,hn',fun j y v' e1 e2 e3=>?_⟩,fun y c e=>?_,I.free,I.freeC,fun p hp=>?_,tracked ⟨oL,hoL,I.free⟩ hs,by simpa using I.len⟩ ⟨_,hs,.inl rfl⟩
    · exact (hs.2 b (Nat.ne_of_lt (Nat.lt_of_lt_of_le (Heap.lt_size e) I.ok.above))).trans (I.base.keep b o e n hb hx)
    · obtain ⟨sl,e1⟩:=I.base.slot b o e n hb hx
      exact ⟨sl,(hs.2 b (Nat.ne_of_lt (Nat.lt_of_lt_of_le (Heap.lt_size e) I.ok.above))).trans e1⟩
    · obtain ⟨o',e1⟩:=I.base.there b o e hx
      exact ⟨o',(hs.2 b (Nat.ne_of_lt (Nat.lt_of_lt_of_le (Heap.lt_size e) I.ok.above))).trans e1⟩
    · by_cases hj:j=i
      · subst hj
        rw [hi] at e1; cases e1
        rw [List.getElem?_set_self hiσ] at e2
        cases e2
        exact ⟨u,r,.inl ⟨hk,by simp⟩⟩
      · rw [List.getElem?_set_ne (Ne.symm hj)] at e2
        obtain ⟨u',r',q⟩:=hl j y v' e1 e2 e3
        refine ⟨u',r',?_⟩
        rcases q with ⟨k,e⟩ | ⟨k,c,e,z⟩
        · refine .inl ⟨k,?_⟩
          have:y≠x:=fun e=>hj (ZfY hN e1 (e ▸ hi))
          simp [this,e]
        · exact .inr ⟨k,c,e,z.sameBut hs (cne y c e)⟩
    · obtain ⟨w',z⟩:=I.cell y c e
      exact ⟨w',z.sameBut hs (cne y c e)⟩
    · obtain ⟨e,n,ne,nf,d⟩:=I.pin p hp
      exact ⟨(hs.2 p.1 ne).trans e,n,ne,nf,d⟩
  · have hfn:X.fn x=true:=by
      rcases hf with z | z
      · exact z
      · rw [z] at hk; cases hk
    obtain ⟨c,hc⟩:=I.ok.has x (.inl hk)
    obtain ⟨w',z⟩:=I.cell x c hc
    refine wpAny_storeName_cell I.ok.kind hk hc z (fun h' hc' hs=>?_)
    obtain ⟨oc,hoc,hocd⟩:=id z
    refine h { s with heap:=h' } ⟨I.ok,I.os,I.bare,⟨fun b o e n hb hx=>?_,fun b o e n hb hx=>?_,I.base.free,fun b o e hx=>?_,I.base.tups,I.base.frzs,I.base.tbls⟩,⟨m,hn.sameBut hs (Ne.symm (cne x c hc)),fun j y v' e1 e2 e3=>?_⟩,fun y c' e=>?_,I.free,I.freeC,fun p hp=>?_,tracked ⟨oc,hoc,I.freeC x c hc⟩ hs,by simpa using I.len⟩ ⟨c,hs,.inr hc⟩
    · exact (hs.2 b (Nat.ne_of_lt (Nat.lt_of_lt_of_le (Heap.lt_size e) (I.ok.cab x c hfn hc)))).trans (I.base.keep b o e n hb hx)
    · obtain ⟨sl,e1⟩:=I.base.slot b o e n hb hx
      exact ⟨sl,(hs.2 b (Nat.ne_of_lt (Nat.lt_of_lt_of_le (Heap.lt_size e) (I.ok.cab x c hfn hc)))).trans e1⟩
    · obtain ⟨o',e1⟩:=I.base.there b o e hx
      exact ⟨o',(hs.2 b (Nat.ne_of_lt (Nat.lt_of_lt_of_le (Heap.lt_size e) (I.ok.cab x c hfn hc)))).trans e1⟩
    · by_cases hj:j=i
      · subst hj
        rw [hi] at e1; cases e1
        rw [List.getElem?_set_self hiσ] at e2
        cases e2
        exact ⟨u,r,.inr ⟨.inl hk,c,hc,hc'⟩⟩
      · rw [List.getElem?_set_ne (Ne.symm hj)] at e2
        obtain ⟨u',r',q⟩:=hl j y v' e1 e2 e3
        refine ⟨u',r',?_⟩
        rcases q with q | ⟨k,c',e,z'⟩
        · exact .inl q
        · refine .inr ⟨k,c',e,z'.sameBut hs ?_⟩
          rintro rfl
          exact hj (ZfY hN e1 (I.ok.inj _ _ _ e hc ▸ hi))
    · by_cases hcc:c'=c
      · subst hcc; exact ⟨_,hc'⟩
      · obtain ⟨w2,z2⟩:=I.cell y c' e
        exact ⟨w2,z2.sameBut hs hcc⟩
    · obtain ⟨e,n,ne,nf,d⟩:=I.pin p hp
      refine ⟨(hs.2 p.1 ?_).trans e,n,ne,nf,d⟩
      intro q
      rw [q,hoc] at e
      have q':oc=p.2:=Option.some.inj e
      exact d w' (by rw [←q']; exact hocd)
theorem ZfN {M:Model} {A:Around} {E:Value→Shared→Prop} {i:Nat} {x:Str} {v:V} {u:Value} {Q:Unit→Shared→Prop} (I:Inv X pins σ H s) (hN:X.N.Nodup) (hi:X.N[i]?=some x) (hx:Loc X.env.scope x) (r:RelV v u)
    (h:∀s',Inv X pins (σ.set i (some v)) H s'→Q () s') (hf:X.fn x=true∨X.env.scope.names.lookup x=some .local:=by first | exact .inl rfl | exact .inr rfl | assumption):wpAny M A (storeName X.env x u) Q E s:=
  Zhr I hN hi hx r (fun s' I' _=>h s' I') hf
end
abbrev XK:=Value→Option Addr→Hp→Prop
abbrev St:=List (Option V)
abbrev VK:=V→Hp→Prop
abbrev TE:=St→Hp→VK→Prop
abbrev TT:=St→Hp→(Bool→Hp→Prop)→Prop
abbrev TA:=St→Hp→(List V→Hp→Prop)→Prop
structure Zcc where
  nx:St→Hp→Prop
  rt:VK
  bk:St→Hp→Prop:=fun _ _=>False
  ct:St→Hp→Prop:=fun _ _=>False
abbrev TS:=Zcc→St→Hp→Prop
def EP (X:Cx) (pins:List (Addr×Obj)) (σ:St) (Q:VK) (u:Value) (s':Shared):Prop:=∃v H',Inv X pins σ H' s'∧RelV v u∧Q v H'
def TP (X:Cx) (pins:List (Addr×Obj)) (σ:St) (Q:Bool→Hp→Prop) (b:Bool) (s':Shared):Prop:=∃H',Inv X pins σ H' s'∧Q b H'
def AP (X:Cx) (pins:List (Addr×Obj)) (σ:St) (Q:List V→Hp→Prop) (us:List Value) (s':Shared):Prop:=∃vs H',Inv X pins σ H' s'∧Vals vs us∧Q vs H'
def SP (X:Cx) (pins:List (Addr×Obj)) (D:Zcc) (f:Flow) (s':Shared):Prop:=
  match f with
  | .next=>∃σ' H',Inv X pins σ' H' s'∧D.nx σ' H'
  | .brk=>∃σ' H',Inv X pins σ' H' s'∧D.bk σ' H'
  | .cont=>∃σ' H',Inv X pins σ' H' s'∧D.ct σ' H'
  | .ret u=>∃v σ' H',Inv X pins σ' H' s'∧RelV v u∧D.rt v H'
def PE (X:Cx) (e:Expr) (t:TE):Prop:=
  ∀(pins:List (Addr×Obj)) (s:Shared) (σ:St) (H:Hp) (Q:VK),Inv X pins σ H s→t σ H Q→wpAny (model X.prog X.w) X.A (eval e X.env) (EP X pins σ Q) X.xe s
def PT (X:Cx) (e:Expr) (t:TT):Prop:=
  ∀(pins:List (Addr×Obj)) (s:Shared) (σ:St) (H:Hp) (Q:Bool→Hp→Prop),Inv X pins σ H s→t σ H Q→wpAny (model X.prog X.w) X.A (isTrue e X.env (eval e X.env)) (TP X pins σ Q) X.xe s
def PW (X:Cx) (e:Expr) (t:TT):Prop:=
  ∀(whole:Sem Value) (pins:List (Addr×Obj)) (s:Shared) (σ:St) (H:Hp) (Q:Bool→Hp→Prop),Inv X pins σ H s→t σ H Q→wpAny (model X.prog X.w) X.A (isTrue e X.env whole) (TP X pins σ Q) X.xe s
theorem PW.pt {X:Cx} {e:Expr} {t:TT} (h:PW X e t):PT X e t:=h _
def PA (X:Cx) (es:List Expr) (t:TA):Prop:=
  ∀(pos:Pos) (pins:List (Addr×Obj)) (s:Shared) (σ:St) (H:Hp) (Q:List V→Hp→Prop),Inv X pins σ H s→t σ H Q→wpAny (model X.prog X.w) X.A (spliced (backTo pos (starEach es X.env))) (AP X pins σ Q) X.xe s
def PS (X:Cx) (st:Stmt) (t:TS):Prop:=
  ∀(pins:List (Addr×Obj)) (s:Shared) (σ:St) (H:Hp) (D:Zcc),Inv X pins σ H s→t D σ H→wpAny (model X.prog X.w) X.A (exec st X.env) (SP X pins D) X.xe s
def PSs (X:Cx) (st:List Stmt) (t:TS):Prop:=
  ∀(pins:List (Addr×Obj)) (s:Shared) (σ:St) (H:Hp) (D:Zcc),Inv X pins σ H s→t D σ H→wpAny (model X.prog X.w) X.A (execs st X.env) (SP X pins D) X.xe s
theorem thn {α:Type} {t:Sem α} {Q Q':α→Shared→Prop} {M:Model} {A:Around} {E:Value→Shared→Prop} {s:Shared} (h:wpAny M A t Q E s) (hQ:∀a s,Q a s→Q' a s):wpAny M A t Q' E s:=wpAny_mono h hQ fun _ _ x=>x
end L2
namespace L2
open PySem PySem.Spec PyProof.Rows
section
variable {X:Cx}
theorem bin {a b:Expr} {ta tb:TE} (ha:PE X a ta) (hb:PE X b tb) {pins:List (Addr×Obj)} {s:Shared} {σ:St} {H:Hp} {R:V→V→Hp→Prop} (I:Inv X pins σ H s) (h:ta σ H fun x H1=>tb σ H1 fun y H2=>R x y H2)
    {α:Type} {Q:α→Shared→Prop} {f:Value→Value→Sem α}
    (hf:∀v u s2 x y H2,Inv X pins σ H2 s2→RelV x v→RelV y u→R x y H2→wpAny (model X.prog X.w) X.A (f v u) Q X.xe s2) :
    wpAny (model X.prog X.w) X.A (eval a X.env) (fun v s₁=>wpAny (model X.prog X.w) X.A (eval b X.env) (fun u s₂=>wpAny (model X.prog X.w) X.A (f v u) Q X.xe s₂) X.xe s₁) X.xe s:=by
  refine thn (ha pins s σ H _ I h) fun v s1 ⟨x,H1,I1,r1,q1⟩=>?_
  refine thn (hb pins s1 σ H1 _ I1 q1) fun u s2 ⟨y,H2,I2,r2,q2⟩=>?_
  exact hf v u s2 x y H2 I2 r1 r2 q2
def Zpz (i:Nat):TE:=fun σ H Q=>∃v,σ[i]?=some (some v)∧Q v H
def tC (v:V):TE:=fun _ H Q=>Q v H
theorem ZiY {i:Nat} {x:Str} {pos:Pos} (hN:X.N[i]?=some x) (hv:Vis X.env.scope x) (hd:(x == ("__debug__":Str))=false:=by decide) (hcd:(x == ("__classdict__":Str))=false:=by decide):PE X (.Name x pos) (Zpz i):=by
  intro pins s σ H Q I h
  obtain ⟨v,e,h⟩:=h
  obtain ⟨m,hn,hl⟩:=I.loc
  obtain ⟨u,r,l⟩:=hl i x v hN e hv
  have fin:EP X pins σ Q u s:=⟨v,H,I,r,h⟩
  rcases l with ⟨hk,hm⟩ | ⟨hk,c,hc,hcell⟩
  · exact wpAny_Name (wpAny_loadName_local I.ok.kind hk hn hm fin) hd
  · rcases hk with hk | hk
    · exact wpAny_Name (wpAny_loadName_cell I.ok.kind hk hc hcell fin) hd
    · exact wpAny_Name (wpAny_loadName_free I.ok.kind hk hc hcell fin hcd) hd
theorem Zmi {i j pos}:PE X (.Constant (.int i) j pos) (tC (.int i)):=fun _ _ _ H _ I h=>wpAny_Constant_int ⟨.int i,H,I.tok _,⟨_,rfl⟩,h⟩
theorem ZnL {b j pos}:PE X (.Constant (.bool b) j pos) (tC (.bl b)):=fun _ _ _ H _ I h=>Constant_bool ⟨.bl b,H,I,rfl,h⟩
theorem Zmh {j pos}:PE X (.Constant .none j pos) (tC .non):=fun _ _ _ H _ I h=>Constant_none ⟨.non,H,I,rfl,h⟩
def Gl (X:Cx) (x:Str):Prop:=X.env.kindOf x=some .globalImplicit
theorem Zdk {E:Value→Shared→Prop} {pins:List (Addr×Obj)} {s:Shared} {σ:St} {H:Hp} {x:Str} {u:Value} {pos:Pos} {Q:Value→Shared→Prop} (I:Inv X pins σ H s) (hg:Gl X x) (hm:X.mg x=some u) (h:Q u s)
    (hd:(x == ("__debug__":Str))=false:=by decide):wpAny (model X.prog X.w) X.A (eval (.Name x pos) X.env) Q E s:=
  Calls.Name_function_global I.ok.kind hg (Calls.loadGlobal_global (by rw [I.ok.glob]; exact I.mod.glob.keeps I.bk) hm h) hd
theorem Zgx {E:Value→Shared→Prop} {pins:List (Addr×Obj)} {s:Shared} {σ:St} {H:Hp} {x:Str} {u:Value} {pos:Pos} {Q:Value→Shared→Prop} (I:Inv X pins σ H s) (hg:Gl X x) (hm:X.mg x=none) (hv:bootBuiltins x=some u) (h:Q u s)
    (hn:x≠"__name__":=by decide) (hd:(x == ("__debug__":Str))=false:=by decide):wpAny (model X.prog X.w) X.A (eval (.Name x pos) X.env) Q E s:=by
  obtain ⟨mb,h1,h2⟩:=I.mod.blt
  exact Calls.Name_function_global I.ok.kind hg (Calls.loadGlobal_builtin (by rw [I.ok.glob]; exact I.mod.glob.keeps I.bk) hm (by rw [I.ok.blt]; exact h1.keeps I.bk) ((h2 x hn).trans hv) h) hd
theorem ZgT {x:Str} {v:V} {u:Value} {pos:Pos} (hg:Gl X x) (hm:X.mg x=some u) (r:RelV v u) (hd:(x == ("__debug__":Str))=false:=by decide):PE X (.Name x pos) (tC v):=
  fun _ _ _ H _ I h=>Zdk I hg hm ⟨v,H,I,r,h⟩ hd
variable {a b:Expr} {ta tb:TE} {pos:Pos}
variable {tA tB':TT} {rest:List Expr}
def ZpL (t u:TT):TT:=fun σ H Q=>t σ H fun c H1=>if c=true then u σ H1 Q else Q false H1
def tOr (t u:TT):TT:=fun σ H Q=>t σ H fun c H1=>if c=true then Q true H1 else u σ H1 Q
def ZpF (t:TT):TT:=fun σ H Q=>t σ H fun c H1=>Q (!c) H1
theorem Zko (ha:PT X a tA):PW X (.BoolOp .And [a] pos) tA:=by
  intro wh pins s σ H Q I h
  refine isTrue_and (thn (ha pins s σ H Q I h) fun c s1 e=>?_)
  cases c with
  | true=>exact isTrue_and_nil e
  | false=>exact e
theorem Zl5 (ha:PT X a tA):PW X (.BoolOp .Or [a] pos) tA:=by
  intro wh pins s σ H Q I h
  refine isTrue_or (thn (ha pins s σ H Q I h) fun c s1 e=>?_)
  cases c with
  | false=>exact isTrue_or_nil e
  | true=>exact e
theorem Zl6 (ha:PT X a tA) (hb:PW X (.BoolOp .And (b::rest) pos) tB'):PW X (.BoolOp .And (a::b::rest) pos) (ZpL tA tB'):=by
  intro wh pins s σ H Q I h
  refine isTrue_and (thn (ha pins s σ H _ I h) fun c s1 ⟨H1,I1,q1⟩=>?_)
  cases c with
  | true=>exact hb wh pins s1 σ H1 Q I1 q1
  | false=>exact ⟨H1,I1,q1⟩
theorem ZnF (ha:PT X a tA) (hb:PW X (.BoolOp .Or (b::rest) pos) tB'):PW X (.BoolOp .Or (a::b::rest) pos) (tOr tA tB'):=by
  intro wh pins s σ H Q I h
  refine isTrue_or (thn (ha pins s σ H _ I h) fun c s1 ⟨H1,I1,q1⟩=>?_)
  cases c with
  | true=>exact ⟨H1,I1,q1⟩
  | false=>exact hb wh pins s1 σ H1 Q I1 q1
theorem Zl8 (ha:PT X a tA):PT X (.UnaryOp .Not a pos) (ZpF tA):=by
  intro pins s σ H Q I h
  exact isTrue_not (ha pins s σ H (fun c H1=>Q (!c) H1) I h)
def Znv (ta tb:TE):TE:=fun σ H Q=>ta σ H fun x H1=>∃c,x=.bl c∧if c=true then tb σ H1 Q else Q (.bl false) H1
def ZpE (ta tb:TE):TE:=fun σ H Q=>ta σ H fun x H1=>∃c,x=.bl c∧if c=true then Q (.bl true) H1 else tb σ H1 Q
theorem Zmg {op} {t:TE} (h:PE X a t):PE X (.BoolOp op [a] pos) t:=fun pins s σ H Q I hw=>BoolOp_one (h pins s σ H Q I hw)
theorem Zmk (ha:PE X a ta) (hb:PE X (.BoolOp .And (b::rest) pos) tb):PE X (.BoolOp .And (a::b::rest) pos) (Znv ta tb):=by
  intro pins s σ H Q I h
  refine BoolOp_and (thn (ha pins s σ H _ I h) fun v s1 ⟨x,H1,I1,r1,q1⟩=>?_)
  obtain ⟨c,rfl,q1⟩:=q1
  cases r1
  refine wpAny_truthy_bool ?_
  cases c with
  | true=>exact hb pins s1 σ H1 Q I1 q1
  | false=>exact ⟨.bl false,H1,I1,rfl,q1⟩
theorem ZnI (ha:PE X a ta) (hb:PE X (.BoolOp .Or (b::rest) pos) tb):PE X (.BoolOp .Or (a::b::rest) pos) (ZpE ta tb):=by
  intro pins s σ H Q I h
  refine BoolOp_or (thn (ha pins s σ H _ I h) fun v s1 ⟨x,H1,I1,r1,q1⟩=>?_)
  obtain ⟨c,rfl,q1⟩:=q1
  cases r1
  refine wpAny_truthy_bool ?_
  cases c with
  | false=>exact hb pins s1 σ H1 Q I1 q1
  | true=>exact ⟨.bl true,H1,I1,rfl,q1⟩
def tIf (t:TT) (ta tb:TE):TE:=fun σ H Q=>t σ H fun c H1=>if c=true then ta σ H1 Q else tb σ H1 Q
theorem Zi1 {c:Expr} (hc:PT X c tA) (ha:PE X a ta) (hb:PE X b tb):PE X (.IfExp c a b pos) (tIf tA ta tb):=by
  intro pins s σ H Q I h
  refine wpAny_IfExp (thn (hc pins s σ H _ I h) fun d s1 ⟨H1,I1,q1⟩=>?_)
  cases d with
  | true=>exact ha pins s1 σ H1 Q I1 q1
  | false=>exact hb pins s1 σ H1 Q I1 q1
end
end L2
namespace L2
open PySem PySem.Spec PyProof.Rows
def SqL (K:PySem.W.Frag) (H:Hp) (a:Addr) (xs:List V):Prop:=
  Rd H a (.lst xs)∨
    ∃(o:Obj) (its:Array Value) (n:Nat),K.lookup a=some o∧o.cls=.type "list"∧o.dict=none∧o.data=.seq its n∧its.size≤sizeLine∧Vals xs its.toList
def SqT (K:PySem.W.Frag) (H:Hp) (a:Addr) (xs:List V):Prop:=
  Rd H a (.tup xs)∨
    ∃(o:Obj) (its:Array Value) (n:Nat),K.lookup a=some o∧o.cls=.type "tuple"∧o.data=.seq its n∧its.size≤sizeLine∧Vals xs its.toList
def Zqi:Value→Option V
  | .none=>some .non
  | .bool b=>some (.bl b)
  | .int i _=>some (.int i)
  | .str x _=>some (.str x)
  | .bytes b _=>some (.byt b)
  | .float b _=>some (.flt b)
  | .ref a=>some (.ref a)
  | .type n=>some (.ty n)
  | _=>none
theorem RelV.abs {x:V} {u:Value} (r:RelV x u):Zqi u=some x:=by
  cases x with
  | non=>cases r; rfl
  | bl _=>cases r; rfl
  | int _=>obtain ⟨t,rfl⟩:=r; rfl
  | str _=>obtain ⟨t,rfl⟩:=r; rfl
  | byt _=>obtain ⟨t,rfl⟩:=r; rfl
  | flt _=>obtain ⟨t,rfl⟩:=r; rfl
  | ref _=>cases r; rfl
  | ty _=>cases r; rfl
theorem RelV.inj {x y:V} {u:Value} (r:RelV x u) (q:RelV y u):x=y:=Option.some.inj (r.abs.symm.trans q.abs)
theorem Vals.inj:∀{xs ys:List V} {us:List Value},Vals xs us→Vals ys us→xs=ys
  | _,_,_,.nil,.nil=>rfl
  | _,_,_,.cons r t,.cons r' t'=>by rw [r.inj r',Vals.inj t t']
section
variable {X:Cx} {pins:List (Addr×Obj)} {σ:St} {H:Hp} {s:Shared} {a:Addr} {xs ys:List V}
theorem SqL.of {K:PySem.W.Frag} (h:H a=some (.lst xs)):SqL K H a xs:=.inl (.inl h)
theorem SqT.of {K:PySem.W.Frag} (h:H a=some (.tup xs)):SqT K H a xs:=.inl (.inl h)
theorem Inv.list (I:Inv X pins σ H s) (h:SqL X.K H a xs):∃its:List Value,Vals xs its∧PlainL s.heap a its.toArray∧xs.length≤sizeLine:=by
  rcases h with h | ⟨o,its,n,hk,hc,hd,hs,hz,r⟩
  · obtain ⟨z,its,n,r,e⟩:=h.ok I.hok
    exact ⟨its,r,⟨_,n,e,rfl,rfl,rfl⟩,z⟩
  · refine ⟨its.toList,r,⟨o,n,I.kIn a o hk,hc,hd,by simpa using hs⟩,?_⟩
    have e:=r.length
    simp only [Array.length_toList] at e
    omega
theorem Inv.tuple (I:Inv X pins σ H s) (h:SqT X.K H a xs):∃its:List Value,Vals xs its∧IsTup s.heap a its.toArray∧xs.length≤sizeLine:=by
  rcases h with h | ⟨o,its,n,hk,hc,hs,hz,r⟩
  · obtain ⟨z,its,r,p⟩:=h.ok I.hok
    exact ⟨its,r,p,z⟩
  · refine ⟨its.toList,r,⟨o,I.kIn a o hk,hc,n,by simpa using hs⟩,?_⟩
    have e:=r.length
    simp only [Array.length_toList] at e
    omega
theorem Inv.list_inj (I:Inv X pins σ H s) (h:SqL X.K H a xs) (h':SqL X.K H a ys):xs=ys:=by
  obtain ⟨its,r,⟨o,n,e,_,_,d⟩,_⟩:=I.list h
  obtain ⟨its',r',⟨o',n',e',_,_,d'⟩,_⟩:=I.list h'
  rw [e] at e'; cases e'
  rw [d] at d'
  injection d' with d1 _
  have:its=its':=by simpa using congrArg Array.toList d1
  subst this
  exact r.inj r'
theorem Inv.tuple_inj (I:Inv X pins σ H s) (h:SqT X.K H a xs) (h':SqT X.K H a ys):xs=ys:=by
  obtain ⟨its,r,⟨o,e,_,n,d⟩,_⟩:=I.tuple h
  obtain ⟨its',r',⟨o',e',_,n',d'⟩,_⟩:=I.tuple h'
  rw [e] at e'; cases e'
  rw [d] at d'
  injection d' with d1 _
  have:its=its':=by simpa using congrArg Array.toList d1
  subst this
  exact r.inj r'
end
abbrev Cx.wish (X:Cx) (E:Value→Shared→Prop):Cx:={ X with xe:=E }
abbrev Cx.nox (X:Cx):Cx:=X.wish fun _ _=>False
theorem Cx.Ok.wish {X:Cx} (ok:X.Ok) (E:Value→Shared→Prop):(X.wish E).Ok:=
  ⟨ok.mod,ok.kind,ok.glob,ok.blt,ok.above,ok.inj,ok.has,ok.cab,ok.hd,ok.frames,ok.stk,ok.exf,ok.bs,ok.bsz,ok.noex,ok.exfs,ok.funs,ok.frf⟩
theorem Cx.Ok.unwish {X:Cx} {E:Value→Shared→Prop} (ok:(X.wish E).Ok):X.Ok:=
  ⟨ok.mod,ok.kind,ok.glob,ok.blt,ok.above,ok.inj,ok.has,ok.cab,ok.hd,ok.frames,ok.stk,ok.exf,ok.bs,ok.bsz,ok.noex,ok.exfs,ok.funs,ok.frf⟩
section
variable {X:Cx} {pins:List (Addr×Obj)} {σ:St} {H:Hp} {s:Shared} {E:Value→Shared→Prop}
theorem Inv.wish (I:Inv X pins σ H s) (E:Value→Shared→Prop):Inv (X.wish E) pins σ H s:=⟨I.ok.wish E,I.os,I.bare,I.base,I.loc,I.cell,I.free,I.freeC,I.pin,I.hok,I.len⟩
theorem Inv.unwish (I:Inv (X.wish E) pins σ H s):Inv X pins σ H s:=⟨I.ok.unwish,I.os,I.bare,I.base,I.loc,I.cell,I.free,I.freeC,I.pin,I.hok,I.len⟩
theorem SP.unwish {D:Zcc} {f:Flow} {s':Shared} (h:SP (X.wish E) pins D f s'):SP X pins D f s':=by
  cases f with
  | next=>obtain ⟨σ',H',I,q⟩:=h; exact ⟨σ',H',I.unwish,q⟩
  | brk=>obtain ⟨σ',H',I,q⟩:=h; exact ⟨σ',H',I.unwish,q⟩
  | cont=>obtain ⟨σ',H',I,q⟩:=h; exact ⟨σ',H',I.unwish,q⟩
  | ret u=>obtain ⟨v,σ',H',I,r,q⟩:=h; exact ⟨v,σ',H',I.unwish,r,q⟩
theorem PSs.nox {st:List Stmt} {t:TS} (h:PSs X.nox st t):PSs X st t:=fun pins s σ H D I hw=>
  wpAny_mono (h pins s σ H D (I.wish _) hw) (fun _ _ q=>q.unwish) fun _ _ z=>False.elim z
end
section
variable {X:Cx} {st:Stmt} {rest:List Stmt} {t u:TS} {e:Expr} {te:TE} {pos:Pos}
def Zns:TS:=fun D σ H=>D.nx σ H
def ZpC (t u:TS):TS:=fun D σ H=>t { D with nx:=u D } σ H
theorem Zks:PSs X [] Zns:=fun _ _ σ H _ I h=>wpAny_execs_nil ⟨σ,H,I,h⟩
theorem ZiT (h1:PS X st t) (h2:PSs X rest u):PSs X (st::rest) (ZpC t u):=by
  intro pins s σ H D I h
  refine wpAny_execs_cons (thn (h1 pins s σ H { D with nx:=u D } I h) fun f s1 q=>?_)
  cases f with
  | next=>
    obtain ⟨σ',H',I',q⟩:=q
    exact h2 pins s1 σ' H' D I' q
  | ret v=>exact q
  | brk=>exact q
  | cont=>exact q
theorem Zkr (h1:PS X st t):PSs X [st] t:=by
  intro pins s σ H D I h
  refine wpAny_execs_cons (thn (h1 pins s σ H D I h) fun f s1 q=>?_)
  cases f with
  | next=>exact wpAny_execs_nil q
  | ret v=>exact q
  | brk=>exact q
  | cont=>exact q
theorem Inv.quiet {pins:List (Addr×Obj)} {σ:St} {H:Hp} {s:Shared} (I:Inv X pins σ H s):interactive X.env=false:=by simp [interactive,I.ok.kind]
def Znu (te:TE):TS:=fun D σ H=>te σ H fun _ H1=>D.nx σ H1
theorem ZgQ (he:PE X e te) (hs:swapsWith e none pos.line X.env=pure false:=by rfl):PS X (.Expr e pos) (Znu te):=by
  intro pins s σ H D I h
  exact wpAny_Expr_any (thn (he pins s σ H _ I h) fun v s1 ⟨x,H1,I1,r1,q1⟩=>⟨σ,H1,I1,q1⟩) I.quiet hs
def ZpD (te:TE):TS:=fun D σ H=>te σ H D.rt
theorem Zl9 (he:PE X e te):PS X (.Return (some e) pos) (ZpD te):=by
  intro pins s σ H D I h
  exact wpAny_Return_some (thn (he pins s σ H _ I h) fun v s1 ⟨x,H1,I1,r1,q1⟩=>⟨x,σ,H1,I1,r1,q1⟩)
def ZpH (c:TT) (t u:TS):TS:=fun D σ H=>c σ H fun b H1=>if b=true then t D σ H1 else u D σ H1
theorem ZnG {c:Expr} {a b:List Stmt} {tc:TT} (hc:PT X c tc) (ha:PSs X a t) (hb:PSs X b u):PS X (.If c a b pos) (ZpH tc t u):=by
  intro pins s σ H D I h
  refine wpAny_If (thn (hc pins s σ H _ I h) fun d s1 ⟨H1,I1,q1⟩=>?_)
  cases d with
  | true=>exact ha pins s1 σ H1 D I1 q1
  | false=>exact hb pins s1 σ H1 D I1 q1
end
abbrev TG:=V→St→Hp→(St→Hp→Prop)→Prop
def PG (X:Cx) (target:Expr) (t:TG):Prop:=
  ∀(pins:List (Addr×Obj)) (s:Shared) (σ:St) (H:Hp) (v:V) (u:Value) (Q:St→Hp→Prop),Inv X pins σ H s→RelV v u→t v σ H Q→
    wpAny (model X.prog X.w) X.A (assign target X.env u) (fun _ s'=>∃σ' H',Inv X pins σ' H' s'∧Q σ' H') X.xe s
section
variable {X:Cx} {pos:Pos}
def Zls (i:Nat):TG:=fun v σ H Q=>Q (σ.set i (some v)) H
theorem Zkx {i:Nat} {x:Str} (hN:X.N.Nodup) (hi:X.N[i]?=some x) (hx:Loc X.env.scope x) (hf:X.fn x=true∨X.env.scope.names.lookup x=some .local:=by first | exact .inl rfl | exact .inr rfl | assumption):PG X (.Name x pos) (Zls i):=by
  intro pins s σ H v u Q I r h
  exact wpAny_assign_Name (ZfN I hN hi hx r (fun s' I'=>⟨_,H,I',h⟩) hf)
def ZpK (te:TE) (g:TG):TS:=fun D σ H=>te σ H fun x H1=>g x σ H1 D.nx
theorem ZiV {i:Nat} {x:Str} {e:Expr} {te:TE} {pos':Pos} (hN:X.N.Nodup) (hi:X.N[i]?=some x) (hx:Loc X.env.scope x) (he:PE X e te) (hs:swapsWith e (some (.Name x pos')) pos.line X.env=pure false:=by rfl) (hf:X.fn x=true∨X.env.scope.names.lookup x=some .local:=by first | exact .inl rfl | exact .inr rfl | assumption) :
    PS X (.Assign [.Name x pos'] e pos) (ZpK te (Zls i)):=by
  intro pins s σ H D I h
  refine wpAny_Assign_Name (thn (he pins s σ H _ I h) fun v s1 ⟨y,H1,I1,r1,q1⟩=>?_) hs
  exact ZfN I1 hN hi hx r1 (fun s2 I2=>⟨_,H1,I2,q1⟩) hf
end
section
variable {X:Cx} {pos:Pos}
def ZlQ (c:TT) (tb:TS):TS:=fun D σ H=>∃W:Nat→St→Hp→Prop,(∃m,W m σ H)∧∀m σ H,W m σ H→
  c σ H fun b H1=>if b=true then ∃N:St→Hp→Prop,(∀σ' H',N σ' H'→∃m',m'<m∧W m' σ' H')∧tb { D with nx:=N,ct:=N,bk:=D.nx } σ H1 else D.nx σ H1
theorem ZiU {c:Expr} {body:List Stmt} {tc:TT} {tb:TS} (hp:PassesOwn (model X.prog X.w) X.A X.env X.xe) (hc:PT X c tc) (hb:PSs X body tb):PS X (.While c body [] pos) (ZlQ tc tb):=by
  intro pins s σ H D I h
  obtain ⟨W,⟨m0,w0⟩,turn⟩:=h
  refine wpAny_While (codeAny_whileLoop (fun n s'=>∃σ' H',Inv X pins σ' H' s'∧W n σ' H') ?_ m0 ⟨σ,H,I,w0⟩)
  rintro n s1 ⟨σ1,H1,I1,w1⟩
  refine wpAny_passesOwn hp (thn (hc pins s1 σ1 H1 _ I1 (turn n σ1 H1 w1)) fun b s2 ⟨H2,I2,q2⟩=>?_)
  cases b with
  | true=>
    obtain ⟨N,hN,q2⟩:=q2
    rw [if_pos rfl]
    refine wpAny_passesOwn hp (thn (hb pins s2 σ1 H2 _ I2 q2) fun f s3 q3=>?_)
    cases f with
    | next=>
      obtain ⟨σ3,H3,I3,n3⟩:=q3
      obtain ⟨m',hm,w3⟩:=hN σ3 H3 n3
      exact ⟨m',hm,σ3,H3,I3,w3⟩
    | cont=>
      obtain ⟨σ3,H3,I3,n3⟩:=q3
      obtain ⟨m',hm,w3⟩:=hN σ3 H3 n3
      exact ⟨m',hm,σ3,H3,I3,w3⟩
    | brk=>exact q3
    | ret v=>exact q3
  | false=>
    rw [if_neg Bool.false_ne_true]
    exact wpAny_execs_nil ⟨σ1,H2,I2,q2⟩
end
structure It where
  go:Nat→Hp→Prop
  yld:Nat→Hp→V→Hp→Prop
  stop:Nat→Hp→Prop
def ZhU (X:Cx) (pins:List (Addr×Obj)) (H:Hp) (b:Addr):Prop:=
  H b=none∧b≠X.env.locals∧b∉X.fs∧(b∈X.ex∨X.s₀.heap.objs.size≤b)∧(∀x c,X.env.cells.lookup x=some c→c≠b)∧∀p∈X.pn++pins,p.1≠b
theorem Inv.fpOk {X:Cx} {pins:List (Addr×Obj)} {σ:St} {H H':Hp} {s:Shared} {b:Addr} (I:Inv X pins σ H s) (hb:s.heap.objs.size≤b) (hn:H' b=none):ZhU X pins H' b:=by
  refine ⟨hn,Nat.ne_of_gt (Nat.lt_of_lt_of_le I.lt hb),I.nofs hb,.inr (Nat.le_trans I.sz hb),fun x c e z=>?_,fun p hp z=>?_⟩
  · obtain ⟨v,q⟩:=I.cell x c e
    exact absurd (Nat.lt_of_lt_of_le q.lt (by rw [z]; exact hb)) (Nat.lt_irrefl _)
  · exact absurd (Nat.lt_of_lt_of_le (Heap.lt_size (I.pin p hp).1) (by rw [z]; exact hb)) (Nat.lt_irrefl _)
structure Zk5 (P:Program) (w:World) (K:PySem.W.Frag) (tg:Expr) (J:It) (fp:List Addr) (it:Addr) (tn:Nat→Heap→Prop):Prop where
  mem:it∈fp
  obj:∀i h,tn i h→∀b∈fp,∃o,h.get? b=some o∧∀v,o.data≠.cell v
  keep:∀i h h',tn i h→(∀b∈fp,∀o,h.get? b=some o→h'.get? b=some o)→tn i h'
  item:∀(X:Cx),X.prog=P→X.w=w→X.K=K→X.calm=true→∀(i:Nat) (pins:List (Addr×Obj)) (s:Shared) (σ:St) (H:Hp) (E:Value→Shared→Prop),Inv X pins σ H s→(∀b∈fp,ZhU X pins H b)→tn i s.heap→J.go i H→
    wpAny (model P w) X.A (pyNext (.ref it)) (fun r s1=>∃u,r=some u∧
      wpAny (model P w) X.A (letOwnedTupleGo tg (.ref it) u) (fun _ s2=>∃x H',Inv X pins σ H' s2∧RelV x u∧J.yld i H x H'∧tn (i+1) s2.heap∧∀b∈fp,H' b=none) E s1) E s
  done:∀(X:Cx),X.prog=P→X.w=w→X.K=K→X.calm=true→∀(i:Nat) (pins:List (Addr×Obj)) (s:Shared) (σ:St) (H:Hp) (E:Value→Shared→Prop),Inv X pins σ H s→(∀b∈fp,ZhU X pins H b)→tn i s.heap→J.stop i H→
    wpAny (model P w) X.A (pyNext (.ref it)) (fun r s1=>r=none∧Inv X pins σ H s1) E s
  self:∀(A:Around) (i:Nat) (s:Shared) (Q:Value→Shared→Prop) (E:Value→Shared→Prop),tn i s.heap→Q (.ref it) s→wpAny (model P w) A (pyIter (.ref it)) Q E s
abbrev TI:=St→Hp→(It→Hp→Prop)→Prop
def PIE (X:Cx) (pins:List (Addr×Obj)) (σ:St) (tg:Expr) (R:It→Hp→Prop) (itv:Value) (s2:Shared):Prop:=
  ∃(it:Addr) (fp:List Addr) (tn:Nat→Heap→Prop) (J:It) (H':Hp),itv=.ref it∧Inv X pins σ H' s2∧Zk5 X.prog X.w X.K tg J fp it tn∧tn 0 s2.heap∧(∀b∈fp,ZhU X pins H' b)∧R J H'
def PI (X:Cx) (tg iter:Expr) (wi:TI):Prop:=
  ∀(pins:List (Addr×Obj)) (s:Shared) (σ:St) (H:Hp) (R:It→Hp→Prop),Inv X pins σ H s→wi σ H R→
    wpAny (model X.prog X.w) X.A (eval iter X.env) (fun v s1=>wpAny (model X.prog X.w) X.A (pyIter v) (PIE X pins σ tg R) X.xe s1) X.xe s
theorem ZjF {M:Model} {A:Around} {E:Value→Shared→Prop} {s:Shared} {tg:Expr} {it:Addr} {u:Value} {o:Obj} {n:String} {vs:Array Value} {Q:Unit→Shared→Prop} (ho:s.heap.get? it=some o) (hc:o.cls=.type n) (hd:o.data=.fields vs)
    (hn:["enumerate","zip","dict_itemiterator","dict_reverseitemiterator","odict_iterator","itertools.zip_longest","itertools.pairwise"].contains n=false) (hQ:Q () s):wpAny M A (letOwnedTupleGo tg (.ref it) u) Q E s:=by
  unfold letOwnedTupleGo
  cases tg<;>first
    | exact wpAny_pure hQ
    | (cases u<;>first
        | exact wpAny_pure hQ
        | (refine wpAny_bind (wpAny_load ho ?_)
           rw [hc,hd]
           show wpAny M A (if (["enumerate","zip","dict_itemiterator","dict_reverseitemiterator","odict_iterator","itertools.zip_longest","itertools.pairwise"].contains n && vs[0]? == some (rawInt _))=true then _ else _) Q E s
           rw [if_neg (by intro h; rw [hn,Bool.false_and] at h; cases h)]
           exact wpAny_pure hQ))
def Itl (K:PySem.W.Frag) (a:Addr):It:=
  ⟨fun i H=>∃xs x,SqL K H a xs∧xs[i]?=some x,fun i H x H'=>H'=H∧∀xs,SqL K H a xs→xs[i]?=some x,fun i H=>∃xs,SqL K H a xs∧xs.length≤i⟩
def Itt (K:PySem.W.Frag) (a:Addr):It:=
  ⟨fun i H=>∃xs x,SqT K H a xs∧xs[i]?=some x,fun i H x H'=>H'=H∧∀xs,SqT K H a xs→xs[i]?=some x,fun i H=>∃xs,SqT K H a xs∧xs.length≤i⟩
def Itr (lo:Int) (n:Nat):It:=⟨fun i _=>i<n,fun i H x H'=>H'=H∧x=.int (lo+i),fun i _=>n≤i⟩
theorem Zho {P:Program} {w:World} {K:PySem.W.Frag} {tg:Expr} (a it:Addr):Zk5 P w K tg (Itl K a) [it] it (fun i h=>h.IsListIter it a i) where
  mem:=by simp
  obj:=fun i h st b hb=>by
    have e:b=it:=by simpa using hb
    subst e
    obtain ⟨o,e,c,d⟩:=st
    exact ⟨o,e,fun v z=>by rw [d] at z; cases z⟩
  keep:=fun i h h' st k=>st.at fun o e=>k it (by simp) o e
  item:=by
    intro X hP hw hK hc i pins s σ H E I hf st hg
    subst hP hw hK
    obtain ⟨xs,x,hq,hx⟩:=hg
    obtain ⟨its,rv,p,hz⟩:=I.list hq
    obtain ⟨u,hu,ru⟩:=rv.get hx
    obtain ⟨f0,f1,f2,f3,f4,f5⟩:=hf it (by simp)
    refine wpAny_pyNext_list_item st p.isList (x:=u) (by simpa using hu) fun h' st' sb=>?_
    have I1:Inv X pins σ H { s with heap:=h' }:=I.turned (t':=s.toks) (fun b o hb e=>(sb.2 b hb).trans e) f0 f1 f3 f4 f5
    obtain ⟨o,e,c,d⟩:=id st'
    exact ⟨u,rfl,ZjF (s:={ s with heap:=h' }) e c d (by decide) ⟨x,H,I1,ru,⟨rfl,fun ys hy=>by rw [I.list_inj hy hq]; exact hx⟩,st',fun b hb=>(hf b hb).1⟩⟩
  done:=by
    intro X hP hw hK hc i pins s σ H E I hf st hg
    subst hP hw hK
    obtain ⟨xs,hq,hx⟩:=hg
    obtain ⟨its,rv,p,hz⟩:=I.list hq
    obtain ⟨f0,f1,f2,f3,f4,f5⟩:=hf it (by simp)
    have hl:=rv.length
    exact wpAny_pyNext_list_end (I.ok.hd hc) st p.isList (by simp; omega) fun h' eb=>⟨rfl,I.turned (t':=s.toks) (fun b o hb e=>eb b o hb e) f0 f1 f3 f4 f5⟩
  self:=fun _ _ _ _ _ st h=>wpAny_pyIter_listiter st h
theorem Zgi {P:Program} {w:World} {K:PySem.W.Frag} {tg:Expr} (a it:Addr):Zk5 P w K tg (Itt K a) [it] it (fun i h=>h.IsTupleIter it a i) where
  mem:=by simp
  obj:=fun i h st b hb=>by
    have e:b=it:=by simpa using hb
    subst e
    obtain ⟨o,e,c,d⟩:=st
    exact ⟨o,e,fun v z=>by rw [d] at z; cases z⟩
  keep:=fun i h h' st k=>st.at fun o e=>k it (by simp) o e
  item:=by
    intro X hP hw hK hc i pins s σ H E I hf st hg
    subst hP hw hK
    obtain ⟨xs,x,hq,hx⟩:=hg
    obtain ⟨its,rv,p,hz⟩:=I.tuple hq
    obtain ⟨u,hu,ru⟩:=rv.get hx
    obtain ⟨f0,f1,f2,f3,f4,f5⟩:=hf it (by simp)
    refine wpAny_pyNext_tuple_item st (show s.heap.IsTuple a its.toArray from p) (x:=u) (by simpa using hu) fun h' st' sb=>?_
    have I1:Inv X pins σ H { s with heap:=h' }:=I.turned (t':=s.toks) (fun b o hb e=>(sb.2 b hb).trans e) f0 f1 f3 f4 f5
    obtain ⟨o,e,c,d⟩:=id st'
    exact ⟨u,rfl,ZjF (s:={ s with heap:=h' }) e c d (by decide) ⟨x,H,I1,ru,⟨rfl,fun ys hy=>by rw [I.tuple_inj hy hq]; exact hx⟩,st',fun b hb=>(hf b hb).1⟩⟩
  done:=by
    intro X hP hw hK hc i pins s σ H E I hf st hg
    subst hP hw hK
    obtain ⟨xs,hq,hx⟩:=hg
    obtain ⟨its,rv,p,hz⟩:=I.tuple hq
    obtain ⟨f0,f1,f2,f3,f4,f5⟩:=hf it (by simp)
    have hl:=rv.length
    exact wpAny_pyNext_tuple_end (I.ok.hd hc) st (show s.heap.IsTuple a its.toArray from p) (by simp; omega) fun h' eb=>⟨rfl,I.turned (t':=s.toks) (fun b o hb e=>eb b o hb e) f0 f1 f3 f4 f5⟩
  self:=fun _ _ _ _ _ st h=>wpAny_pyIter_tupleiter st h
theorem Zgj {P:Program} {w:World} {K:PySem.W.Frag} {tg:Expr} (it:Addr) (lo:Int) (n:Nat):Zk5 P w K tg (Itr lo n) [it] it (fun i h=>IsRangeIter h it (lo+(i:Nat)*1) ((n:Int)-(i:Nat)) 1) where
  mem:=by simp
  obj:=fun i h st b hb=>by
    have e:b=it:=by simpa using hb
    subst e
    exact ⟨_,st,fun v z=>by
      have z':Data.fields _=Data.cell v:=z
      cases z'⟩
  keep:=fun i h h' st k=>k it (by simp) _ st
  item:=by
    intro X hP hw hK hc i pins s σ H E I hf st hg
    subst hP hw hK
    obtain ⟨f0,f1,f2,f3,f4,f5⟩:=hf it (by simp)
    have W:=Walks.range (prog:=X.prog) (w:=X.w) (I.ok.hd hc) it lo 1 n
    refine W.item i s _ _ hg st fun v h' tk hv st' kk=>?_
    obtain ⟨t,rfl⟩:=hv
    have I1:Inv X pins σ H { s with heap:=h',toks:=tk }:=I.turned (fun b o hb e=>kk b o (by simpa using hb) e) f0 f1 f3 f4 f5
    refine ⟨_,rfl,ZjF (s:={ s with heap:=h',toks:=tk }) (n:="range_iterator") st' rfl rfl (by decide) ⟨.int (lo+i),H,I1,⟨t,?_⟩,⟨rfl,rfl⟩,st',fun b hb=>(hf b hb).1⟩⟩
    rw [Int.mul_one]
  done:=by
    intro X hP hw hK hc i pins s σ H E I hf st hg
    subst hP hw hK
    obtain ⟨f0,f1,f2,f3,f4,f5⟩:=hf it (by simp)
    exact wpAny_pyNext_range_end (I.ok.hd hc) st (by have:n≤i:=hg; omega) fun h' eb=>⟨rfl,I.turned (t':=s.toks) (fun b o hb e=>eb b o hb e) f0 f1 f3 f4 f5⟩
  self:=fun _ _ _ _ _ st h=>wpAny_pyIter_rangeiter st h
end L2
namespace L2
open PySem PySem.Spec PyProof.Rows
section
variable {X:Cx} {tg:Expr}
theorem ZiR {pins:List (Addr×Obj)} {σ:St} {H:Hp} {s:Shared} {R:It→Hp→Prop} {E:Value→Shared→Prop} {lo hi:Int} {t u v:Tok} {tk:Nat} (I:Inv X pins σ H s) (h1 : -(2 ^ 62)≤lo) (h2:lo<2 ^ 62) (h3 : -(2 ^ 62)≤hi) (h4:hi<2 ^ 62)
    (q:R (Itr lo (hi-lo).toNat) H):wpAny (model X.prog X.w) X.A (pyIter (.ref s.heap.objs.size)) (PIE X pins σ tg R) E { s with heap:=s.heap.push { cls:=.type "range",data:=.fields #[.int lo t,.int hi u,.int 1 v] },toks:=tk }:=by
  refine wpAny_pyIter_range (IsRange.new ..) (small_one h1 h2 h3 h4) ?_
  have I1:Inv X pins σ H { s with heap:=s.heap.push { cls:=.type "range",data:=.fields #[.int lo t,.int hi u,.int 1 v] },toks:=tk }:=I.kept fun b o e=>Heap.get?_push_of_some _ e
  refine ⟨(s.heap.push { cls:=.type "range",data:=.fields #[.int lo t,.int hi u,.int 1 v] }).objs.size,[(s.heap.push { cls:=.type "range",data:=.fields #[.int lo t,.int hi u,.int 1 v] }).objs.size],_,_,H,rfl,
    I1.kept (t':=tk) fun b o e=>Heap.get?_push_of_some _ e,Zgj _ lo (hi-lo).toNat,?_,fun b hb=>?_,q⟩
  · have e1:lo+((0:Nat):Int)*1=lo:=by simp
    have e2:(((hi-lo).toNat:Nat):Int)-((0:Nat):Int)=Builtin.Range.rangeSize lo hi 1:=by rw [rangeSize_one]; split<;>omega
    show IsRangeIter _ _ (lo+((0:Nat):Int)*1) ((((hi-lo).toNat:Nat):Int)-((0:Nat):Int)) 1
    rw [e1,e2]
    exact Heap.get?_push_size _ rfl
  · have e:b=(s.heap.push { cls:=.type "range",data:=.fields #[.int lo t,.int hi u,.int 1 v] }).objs.size:=by simpa using hb
    subst e
    exact I1.fpOk (Nat.le_refl _) (I1.hok.fresh (Nat.le_refl _))
def Zn8 (ta:TA):TI:=fun σ H R=>ta σ H fun vs H1=>∃j:Int,vs=[.int j]∧-(2 ^ 62)≤j∧j<2 ^ 62∧R (Itr 0 j.toNat) H1
theorem Zhw {a:Expr} {ta:TA} {p pos:Pos} (hg:Gl X "range") (hm:X.mg "range"=none) (ha:PA X [a] ta) (hs:starEach [a] X.env=[(false,eval a X.env)]:=by rfl):PI X tg (.Call (.Name "range" p) [a] [] pos) (Zn8 ta):=by
  intro pins s σ H R I h
  refine Call_ (Zgx I hg hm boot_range (PyProof.Rows.callWith_type1 (thn (ha pos pins s σ H _ I h) fun us s1 ⟨vs,H1,I1,r1,q1⟩=>?_) hs rfl))
  obtain ⟨j,e,q1,q2,q⟩:=q1
  subst e
  cases r1 with
  | cons r rr=>
    cases rr
    obtain ⟨t,rfl⟩:=r
    exact call_range_1 (ZiR I1 (by omega) (by omega) q1 q2 (by simpa using q))
def ZpI (wi:TI) (g:TG) (tb:TS):TS:=fun D σ H=>wi σ H fun J H1=>∃W:Nat→Nat→St→Hp→Prop,(∃m,W 0 m σ H1)∧∀i m σ H,W i m σ H→
  (J.stop i H∧D.nx σ H)∨(J.go i H∧∃N:St→Hp→Prop,(∀σ' H',N σ' H'→∃m',m'<m∧W (i+1) m' σ' H')∧∀x H',J.yld i H x H'→g x σ H' fun σ2 H2=>tb { D with nx:=N,ct:=N,bk:=D.nx } σ2 H2)
def ZeN (fp:List Addr) (h:Heap):List (Addr×Obj):=fp.filterMap fun b=>(h.get? b).map fun o=>(b,o)
theorem ZdE {fp:List Addr} {h:Heap} {b:Addr} {o:Obj} (hb:b∈fp) (e:h.get? b=some o):(b,o)∈ZeN fp h:=List.mem_filterMap.mpr ⟨b,hb,by rw [e]; rfl⟩
theorem ZhA {fp:List Addr} {h:Heap} {p:Addr×Obj} (hp:p∈ZeN fp h):p.1∈fp∧h.get? p.1=some p.2:=by
  obtain ⟨b,hb,e⟩:=List.mem_filterMap.mp hp
  cases q:h.get? b with
  | none=>rw [q] at e; cases e
  | some o=>
    rw [q] at e
    have e':(b,o)=p:=Option.some.inj e
    subst e'
    exact ⟨hb,q⟩
theorem Inv.pinned {pins:List (Addr×Obj)} {σ:St} {H:Hp} {s:Shared} {fp:List Addr} (I:Inv X pins σ H s) (hf:∀b∈fp,ZhU X pins H b) (ho:∀b∈fp,∃o,s.heap.get? b=some o∧∀v,o.data≠.cell v):Inv X (pins++ZeN fp s.heap) σ H s:=
  I.pins_of fun p hp=>(List.mem_append.mp hp).elim (fun z=>I.pin p (List.mem_append_right _ z)) fun z=>by
    obtain ⟨hb,e⟩:=ZhA z
    obtain ⟨f0,f1,f2,_⟩:=hf p.1 hb
    obtain ⟨o,e',d⟩:=ho p.1 hb
    rw [e] at e'; cases e'
    exact ⟨e,f0,f1,f2,d⟩
theorem Inv.unpinned {pins pl:List (Addr×Obj)} {σ:St} {H:Hp} {s:Shared} (I:Inv X (pins++pl) σ H s):Inv X pins σ H s:=I.pins_of fun p hp=>I.pin p (List.mem_append_right _ (List.mem_append_left _ hp))
theorem Zma {iter:Expr} {body:List Stmt} {wi:TI} {g:TG} {tb:TS} {pos:Pos} (hp:PassesOwn (model X.prog X.w) X.A X.env X.xe) (hc:X.calm=true) (hi:PI X tg iter wi) (hg:PG X tg g) (hb:PSs X body tb)
    (hs:∀x,foldedSetIterable iter X.env x=pure x:=by intro _; rfl):PS X (.For tg iter body [] pos) (ZpI wi g tb):=by
  intro pins s σ H D I h
  refine wpAny_For (thn (hi pins s σ H _ I h) fun v s1 h1=>thn h1 fun itv s2 h2=>?_) hs
  obtain ⟨it,fp,tn,J,H2,e,I2,T,st2,f2,W,⟨m0,w0⟩,turn⟩:=h2
  subst e
  have stat:∀{H':Hp},(∀b∈fp,H' b=none)→∀b∈fp,ZhU X pins H' b:=fun hn b hb=>⟨hn b hb,(f2 b hb).2⟩
  refine codeAny_forLoop_any (fun n s'=>∃i σ' H',Inv X pins σ' H' s'∧tn i s'.heap∧(∀b∈fp,H' b=none)∧W i n σ' H') ?_ m0 ⟨0,σ,H2,I2,st2,fun b hb=>(f2 b hb).1,w0⟩
  rintro n s3 ⟨i,σ3,H3,I3,st3,fr3,w3⟩
  rcases turn i n σ3 H3 w3 with ⟨stop,qn⟩ | ⟨go,N,hN,step⟩
  · refine wpAny_passesOwn hp (thn (T.done X rfl rfl rfl hc i pins s3 σ3 H3 X.xe I3 (stat fr3) st3 stop) fun r s4 ⟨hr,I4⟩=>?_)
    subst hr
    exact wpAny_execs_nil ⟨σ3,H3,I4,qn⟩
  · refine wpAny_passesOwn hp (thn (T.item X rfl rfl rfl hc i pins s3 σ3 H3 X.xe I3 (stat fr3) st3 go) fun r s4 ⟨u,hr,h4⟩=>?_)
    subst hr
    refine wpAny_passesOwn hp (thn h4 fun _ s5 ⟨x,H5,I5,r5,y5,st5,fr5⟩=>?_)
    have I5':=I5.pinned (stat fr5) (T.obj _ _ st5)
    refine wpAny_passesOwn hp (thn (hg _ s5 σ3 H5 x u _ I5' r5 (step x H5 y5)) fun _ s6 ⟨σ6,H6,I6,q6⟩=>?_)
    refine wpAny_passesOwn hp (thn (hb _ s6 σ6 H6 _ I6 q6) fun f s7 q7=>?_)
    have again:∀{σ7:St} {H7:Hp},Inv X (pins++ZeN fp s5.heap) σ7 H7 s7→N σ7 H7→∃m,m<n∧∃i σ' H',Inv X pins σ' H' s7∧tn i s7.heap∧(∀b∈fp,H' b=none)∧W i m σ' H':=fun {σ7 H7} I7 n7=>by
      obtain ⟨m',hm,w7⟩:=hN σ7 H7 n7
      refine ⟨m',hm,i+1,σ7,H7,I7.unpinned,T.keep _ _ _ st5 fun b hb o e=>(I7.pin (b,o) (List.mem_append_right _ (List.mem_append_right _ (ZdE hb e)))).1,fun b hb=>?_,w7⟩
      obtain ⟨o,e,d⟩:=T.obj _ _ st5 b hb
      exact (I7.pin (b,o) (List.mem_append_right _ (List.mem_append_right _ (ZdE hb e)))).2.1
    cases f with
    | next=>obtain ⟨σ7,H7,I7,n7⟩:=q7; exact again I7 n7
    | cont=>obtain ⟨σ7,H7,I7,n7⟩:=q7; exact again I7 n7
    | brk=>obtain ⟨σ7,H7,I7,q7⟩:=q7; exact ⟨σ7,H7,I7.unpinned,q7⟩
    | ret v=>obtain ⟨x7,σ7,H7,I7,r7,q7⟩:=q7; exact ⟨x7,σ7,H7,I7.unpinned,r7,q7⟩
end
end L2
namespace L2
open PySem PySem.Spec PyProof.Rows
abbrev R2:=V→V→Hp→VK→Prop
def OpR (X:Cx) (f:Value→Value→Sem Value) (r:R2):Prop:=
  ∀(pins:List (Addr×Obj)) (s:Shared) (σ:St) (H:Hp) (x y:V) (v u:Value) (Q:VK),Inv X pins σ H s→RelV x v→RelV y u→r x y H Q→
    wpAny (model X.prog X.w) X.A (f v u) (EP X pins σ Q) X.xe s
def CallR (X:Cx) (f:Value) (r:List V→Hp→VK→Prop):Prop:=
  ∀(pins:List (Addr×Obj)) (s:Shared) (σ:St) (H:Hp) (xs:List V) (us:List Value) (Q:VK),Inv X pins σ H s→Vals xs us→r xs H Q→
    wpAny (model X.prog X.w) X.A (call f us) (EP X pins σ Q) X.xe s
def Zqj (X:Cx) (r:V→Hp→(Bool→Hp→Prop)→Prop):Prop:=
  ∀(pins:List (Addr×Obj)) (s:Shared) (σ:St) (H:Hp) (x:V) (v:Value) (Q:Bool→Hp→Prop),Inv X pins σ H s→RelV x v→r x H Q→
    wpAny (model X.prog X.w) X.A (truthy v) (TP X pins σ Q) X.xe s
def tOp (r:R2) (ta tb:TE):TE:=fun σ H Q=>ta σ H fun x H1=>tb σ H1 fun y H2=>r x y H2 Q
def rI (C:Int→Int→Prop) (g:Int→Int→V):R2:=fun x y H Q=>∃i j,x=.int i∧y=.int j∧C i j∧Q (g i j) H
def rI0 (g:Int→Int→V):R2:=fun x y H Q=>∃i j,x=.int i∧y=.int j∧Q (g i j) H
section
variable {X:Cx} {a b c:Expr} {ta tb tc:TE} {pos:Pos}
theorem ZmL (ha:PE X a ta) (hb:PE X b tb) {pins:List (Addr×Obj)} {s:Shared} {σ:St} {H:Hp} {R:V→V→Hp→Prop} (I:Inv X pins σ H s)
    (h:ta σ H fun x H1=>tb σ H1 fun y H2=>R x y H2) {Q:Value→Shared→Prop} {f:Value→Value→Sem Value}
    (hf:∀v u s2 x y H2,Inv X pins σ H2 s2→RelV x v→RelV y u→R x y H2→wpAny (model X.prog X.w) X.A (f v u) Q X.xe s2) :
    wpAny (model X.prog X.w) X.A (eval a X.env) (fun v s₁=>wpAny (model X.prog X.w) X.A (eval b X.env) (fun u s₂=>wpAny (model X.prog X.w) X.A (f v u) Q X.xe s₂) X.xe s₁) X.xe s:=by
  refine thn (ha pins s σ H _ I h) fun v s1 ⟨x,H1,I1,r1,q1⟩=>?_
  refine thn (hb pins s1 σ H1 _ I1 q1) fun u s2 ⟨y,H2,I2,r2,q2⟩=>?_
  exact hf v u s2 x y H2 I2 r1 r2 q2
theorem ZnJ {op:Operator} {r:R2} (ho:OpR X (binaryOp op) r) (ha:PE X a ta) (hb:PE X b tb):PE X (.BinOp a op b pos) (tOp r ta tb):=by
  intro pins s σ H Q I h
  exact wpAny_BinOp (ZmL ha hb I h fun v u s2 x y H2 I2 rx ry q=>ho pins s2 σ H2 x y v u Q I2 rx ry q)
theorem opI {f:Value→Value→Sem Value} {C:Int→Int→Prop} {g:Int→Int→Int}
    (rule:∀(i j:Int) (t u:Tok) (s:Shared) (Q:Value→Shared→Prop) (E:Value→Shared→Prop),C i j→Q (.int (g i j) s.toks) { s with toks:=s.toks+1 }→wpAny (model X.prog X.w) X.A (f (.int i t) (.int j u)) Q E s) :
    OpR X f (rI C fun i j=>.int (g i j)):=by
  intro pins s σ H x y v u Q I rx ry h
  obtain ⟨i,j,rfl,rfl,hc,q⟩:=h
  obtain ⟨t,rfl⟩:=rx
  obtain ⟨t',rfl⟩:=ry
  exact rule i j t t' s _ _ hc ⟨.int (g i j),H,I.tok _,⟨_,rfl⟩,q⟩
theorem ZnR {f:Value→Value→Sem Value} {g:Int→Int→Int}
    (rule:∀(i j:Int) (t u:Tok) (s:Shared) (Q:Value→Shared→Prop) (E:Value→Shared→Prop),Q (.int (g i j) s.toks) { s with toks:=s.toks+1 }→wpAny (model X.prog X.w) X.A (f (.int i t) (.int j u)) Q E s) :
    OpR X f (rI0 fun i j=>.int (g i j)):=by
  intro pins s σ H x y v u Q I rx ry h
  obtain ⟨i,j,rfl,rfl,q⟩:=h
  obtain ⟨t,rfl⟩:=rx
  obtain ⟨t',rfl⟩:=ry
  exact rule i j t t' s _ _ ⟨.int (g i j),H,I.tok _,⟨_,rfl⟩,q⟩
theorem ZkE {f:Value→Value→Sem Value} {g:Int→Int→Bool}
    (rule:∀(i j:Int) (t u:Tok) (s:Shared) (Q:Value→Shared→Prop) (E:Value→Shared→Prop),Q (.bool (g i j)) s→wpAny (model X.prog X.w) X.A (f (.int i t) (.int j u)) Q E s) :
    OpR X f (rI0 fun i j=>.bl (g i j)):=by
  intro pins s σ H x y v u Q I rx ry h
  obtain ⟨i,j,rfl,rfl,q⟩:=h
  obtain ⟨t,rfl⟩:=rx
  obtain ⟨t',rfl⟩:=ry
  exact rule i j t t' s _ _ ⟨.bl (g i j),H,I,rfl,q⟩
def CMul (i j:Int):Prop:=(-(2 ^ 64)<i∧i<2 ^ 64)∨(-(2 ^ 64)<j∧j<2 ^ 64)
theorem CMul.ok {i j:Int} (h:CMul i j):IntMulOk i j:=by
  rcases h with ⟨h1,h2⟩ | ⟨h1,h2⟩
  · exact .of_left (intBits_le_64 h1 h2)
  · exact .of_right (intBits_le_64 h1 h2)
theorem op_add:OpR X (binaryOp .Add) (rI0 fun i j=>.int (i+j)):=ZnR fun _ _ _ _ _ _ _ q=>add_int q
theorem Zml:OpR X (binaryOp .Sub) (rI0 fun i j=>.int (i-j)):=ZnR fun _ _ _ _ _ _ _ q=>sub_int q
theorem op_mul:OpR X (binaryOp .Mult) (rI CMul fun i j=>.int (i*j)):=opI fun _ _ _ _ _ _ _ hc q=>mul_int q hc.ok
theorem Zmo:OpR X (binaryOp .Mod) (rI (fun _ j=>0<j) fun i j=>.int (i % j)):=opI fun i j _ _ _ _ _ hc q=>by
  have h1:(0:Int)<j:=hc
  exact mod_int' (by omega) (by rw [Int.fmod_eq_emod_of_nonneg i (by omega)]; exact q)
end
section
variable {X:Cx} {a b c:Expr} {ta tb tc:TE} {pos:Pos}
theorem ZjJ {pins:List (Addr×Obj)} {σ:St} {H:Hp} {s:Shared} {Q:VK} {k k':Bool} (I:Inv X pins σ H s) (q:Q (.bl k) H) (e:k=k'):EP X pins σ Q (.bool k') s:=by
  subst e
  exact ⟨.bl k,H,I,rfl,q⟩
theorem ZnN:OpR X (compareOp .Lt) (rI0 fun i j=>.bl (decide (i<j))):=ZkE fun _ _ _ _ _ _ _ q=>lt_int q
theorem ZnO:OpR X (compareOp .LtE) (rI0 fun i j=>.bl (decide (i≤j))):=ZkE fun _ _ _ _ _ _ _ q=>le_int q
theorem ZnP:OpR X (compareOp .Gt) (rI0 fun i j=>.bl (decide (j<i))):=ZkE fun _ _ _ _ _ _ _ q=>gt_int q
theorem ZnQ:OpR X (compareOp .GtE) (rI0 fun i j=>.bl (decide (j≤i))):=ZkE fun _ _ _ _ _ _ _ q=>ge_int q
theorem op_isN:OpR X (compareOp .Is) (fun x y H Q=>y=.non∧Q (.bl (decide (x=.non))) H):=by
  intro pins s σ H x y v u Q I rx ry h
  obtain ⟨rfl,q⟩:=h
  cases ry
  refine is_none_gen (ZjJ I q ?_)
  cases x<;>first
    | (cases rx; rfl)
    | (obtain ⟨t,rfl⟩:=rx; rfl)
theorem op_notN:OpR X (compareOp .IsNot) (fun x y H Q=>y=.non∧Q (.bl (!decide (x=.non))) H):=by
  intro pins s σ H x y v u Q I rx ry h
  obtain ⟨rfl,q⟩:=h
  cases ry
  refine isnot_none_gen (ZjJ I q ?_)
  cases x<;>first
    | (cases rx; rfl)
    | (obtain ⟨t,rfl⟩:=rx; rfl)
theorem OpR.or {f:Value→Value→Sem Value} {r r':R2} (h:OpR X f r) (h':OpR X f r'):OpR X f (fun x y H Q=>r x y H Q∨r' x y H Q):=by
  intro pins s σ H x y v u Q I rx ry q
  rcases q with q | q
  · exact h pins s σ H x y v u Q I rx ry q
  · exact h' pins s σ H x y v u Q I rx ry q
theorem Zjf (b:Expr) {op:CmpOp} (h:op≠.In:=by decide) (h2:op≠.NotIn:=by decide):behindInMarks op b=false:=by
  have e1:(op == CmpOp.In)=false:=by cases op<;>first | rfl | exact absurd rfl h
  have e2:(op == CmpOp.NotIn)=false:=by cases op<;>first | rfl | exact absurd rfl h2
  cases b<;>simp [behindInMarks,e1,e2]
theorem ZkB {op:CmpOp} {r:R2} (ho:OpR X (compareOp op) r) (ha:PE X a ta) (hb:PE X b tb) (hm:behindInMarks op b=false):PE X (.Compare a [op] [b] pos) (tOp r ta tb):=by
  intro pins s σ H Q I h
  exact wpAny_Compare1 (ZmL ha hb I h fun v u s2 x y H2 I2 rx ry q=>ho pins s2 σ H2 x y v u Q I2 rx ry q) hm
def Znq (t:TE):TT:=fun σ H Q=>t σ H fun x H'=>∃k,x=.bl k∧Q k H'
theorem Zkq {op:CmpOp} {r:R2} (ho:OpR X (compareOp op) r) (ha:PE X a ta) (hb:PE X b tb) (hm:behindInMarks op b=false):PT X (.Compare a [op] [b] pos) (Znq (tOp r ta tb)):=by
  intro pins s σ H Q I h
  refine wpAny_isTrue_Compare1 (thn (ha pins s σ H _ I h) fun v s1 ⟨x,H1,I1,r1,q1⟩=>thn (hb pins s1 σ H1 _ I1 q1) fun u s2 ⟨y,H2,I2,r2,q2⟩=>
    thn (ho pins s2 σ H2 x y v u _ I2 r1 r2 q2) fun c s3 ⟨z,H3,I3,r3,k,e,q3⟩=>?_) hm
  subst e
  cases r3
  exact wpAny_truthy_bool ⟨H3,I3,q3⟩
def TruV (K:PySem.W.Frag) (x:V) (H:Hp) (k:Bool):Prop:=
  match x with
  | .non=>k=false
  | .bl b=>k=b
  | .int i=>k=(i != 0)
  | .str y=>y.length≤sizeLine∧k=((y.length:Int) != 0)
  | .byt y=>y.size≤sizeLine∧k=((y.size:Int) != 0)
  | .ref p=>(∃xs,SqL K H p xs∧k=!xs.isEmpty)∨(∃xs,SqT K H p xs∧k=!xs.isEmpty)∨∃kvs,H p=some (.dK kvs)∧k=!kvs.isEmpty
  | _=>False
theorem ZgA {κ:Type} {kvs:List (κ×V)} {vs:List (κ×Value)} (r:KV kvs vs):(!vs.isEmpty)=!kvs.isEmpty:=by
  cases r<;>rfl
theorem ZdJ {xs:List V} {its:List Value} (r:Vals xs its):(!its.toArray.isEmpty)=!xs.isEmpty:=by
  cases r<;>simp
theorem ZcV:(sizeLine:Nat)<2 ^ 63:=by rw [sizeLine_eq]; decide
theorem ZlK:Zqj X (fun x H Q=>∃k,TruV X.K x H k∧Q k H):=by
  intro pins s σ H x v Q I rx h
  obtain ⟨k,e,q⟩:=h
  have hl:=ZcV
  have hs:sizeLine=16777216:=sizeLine_eq
  cases x with
  | non=>
    cases rx
    have e':k=false:=e
    subst e'
    exact truthy_none ⟨H,I,q⟩
  | bl b=>
    cases rx
    have e':k=b:=e
    subst e'
    exact wpAny_truthy_bool ⟨H,I,q⟩
  | int i=>
    obtain ⟨t,rfl⟩:=rx
    have e':k=(i != 0):=e
    subst e'
    exact PySem.P.truthy_int ⟨H,I,q⟩
  | str y=>
    obtain ⟨t,rfl⟩:=rx
    obtain ⟨hy,e'⟩:y.length≤sizeLine∧k=((y.length:Int) != 0):=e
    subst e'
    exact PySem.P.truthy_str (by omega) ⟨H,I.tok _,q⟩
  | byt y=>
    obtain ⟨t,rfl⟩:=rx
    obtain ⟨hy,e'⟩:y.size≤sizeLine∧k=((y.size:Int) != 0):=e
    subst e'
    exact PySem.W.truthy_bytes (by omega) ⟨H,I.tok _,q⟩
  | ref p=>
    cases rx
    have e':(∃xs,SqL X.K H p xs∧k=!xs.isEmpty)∨(∃xs,SqT X.K H p xs∧k=!xs.isEmpty)∨∃kvs,H p=some (.dK kvs)∧k=!kvs.isEmpty:=e
    rcases e' with ⟨xs,hx,e'⟩ | ⟨xs,hx,e'⟩ | ⟨kvs,hx,e'⟩
    · subst e'
      obtain ⟨its,r,pl,hz⟩:=I.list hx
      have hlen:=r.length
      exact wpAny_truthy_list pl.isList (by simp only [List.size_toArray]; omega) ⟨H,I.tok _,by rw [ZdJ r]; exact q⟩
    · subst e'
      obtain ⟨its,r,pl,hz⟩:=I.tuple hx
      have hlen:=r.length
      exact truthy_tuple pl (by simp only [List.size_toArray]; omega) ⟨H,I.tok _,by rw [ZdJ r]; exact q⟩
    · subst e'
      obtain ⟨hz,hS,vs,r,m⟩:kvs.length≤sizeLine∧(p == sysModules)=false∧∃vs,KV kvs vs∧s.heap.DictOf (zn X.prog X.w) p vs:=I.hok p _ hx
      have hlen:kvs.length=vs.length:=Paired.length r
      exact wpAny_truthy_dict hS m (by omega) ⟨H,I.tok _,by rw [ZgA r]; exact q⟩
  | _=>exact (show False from e).elim
theorem ZiS (ha:PE X a ta) (he:∀whole,isTrue a X.env whole=(do let v ←whole; standAt a.pos; holding [v] (truthy v))) :
    PT X a (fun σ H Q=>ta σ H fun x H'=>∃k,TruV X.K x H' k∧Q k H'):=by
  intro pins s σ H Q I h
  exact isTrue_plain (thn (ha pins s σ H _ I h) fun v s1 ⟨x,H1,I1,r1,q1⟩=>ZlK pins s1 σ H1 x v Q I1 r1 q1) (he _)
theorem op_add_str:OpR X (binaryOp .Add) (fun x y H Q=>∃i j,x=.str i∧y=.str j∧i.length+j.length≤sizeLine∧Q (.str (i++j)) H):=by
  intro pins s σ H x y v u Q I rx ry h
  obtain ⟨i,j,rfl,rfl,hz,q⟩:=h
  obtain ⟨t,rfl⟩:=rx
  obtain ⟨t',rfl⟩:=ry
  exact add_str (fun t' tk=>⟨.str (i++j),H,I.tok _,⟨_,rfl⟩,q⟩) hz
theorem Zdo {x:V} {us:List Value} (r:Vals [x] us):∃u,us=[u]∧RelV x u:=by
  cases r with
  | cons r1 r2=>cases r2; exact ⟨_,rfl,r1⟩
theorem Zla {x y:V} {us:List Value} (r:Vals [x,y] us):∃u w',us=[u,w']∧RelV x u∧RelV y w':=by
  cases r with
  | cons r1 r2=>
    cases r2 with
    | cons r3 r4=>cases r4; exact ⟨_,_,rfl,r1,r3⟩
theorem ZhQ (hc:X.calm=true):CallR X (.builtin "min") (fun xs H Q=>∃i j,xs=[.int i,.int j]∧Q (.int (if j<i then j else i)) H):=by
  intro pins s σ H xs us Q I r h
  obtain ⟨i,j,rfl,q⟩:=h
  obtain ⟨u,w',rfl,⟨t,rfl⟩,⟨t',rfl⟩⟩:=Zla r
  refine min_two_ints (I.ok.hd hc) fun h' tk k=>⟨_,H,I.kept k,?_,q⟩
  by_cases hj:j<i
  · rw [if_pos hj,if_pos hj]; exact ⟨_,rfl⟩
  · rw [if_neg hj,if_neg hj]; exact ⟨_,rfl⟩
theorem ZhR:CallR X (.type "int") (fun xs H Q=>(∃i,xs=[.int i]∧Q (.int i) H)∨∃k,xs=[.bl k]∧Q (.int (if k then 1 else 0)) H):=by
  intro pins s σ H xs us Q I r h
  rcases h with ⟨i,rfl,q⟩ | ⟨k,rfl,q⟩
  · obtain ⟨u,rfl,t,rfl⟩:=Zdo r
    exact call_int_int ⟨.int i,H,I,⟨_,rfl⟩,q⟩
  · obtain ⟨u,rfl,r1⟩:=Zdo r
    cases r1
    exact call_int_bool ⟨.int (if k then 1 else 0),H,I.tok _,⟨_,rfl⟩,q⟩
end
end L2
namespace L2
open PySem PySem.Spec PyProof.Rows
structure ObjM (h:Heap) (x dx C:Addr) (mA:Str→Option Value):Prop where
  obj:h.get? x=some (PySem.W.instObj C dx)
  ns:h.Ns1 dx mA
  ne:dx≠x
theorem ZhE {h:Heap} {dx:Addr} {mA:Str→Option Value} (n:h.Ns1 dx mA):∃od,h.get? dx=some od∧∀name,PySem.W.lookIn name od=some (mA name):=by
  obtain ⟨o,es,ep,ho,hd,hk,_,hm⟩:=n
  refine ⟨o,ho,fun name=>?_⟩
  have e:=hm name
  unfold nsFind findBy at e
  rw [←Array.find?_toList] at e
  unfold PySem.W.lookIn
  rw [hd]
  dsimp only
  split
  · rename_i y q
    rw [q] at e
    exact congrArg some e
  · rename_i q
    rw [q] at e
    have a:es.toList.any (·.refKey)=false:=by
      rw [List.any_eq_false]
      intro y hy
      obtain ⟨z,t,hkey⟩:=hk y (Array.mem_toList_iff.mp hy)
      simp [DictEntry.refKey,hkey]
    have a':¬es.toList.any (·.refKey)=true:=by rw [a]; exact Bool.false_ne_true
    rw [if_neg a']
    exact congrArg some e
theorem ObjM.look {h:Heap} {x dx C:Addr} {mA:Str→Option Value} (I:ObjM h x dx C mA):∃od,PySem.W.InstAt h x (PySem.W.instObj C dx) C (some od)∧∀name,PySem.W.lookIn name od=some (mA name):=
  let ⟨od,ho,hl⟩:=ZhE I.ns
  ⟨od,⟨I.obj,rfl,rfl,ho⟩,hl⟩
section
variable {prog:Program} {w:World} {A:Around} {E:Value→Shared→Prop} {s:Shared} {K:PySem.W.Frag} {x dx C f:Addr} {mA:Str→Option Value} {name:Str} {v:Value}
theorem ZkV {expr:Bool} {Q:Value→Shared→Prop} (X:K.In s.heap) (I:ObjM s.heap x dx C mA) (hg:PySem.W.plainGet K C name=true) (hh:PySem.W.hasDictIn K C=true)
    (ha:PySem.W.findIn K (.ref C) name=some none) (hv:mA name=some v) (hv':PySem.W.handedIn v=true) (h:Q v { s with toks:=s.toks+1 }) :
    wpAny (model prog w) A (getAttr (.ref x) name expr) Q E s:=by
  obtain ⟨od,J,hl⟩:=I.look
  exact PySem.W.get_value X J (PySem.W.plainGet_of hg).1 (PySem.W.findObj_own hh ha rfl (by rw [hl,hv])) hv' h
theorem ZjG {pl:Sem Bool} {Q:Value×List Value→Shared→Prop} (X:K.In s.heap) (I:ObjM s.heap x dx C mA) (hg:PySem.W.plainGet K C name=true)
    (hf:PySem.W.findIn K (.ref C) name=some (some (.ref f))) (ht:PySem.W.isFn K (.ref f)=true) (hv:mA name=none) (h:Q (.ref f,[.ref x]) s) :
    wpAny (model prog w) A (getMethod (.ref x) name pl) Q E s:=by
  obtain ⟨od,J,hl⟩:=I.look
  exact PySem.W.method_fn X J (PySem.W.plainGet_of hg).1 (PySem.W.plainGet_of hg).2 hf (beq_iff_eq.mp ht) (by show (PySem.W.lookIn name od).map (·.isSome)=some false; rw [hl,hv]; rfl) h
theorem Zki {ns:List Str} {Q:Unit→Shared→Prop} (X:K.In s.heap) (I:ObjM s.heap x dx C mA)
    (hs:PySem.W.findIn K (.ref C) "__setattr__"=some (some (.builtin "object.__setattr__"))) (hp:PySem.W.plainOver K C=true) (ht:PySem.W.takerIn K C name=some none) (hh:PySem.W.hasDictIn K C=true)
    (hw:PySem.Within mA ns) (hsz:ns.length≤sizeLine)
    (h:∀h',ObjM h' x dx C (fun y=>if y=name then some v else mA y)→Heap.SameBut dx s.heap h'→Q () { s with heap:=h',toks:=s.toks+2 }) :
    wpAny (model prog w) A (setAttr (.ref x) name v) Q E s:=by
  obtain ⟨od,J,hl⟩:=I.look
  refine PySem.W.set_plain X J hs (PySem.W.osa_open (s:={ s with toks:=s.toks+1 }) (r:=none) X J hp ht fun b=>?_)
  obtain ⟨cd,hc,hd'⟩:=PySem.W.any_some hh
  have hx:s.heap.get? x=some ⟨.ref C,some dx,.plain,#[]⟩:=I.obj
  refine wpAny_bind (wpAny_pure (wpAny_bind (wpAny_bind (wpAny_loadPart hx (wpAny_bind (PySem.W.Looks.here (s:={ s with toks:=s.toks+1 }) (PySem.W.looks_clsIn X hc) ?_))))))
  rw [hd']
  refine wpAny_pure (a:=some dx) (wpAny_bind (wpAny_pure (wpAny_bind ?_)))
  refine wpAny_nsSet1 (s:={ s with toks:=s.toks+1 }) I.ns fun h' hn2 hs2=>?_
  obtain ⟨oD,esD,epD,hoD,hdD,hcD⟩:=hn2.count (PySem.Within.cons name v hw)
  refine wpAny_bind (wpAny_lookBehind hoD (by rw [hdD]; exact pastItsLine_dict (Nat.le_trans hcD (by rw [List.length_cons]; omega))) ?_)
  exact wpAny_pure (h _ ⟨(hs2.2 _ (Ne.symm I.ne)).trans I.obj,hn2,I.ne⟩ hs2)
theorem Zjp {R:Result→Shared→Prop} {vs:List Value} {kw:List (Str×Value)} (X:K.In s.heap) (hm:PySem.W.makesIn K C=true)
    (hi:PySem.W.findIn K (.ref C) "__init__"=some (some (.ref f))) (hf:PySem.W.typeIn K (.ref f)=some (.type "function"))
    (h:codeAny (model prog w) (A.under (.builtin "type.__call__" ⟨.ref C::vs,kw⟩)) (.call (.ref f) ⟨.ref (s.heap.objs.size+1)::vs,kw⟩) (PySem.W.InitBack (s.heap.objs.size+1) R)
      { s with heap:=(s.heap.push PySem.W.emptyDict).push (PySem.W.instObj C s.heap.objs.size) }) :
    codeAny (model prog w) A (.call (.ref C) ⟨vs,kw⟩) R s:=by
  obtain ⟨hh,g,d,t,os⟩:=s
  exact PySem.W.make_core (PySem.W.makes_of X hm) (PySem.W.looks_findIn X hi) (fun self=>PySem.W.bind_fn X self hf) (.inl rfl) h
end
def Za0 (f:Str) (v:V):List (Str×V)→List (Str×V)
  | []=>[(f,v)]
  | (g,x)::r=>if g=f then (g,v)::r else (g,x)::Za0 f v r
theorem Zc9 (f g:Str) (v:V):∀fs:List (Str×V),(Za0 f v fs).lookup g=if g=f then some v else fs.lookup g
  | []=>by
    show List.lookup g [(f,v)]=_
    by_cases h:g=f
    · have hb:(g == f)=true:=beq_iff_eq.mpr h
      simp only [List.lookup,hb,if_pos h]
    · have hb:(g == f)=false:=beq_eq_false_iff_ne.mpr h
      simp only [List.lookup,hb,if_neg h]
  | (k,x)::r=>by
    have ih:=Zc9 f g v r
    rw [show Za0 f v ((k,x)::r)=(if k=f then (k,v)::r else (k,x)::Za0 f v r) from rfl]
    by_cases hk:k=f
    · rw [if_pos hk]
      by_cases h:g=k
      · have hb:(g == k)=true:=beq_iff_eq.mpr h
        simp only [List.lookup,hb,if_pos (h.trans hk)]
      · have hb:(g == k)=false:=beq_eq_false_iff_ne.mpr h
        simp only [List.lookup,hb,if_neg (fun e:g=f=>h (e.trans hk.symm))]
    · rw [if_neg hk]
      by_cases h:g=k
      · have hb:(g == k)=true:=beq_iff_eq.mpr h
        simp only [List.lookup,hb,if_neg (fun e:g=f=>hk (h.symm.trans e))]
      · have hb:(g == k)=false:=beq_eq_false_iff_ne.mpr h
        simp only [List.lookup,hb]
        exact ih
theorem ZcX (f:Str) (v:V):∀fs:List (Str×V),f∈(Za0 f v fs).map (·.1)∧∀g,g∈fs.map (·.1)→g∈(Za0 f v fs).map (·.1)
  | []=>⟨by simp [Za0],fun g h=>by simp at h⟩
  | (k,x)::r=>by
    obtain ⟨i1,i2⟩:=ZcX f v r
    rw [show Za0 f v ((k,x)::r)=(if k=f then (k,v)::r else (k,x)::Za0 f v r) from rfl]
    by_cases hk:k=f
    · rw [if_pos hk]
      subst hk
      exact ⟨by simp,fun g h=>by simpa using h⟩
    · rw [if_neg hk]
      refine ⟨?_,fun g h=>?_⟩
      · rw [List.map_cons]
        exact List.mem_cons_of_mem _ i1
      · rw [List.map_cons] at h ⊢
        rcases List.mem_cons.mp h with e | e
        · exact List.mem_cons.mpr (.inl e)
        · exact List.mem_cons_of_mem _ (i2 g e)
theorem Zdb (f:Str) (v:V):∀fs:List (Str×V),(Za0 f v fs).length≤fs.length+1
  | []=>by simp [Za0]
  | (k,x)::r=>by
    have ih:=Zdb f v r
    rw [show Za0 f v ((k,x)::r)=(if k=f then (k,v)::r else (k,x)::Za0 f v r) from rfl]
    by_cases hk:k=f
    · rw [if_pos hk,List.length_cons,List.length_cons]; omega
    · rw [if_neg hk,List.length_cons,List.length_cons]; omega
theorem RelO.some_of {v:V} {o:Option Value} (r:RelO (some v) o):∃u,o=some u∧RelV v u:=by
  cases o with
  | none=>exact (show False from r).elim
  | some u=>exact ⟨u,rfl,r⟩
theorem RelO.none_of {o:Option Value} (r:RelO none o):o=none:=by
  cases o with
  | none=>rfl
  | some u=>exact (show False from r).elim
theorem ZhL {v:V} {u:Value} (r:RelV v u):PySem.W.handedIn u=true:=by
  cases v with
  | non=>cases (show u=Value.none from r); rfl
  | bl b=>cases (show u=Value.bool b from r); rfl
  | int i=>obtain ⟨t,e⟩:=(show ∃t,u=Value.int i t from r); cases e; rfl
  | str x=>obtain ⟨t,e⟩:=(show ∃t,u=Value.str x t from r); cases e; rfl
  | byt b=>obtain ⟨t,e⟩:=(show ∃t,u=Value.bytes b t from r); cases e; rfl
  | flt b=>obtain ⟨t,e⟩:=(show ∃t,u=Value.float b t from r); cases e; rfl
  | ref a=>cases (show u=Value.ref a from r); rfl
  | ty n=>cases (show u=Value.type n from r); rfl
section
variable {P:Program} {w:World} {H H':Hp} {h h':Heap} {a C dx:Addr} {fs fs':List (Str×V)}
theorem ZeU (hok:HOk P w H h) (e:H a=some (.ins C dx fs)):∃mA,ObjM h a dx C mA∧(∀f,RelO (fs.lookup f) (mA f))∧PySem.Within mA (fs.map (·.1))∧fs.length≤1000∧H dx=some (.own a):=by
  obtain ⟨d,z,ne,ob,mA,n,r,q⟩:=(show ObjOk P w H h a (.ins C dx fs) from hok a _ e)
  exact ⟨mA,⟨ob,n,ne⟩,r,q,z,d⟩
end
structure Cls (K:PySem.W.Frag) (C:Addr):Prop where
  pg:PySem.W.plainGet K C Str.empty=true
  hd:PySem.W.hasDictIn K C=true
  po:PySem.W.plainOver K C=true
  sa:PySem.W.findIn K (.ref C) "__setattr__"=some (some (.builtin "object.__setattr__"))
theorem Cls.get {K:PySem.W.Frag} {C:Addr} (c:Cls K C) (f:Str):PySem.W.plainGet K C f=true:=c.pg
def NoAttr (K:PySem.W.Frag) (C:Addr) (f:Str):Prop:=PySem.W.findIn K (.ref C) f=some none
theorem NoAttr.taker {K:PySem.W.Frag} {C:Addr} {f:Str} (n:NoAttr K C f):PySem.W.takerIn K C f=some none:=by
  unfold PySem.W.takerIn
  rw [show PySem.W.findIn K (.ref C) f=some none from n]
  rfl
structure Con (K:PySem.W.Frag) (C:Addr) (f:Str) (v:V) (u:Value):Prop where
  at_:PySem.W.findIn K (.ref C) f=some (some u)
  rel:RelV v u
  get:PySem.W.specialIn K u "__get__"=some none
  cp:PySem.W.copiedNames.contains f=false
structure ZhT (K:PySem.W.Frag) (C:Addr) (m:Str) (f:Addr):Prop where
  at_:PySem.W.findIn K (.ref C) m=some (some (.ref f))
  fn:PySem.W.isFn K (.ref f)=true
  kp:PySem.W.keepIn K (.ref f)=true
section
variable {X:Cx} {pins:List (Addr×Obj)} {σ:St} {H:Hp} {s:Shared} {a C dx:Addr} {fs:List (Str×V)} {f:Str} {v:V} {A:Around} {E:Value→Shared→Prop}
theorem ZgB {b:Bool} {Q:Value→Shared→Prop} (I:Inv X pins σ H s) (e:H a=some (.ins C dx fs)) (c:Cls X.K C) (n:NoAttr X.K C f) (l:fs.lookup f=some v)
    (h:∀u s',Inv X pins σ H s'→RelV v u→Q u s'):wpAny (model X.prog X.w) A (getAttr (.ref a) f b) Q E s:=by
  obtain ⟨mA,O,r,_,_,_⟩:=ZeU I.hok e
  obtain ⟨u,hu,ru⟩:=RelO.some_of (v:=v) (o:=mA f) (by rw [←l]; exact r f)
  exact ZkV I.kIn O (c.get f) c.hd n hu (ZhL ru) (h u _ (I.tok _) ru)
theorem ZdO {m:Str} {g:Addr} {pl:Sem Bool} {Q:Value×List Value→Shared→Prop} (I:Inv X pins σ H s) (e:H a=some (.ins C dx fs)) (c:Cls X.K C) (k:ZhT X.K C m g) (l:fs.lookup m=none)
    (h:Q (.ref g,[.ref a]) s):wpAny (model X.prog X.w) A (getMethod (.ref a) m pl) Q E s:=by
  obtain ⟨mA,O,r,_,_,_⟩:=ZeU I.hok e
  have hn:mA m=none:=RelO.none_of (by rw [←l]; exact r m)
  exact ZjG I.kIn O (c.get m) k.at_ k.fn hn h
theorem Zgl {y:V} {u:Value} {Q:Unit→Shared→Prop} (I:Inv X pins σ H s) (e:H a=some (.ins C dx fs)) (c:Cls X.K C) (n:NoAttr X.K C f) (hl:fs.length<1000) (ry:RelV y u)
    (h:∀s',Inv X pins σ (upd H a (.ins C dx (Za0 f y fs))) s'→Q () s'):wpAny (model X.prog X.w) A (setAttr (.ref a) f u) Q E s:=by
  obtain ⟨mA,O,r,wi,_,ho⟩:=ZeU I.hok e
  have hz:(fs.map (·.1)).length≤sizeLine:=by rw [List.length_map,sizeLine_eq]; omega
  refine Zki I.kIn O c.sa c.po n.taker c.hd wi hz fun h' O' sb=>h _ ?_
  have hd:∃o,h'.get? dx=some o:=let ⟨o,_,_,e',_⟩:=O'.ns; ⟨o,e'⟩
  refine I.write (x:=a) (e:=dx) (by rw [e]; exact True.intro) (.inr ho) (fun b q hb z=>(sb.2 b hb).trans z) hd ?_
  refine ⟨by rw [ZT O.ne]; exact ho,?_,O.ne,O'.obj,_,O'.ns,fun g=>?_,fun g hg=>?_⟩
  · have:=Zdb f y fs; omega
  · show RelO ((Za0 f y fs).lookup g) (if g=f then some u else mA g)
    rw [Zc9]
    by_cases q:g=f
    · rw [if_pos q,if_pos q]; exact ry
    · rw [if_neg q,if_neg q]; exact r g
  · by_cases q:g=f
    · rw [q]; exact (ZcX f y fs).1
    · refine (ZcX f y fs).2 g (wi g fun z=>hg ?_)
      show (if g=f then some u else mA g)=none
      rw [if_neg q]; exact z
theorem Inv.made (I:Inv X pins σ H s):Inv X pins σ (upd (upd H s.heap.objs.size (.own (s.heap.objs.size+1))) (s.heap.objs.size+1) (.ins C s.heap.objs.size []))
    { s with heap:=(s.heap.push PySem.W.emptyDict).push (PySem.W.instObj C s.heap.objs.size) }:=by
  have e1:(s.heap.push PySem.W.emptyDict).get? s.heap.objs.size=some PySem.W.emptyDict:=Heap.get?_push_size s.heap rfl
  have e2:((s.heap.push PySem.W.emptyDict).push (PySem.W.instObj C s.heap.objs.size)).get? (s.heap.objs.size+1)=some (PySem.W.instObj C s.heap.objs.size):=by
    have:=Heap.get?_push_size (s.heap.push PySem.W.emptyDict) (o:=PySem.W.instObj C s.heap.objs.size) rfl
    rwa [Heap.size_push] at this
  have e3:(s.heap.push PySem.W.emptyDict).Ns s.heap.objs.size (fun _=>none):=⟨PySem.W.emptyDict,#[],_,e1,rfl,(fun e he=>absurd he (by simp)),fun _=>rfl⟩
  have I1:=I.laid (a:=s.heap.objs.size) (o:=.own (s.heap.objs.size+1)) (h':=s.heap.push PySem.W.emptyDict) (t':=s.toks) (fun b u q=>Heap.get?_push_of_some _ q) (Nat.le_refl _) ⟨_,e1⟩
  refine I1.laid (a:=s.heap.objs.size+1) (o:=.ins C s.heap.objs.size []) (t':=s.toks) (fun b u q=>Heap.get?_push_of_some _ q) (Nat.le_of_eq (Heap.size_push _ _)) ?_
  have ne:s.heap.objs.size≠s.heap.objs.size+1:=Nat.ne_of_lt (Nat.lt_succ_self _)
  refine ⟨by rw [ZT ne,Z3],Nat.zero_le _,ne,e2,fun _=>none,(Heap.Ns1.of_empty e3).at fun o q=>Heap.get?_push_of_some _ q,fun _=>True.intro,fun y hy=>absurd rfl hy⟩
theorem Zk1 {prog:Program} {w:World} {env:Env} {e:Expr} {f:Str} {pos:Pos} {s:Shared} {Q:Value→Shared→Prop} (hb:attributeBase e f env (eval e env)=eval e env)
    (h:wpAny (model prog w) A (eval e env) (fun o s₁=>wpAny (model prog w) A (getAttr o f true) Q E s₁) E s):wpAny (model prog w) A (eval (.Attribute e f pos) env) Q E s:=
  Attribute_any_ h (by rw [arm_eval_Attribute,hb])
end
def ZpJ (K:PySem.W.Frag) (ta:TE) (f:Str):TE:=fun σ H Q=>ta σ H fun x H1=>∃a C dx fs v,x=.ref a∧H1 a=some (.ins C dx fs)∧Cls K C∧NoAttr K C f∧fs.lookup f=some v∧Q v H1
def ZpQ (K:PySem.W.Frag) (ta tv:TE) (f:Str):TS:=fun D σ H=>tv σ H fun y H1=>ta σ H1 fun x H2=>∃a C dx fs,x=.ref a∧H2 a=some (.ins C dx fs)∧Cls K C∧NoAttr K C f∧fs.length<1000∧
  D.nx σ (upd H2 a (.ins C dx (Za0 f y fs)))
section
variable {X:Cx} {o e value:Expr} {f:Str} {pos pos' tpos:Pos} {ta tv:TE}
theorem Zmj (he:PE X e ta) (hb:attributeBase e f X.env (eval e X.env)=eval e X.env):PE X (.Attribute e f pos) (ZpJ X.K ta f):=by
  intro pins s σ H Q I h
  refine Zk1 hb (thn (he pins s σ H _ I h) fun u s1 ⟨x,H1,I1,rx,a,C,dx,fs,v,ex,ea,c,n,l,q⟩=>?_)
  subst ex
  obtain rfl:u=Value.ref a:=rx
  exact ZgB I1 ea c n l fun u' s2 I2 ru=>⟨v,H1,I2,ru,q⟩
theorem Zmb (ha:PE X o ta) (hv:PE X value tv) (hs:swapsWith value (some (.Attribute o f pos')) pos.line X.env=pure false):PS X (.Assign [.Attribute o f pos'] value pos) (ZpQ X.K ta tv f):=by
  intro pins s σ H D I h
  refine plainObj_wpAny_Assign_Attribute (thn (hv pins s σ H _ I h) fun u s1 ⟨y,H1,I1,ry,q⟩=>thn (ha pins s1 σ H1 _ I1 q) fun ov s2 ⟨x,H2,I2,rx,a,C,dx,fs,ex,ea,c,n,l,q2⟩=>?_) hs
  subst ex
  obtain rfl:ov=Value.ref a:=rx
  exact Zgl I2 ea c n l ry fun s3 I3=>⟨σ,_,I3,q2⟩
theorem Zlo {pl:Sem Bool} {m:Str} {apos:Pos} {args:List Expr} {pins:List (Addr×Obj)} {s:Shared} {σ:St} {H:Hp} {Q:Value→Shared→Prop} {te:TE} (he:PE X e te) (I:Inv X pins σ H s)
    (h:te σ H fun x H1=>∃a C dx fs g,x=.ref a∧H1 a=some (.ins C dx fs)∧Cls X.K C∧ZhT X.K C m g∧fs.lookup m=none∧
      ∀s1,Inv X pins σ H1 s1→wpAny (model X.prog X.w) X.A (callWith pos (.ref g) [.ref a] (backTo pos (starEach args X.env)) (backToKw pos (keywordEach [] X.env))) Q X.xe s1)
    (ht:eval (.Call (.Attribute e m apos) args [] pos) X.env=(do
      let ov ←eval e X.env
      standAt apos.atName
      let (f,first) ←holding [ov] (getMethod ov m pl)
      callWith pos f first (backTo pos (starEach args X.env)) (backToKw pos (keywordEach [] X.env)))) :
    wpAny (model X.prog X.w) X.A (eval (.Call (.Attribute e m apos) args [] pos) X.env) Q X.xe s:=by
  refine PySem.W.methodCall_KW (pl:=pl) (thn (he pins s σ H _ I h) fun u s1 ⟨x,H1,I1,rx,a,C,dx,fs,g,ex,ea,c,k,l,q⟩=>?_) ht
  subst ex
  obtain rfl:u=Value.ref a:=rx
  exact ZdO I1 ea c k l (q s1 I1)
end
section
variable {X:Cx} {pins:List (Addr×Obj)} {σ:St} {H:Hp} {s:Shared} {A:Around} {E:Value→Shared→Prop} {Q:Value→Shared→Prop} {c:Value} {b:Bool}
inductive Zd5 (K:PySem.W.Frag) (H:Hp):V→Value→Prop where
  | non:Zd5 K H .non (.type "NoneType")
  | bl (x:Bool):Zd5 K H (.bl x) (.type "bool")
  | int (i:Int):Zd5 K H (.int i) (.type "int")
  | str (x:Str):Zd5 K H (.str x) (.type "str")
  | flt (x:UInt64):Zd5 K H (.flt x) (.type "float")
  | lst {a:Addr} {xs:List V} (e:H a=some (.lst xs)):Zd5 K H (.ref a) (.type "list")
  | frz {a:Addr} {o:Obj} {xs:List V} (e:H a=some (.frz o (.lst xs))):Zd5 K H (.ref a) (.type "list")
  | tup {a:Addr} {xs:List V} (e:H a=some (.tup xs)):Zd5 K H (.ref a) (.type "tuple")
  | dK {a:Addr} {kvs:List (Key×V)} (e:H a=some (.dK kvs)):Zd5 K H (.ref a) (.type "dict")
  | dT {a:Addr} {kvs:List (List Key×V)} (e:H a=some (.dT kvs)):Zd5 K H (.ref a) (.type "dict")
  | ins {a C dx:Addr} {fs:List (Str×V)} (e:H a=some (.ins C dx fs)) (cl:Cls K C) (ha:PySem.W.findIn K (.ref C) "__class__"=some (some (.builtin "object.__class__")))
      (hn:PySem.W.specialIn K (.builtin "object.__class__") "__get__"=some (some (.builtin "getset_descriptor.__get__"))) (htk:PySem.W.takesIn K (.builtin "object.__class__")=some true)
      (hm:PySem.W.mroIn K C (.type "object")=some true):Zd5 K H (.ref a) (.ref C)
end
end L2
namespace L2
open PySem PySem.Spec PyProof.Rows
structure Room (k:Nat) (A:Around):Prop where
  hd:A.handled=none
  dp:A.depth+3*k+5<recursionLimit
  un:A.units+16*k+200<cLine
theorem Room.mono {j k:Nat} {A:Around} (r:Room k A) (h:j≤k):Room j A:=⟨r.hd,by have:=r.dp; omega,by have:=r.un; omega⟩
theorem Room.deeper {k:Nat} {A:Around} (r:Room (k+1) A) (env:Env):Room k (A.deeper env):=
  ⟨r.hd,by have:=r.dp; show A.depth+1+3*k+5<_; omega,by have:=r.un; show A.units+3+16*k+200<_; omega⟩
theorem Zgt {A:Around} {C:Addr} {us:List Value} {kw:List (Str×Value)}:(A.under (.builtin "type.__call__" ⟨.ref C::us,kw⟩)).depth=A.depth+1:=by
  first | rfl | simp [Around.under,Code.weight,Code.isCreation,Code.isGuard,Code.isCaller,Code.frames,Code.isFrame,guardIds]
theorem Zgs {A:Around} {C:Addr} {us:List Value} {kw:List (Str×Value)}:(A.under (.builtin "type.__call__" ⟨.ref C::us,kw⟩)).units=A.units+1:=by
  first | rfl | simp [Around.under,Code.cUnits,Code.frames,Code.isFrame]
theorem Room.make {k:Nat} {A:Around} (r:Room (k+1) A) (C:Addr) (us:List Value) (kw:List (Str×Value)):Room k (A.under (.builtin "type.__call__" ⟨.ref C::us,kw⟩)):=
  ⟨r.hd,by have:=r.dp; rw [Zgt]; omega,by have:=r.un; rw [Zgs]; omega⟩
theorem Room.depth {k:Nat} {A:Around} (r:Room k A):A.depth<recursionLimit:=by have:=r.dp; omega
theorem Room.units {k:Nat} {A:Around} (r:Room k A):A.units+64<cLine:=by have:=r.un; omega
def Zkh:TA:=fun _ H Q=>Q [] H
def ZiL (ta:TE) (tr:TA):TA:=fun σ H Q=>ta σ H fun x H1=>tr σ H1 fun xs H2=>Q (x::xs) H2
section
variable {X:Cx} {e:Expr} {es:List Expr} {te:TE} {t:TA} {pos:Pos}
theorem Zgp:PA X [] Zkh:=fun _ _ _ _ H Q I h=>Calls.spliced_nil ⟨[],H,I,.nil,h⟩
theorem ZeO (ha:PE X e te) (hr:PA X es t) (hs:starEach (e::es) X.env=(false,eval e X.env)::starEach es X.env:=by rfl):PA X (e::es) (ZiL te t):=by
  intro pos pins s σ H Q I h
  rw [hs]
  show wpAny _ _ (spliced ((false,eval e X.env)::backTo pos (starEach es X.env))) _ _ s
  refine Calls.spliced_cons (thn (ha pins s σ H _ I h) fun u s1 ⟨x,H1,I1,r1,q1⟩=>?_)
  exact thn (hr pos pins s1 σ H1 _ I1 q1) fun us s2 ⟨xs,H2,I2,r2,q2⟩=>⟨x::xs,H2,I2,.cons r1 r2,q2⟩
def ZpA (t:TA):TE:=fun σ H Q=>t σ H fun xs H1=>xs.length≤sizeLine∧∀p,H1 p=none→Q (.ref p) (upd H1 p (.tup xs))
def ZpG (t:TA):TE:=fun σ H Q=>t σ H fun xs H1=>xs.length≤sizeLine∧∀p,H1 p=none→Q (.ref p) (upd H1 p (.lst xs))
theorem Zmf {x1} (h:PA X es t):PE X (.Tuple es x1 pos) (ZpA t):=by
  intro pins s σ H Q I hq
  refine wpAny_Tuple_spliced (thn (h pos pins s σ H _ I hq) fun us s1 ⟨xs,H1,I1,r,z,q⟩=>⟨by rw [←r.length]; exact z,?_⟩)
  have hf:H1 s1.heap.objs.size=none:=I1.hok.fresh (Nat.le_refl _)
  refine ⟨.ref s1.heap.objs.size,upd H1 s1.heap.objs.size (.tup xs),I1.laid (t':=s1.toks) (fun b u e=>Heap.get?_push_of_some _ e) (Nat.le_refl _) ?_,rfl,q _ hf⟩
  exact ⟨z,us,r,⟨_,Heap.get?_push_size _ rfl,rfl,_,rfl⟩⟩
theorem Zgo (h:PA X es t):PE X (.List es pos) (ZpG t):=by
  intro pins s σ H Q I hq
  refine wpAny_List_spliced (thn (h pos pins s σ H _ I hq) fun us s1 ⟨xs,H1,I1,r,z,q⟩=>⟨by rw [←r.length]; exact z,?_⟩)
  have hf:H1 s1.heap.objs.size=none:=I1.hok.fresh (Nat.le_refl _)
  refine ⟨.ref s1.heap.objs.size,upd H1 s1.heap.objs.size (.lst xs),I1.laid (t':=s1.toks) (fun b u e=>Heap.get?_push_of_some _ e) (Nat.le_refl _) ?_,rfl,q _ hf⟩
  exact ⟨z,us,0,r,Heap.get?_push_size _ rfl⟩
end
abbrev Sp:=List V→Hp→VK→XK→Prop
abbrev CXT:=List Env→Hp→Shared→XK→Value→Shared→Prop
structure Env0 (P:Program) (w:World) (K:PySem.W.Frag) (mg:Str→Option Value) (base:Heap) (A:Around) (outer:List Env) (s:Shared) (H:Hp):Prop where
  frames:A.frames=some outer
  mod:Mod K mg base
  bs:∀b o,base.get? b=some o→s.heap.get? b=some o∧H b=none
  bsz:base.objs.size≤s.heap.objs.size
  funs:s.heap.FunFrames base outer
  frf:∀b∈frs outer,H b=none
  hok:HOk P w H s.heap
  bare:AllBare s.gens
def CE (outer:List Env) (P:Program) (w:World) (H:Hp) (s:Shared) (Q:VK) (u:Value) (s':Shared):Prop:=
  ∃v H',s'.os=s.os∧AllBare s'.gens∧Un (frs outer) [] H H' s.heap s'.heap∧HOk P w H' s'.heap∧RelV v u∧Q v H'
def CR (CX:CXT) (outer:List Env) (P:Program) (w:World) (H:Hp) (s:Shared) (Q:VK) (E:XK) (r:Result) (s':Shared):Prop:=
  match r with
  | .ok (.ret u)=>CE outer P w H s Q u s'
  | .ok _=>False
  | .error e=>CX outer H s E e s'
structure FnOk (P:Program) (w:World) (K:PySem.W.Frag) (mg:Str→Option Value) (base:Heap) (CX:CXT) (k:Nat) (f:Addr) (fd:FuncData) (ps:List Str) (sp:Sp):Prop where
  len:∀vs H Q E,sp vs H Q E→vs.length=ps.length
  run:∀(A:Around) (outer:List Env) (s:Shared) (H:Hp) (args:Args) (us:List Value) (vs:List V) (Q:VK) (E:XK),Room k A→Env0 P w K mg base A outer s H→BindsTo s fd args (ps.zip us)→Vals vs us→sp vs H Q E→
    codeAny (model P w) A (.call (.ref f) args) (CR CX outer P w H s Q E) s
theorem FnOk.imp {P:Program} {w:World} {K:PySem.W.Frag} {mg:Str→Option Value} {base:Heap} {CX:CXT} {k:Nat} {f:Addr} {fd:FuncData} {ps:List Str} {sp sp':Sp} (F:FnOk P w K mg base CX k f fd ps sp)
    (h:∀vs H Q E,sp' vs H Q E→sp vs H Q E):FnOk P w K mg base CX k f fd ps sp':=
  ⟨fun vs H Q E q=>F.len vs H Q E (h _ _ _ _ q),fun A outer s H args us vs Q E hr he hb hv hs=>F.run A outer s H args us vs Q E hr he hb hv (h _ _ _ _ hs)⟩
theorem Env0.make {P:Program} {w:World} {K:PySem.W.Frag} {mg:Str→Option Value} {base:Heap} {A:Around} {outer:List Env} {s:Shared} {H:Hp} (e:Env0 P w K mg base A outer s H) (C:Addr) (us:List Value) (kw:List (Str×Value)) :
    Env0 P w K mg base (A.under (.builtin "type.__call__" ⟨.ref C::us,kw⟩)) outer s H:=⟨by first | exact e.frames | (simpa [Around.under,Code.envs,Code.isFrame,pushEnvs] using e.frames),e.mod,e.bs,e.bsz,e.funs,e.frf,e.hok,e.bare⟩
section
variable {X:Cx} {pins:List (Addr×Obj)} {σ:St} {H:Hp} {s s':Shared}
theorem Inv.env0 (I:Inv X pins σ H s):Env0 X.prog X.w X.K X.mg X.base X.A X.stack s H:=
  ⟨I.ok.frames,I.ok.mod,I.bs,Nat.le_trans I.ok.bsz I.sz,I.stack,I.stkFree,I.hok,I.bare⟩
theorem Inv.after {Q:VK} {u:Value} (I:Inv X pins σ H s) (h:CE X.stack X.prog X.w H s Q u s'):EP X pins σ Q u s':=by
  obtain ⟨v,H',os,bare,un,hok,r,q⟩:=h
  obtain ⟨hh,g,d,t,os'⟩:=s'
  obtain rfl:os'=s.os:=os
  exact ⟨v,H',I.call (h':=hh) (g':=g) (d':=d) (t':=t) (ch:=[]) un hok bare (fun b z=>absurd z (by simp)),r,q⟩
end
def Zlf (sp:Sp) (dvs:List V) (E:XK) (t:TA):TE:=fun σ H Q=>t σ H fun vs H1=>sp (vs++dvs) H1 Q E
def Znt (C:Addr) (m:Str) (sp:Sp) (dvs:List V) (E:XK) (ta:TE) (t:TA):TE:=fun σ H Q=>ta σ H fun x H1=>∃a dx fs,x=.ref a∧H1 a=some (.ins C dx fs)∧fs.lookup m=none∧
  t σ H1 fun vs H2=>sp (x::(vs++dvs)) H2 Q E
def Zld (C:Addr) (sp:Sp) (dvs:List V) (E:XK) (t:TA):TE:=fun σ H Q=>t σ H fun vs H1=>∀x dx,H1 x=none→H1 dx=none→dx≠x→
  sp (.ref x::(vs++dvs)) (upd (upd H1 dx (.own x)) x (.ins C dx [])) (fun v H2=>v=.non∧Q (.ref x) H2) E
def Binds (K:PySem.W.Frag) (fd:FuncData) (ps:List Str) (ds:List Value):Prop:=
  ∀(s:Shared) (us:List Value),K.In s.heap→(us++ds).length=ps.length→BindsTo s fd ⟨us,[]⟩ (ps.zip (us++ds))
theorem Binds.all {K:PySem.W.Frag} {fd:FuncData} {ps:List Str} (h:∀us:List Value,us.length=ps.length→bindArgs fd ⟨us,[]⟩=pure (ps.zip us)):Binds K fd ps []:=fun s us _ hl=>by
  rw [List.append_nil] at hl ⊢
  exact .of_eq (h us hl)
def Zcs (CX:CXT) (X:Cx) (E:XK):Prop:=∀(pins:List (Addr×Obj)) (σ:St) (H:Hp) (s:Shared) (e:Value) (s':Shared),Inv X pins σ H s→CX X.stack H s E e s'→X.xe e s'
section
variable {X:Cx} {CX:CXT} {k:Nat} {f C:Addr} {fd:FuncData} {ps:List Str} {sp:Sp} {dvs:List V} {ds:List Value} {E:XK} {x m:Str} {p pos apos:Pos} {e o:Expr} {es:List Expr} {ta:TE} {t:TA}
theorem ZiQ {pins:List (Addr×Obj)} {σ:St} {H:Hp} {s:Shared} {Q:VK} {us:List Value} {vs:List V} (F:FnOk X.prog X.w X.K X.mg X.base CX k f fd ps sp) (hr:Room k X.A) (hb:Binds X.K fd ps ds) (hd:Vals dvs ds) (hx:Zcs CX X E)
    (I:Inv X pins σ H s) (r:Vals vs us) (h:sp (vs++dvs) H Q E):wpAny (model X.prog X.w) X.A (call (.ref f) us) (EP X pins σ Q) X.xe s:=by
  have r2:Vals (vs++dvs) (us++ds):=r.append hd
  have hl:(us++ds).length=ps.length:=by rw [←r2.length]; exact F.len _ _ _ _ h
  refine wpAny_call (codeAny_mono (F.run X.A X.stack s H ⟨us,[]⟩ (us++ds) (vs++dvs) Q E hr I.env0 (hb s us I.kIn hl) r2 h) fun r s' hq=>?_)
  cases r with
  | error e=>exact hx pins σ H s e s' I hq
  | ok fl=>
    cases fl with
    | ret u=>exact I.after hq
    | next=>exact False.elim hq
    | brk=>exact False.elim hq
    | cont=>exact False.elim hq
theorem ZkC (F:FnOk X.prog X.w X.K X.mg X.base CX k f fd ps sp) (hr:Room k X.A) (hg:Gl X x) (hm:X.mg x=some (.ref f)) (hk:PySem.W.keepIn X.K (.ref f)=true) (hb:Binds X.K fd ps ds) (hd:Vals dvs ds) (hx:Zcs CX X E)
    (ha:PA X (e::es) t) (hdb:(x == ("__debug__":Str))=false:=by decide) (he:starEach (e::es) X.env=(false,eval e X.env)::starEach es X.env:=by rfl) (hpl:(backTo pos (starEach es X.env)).any (·.1)=false:=by rfl) :
    PE X (.Call (.Name x p) (e::es) [] pos) (Zlf sp dvs E t):=by
  intro pins s σ H Q I h
  refine wpAny_Call_Name_kw (Zdk I hg hm ?_ hdb)
  refine PySem.W.callWith_K (h₀:=X.base) I.ok.mod.kin hk (thn (ha pos pins s σ H _ I h) fun us s1 ⟨vs,H1,I1,r,q⟩=>⟨I1.kIn,?_⟩) he hpl
  exact ZiQ F hr hb hd hx I1 r q
theorem Zky {pl:Sem Bool} (he:PE X o ta) (c:Cls X.K C) (hm:ZhT X.K C m f) (F:FnOk X.prog X.w X.K X.mg X.base CX k f fd ps sp) (hr:Room k X.A) (hb:Binds X.K fd ps ds) (hd:Vals dvs ds) (hx:Zcs CX X E) (ha:PA X (e::es) t)
    (hst:starEach (e::es) X.env=(false,eval e X.env)::starEach es X.env:=by rfl) (hpl:(backTo pos (starEach es X.env)).any (·.1)=false:=by rfl)
    (ht:eval (.Call (.Attribute o m apos) (e::es) [] pos) X.env=(do
      let ov ←eval o X.env
      standAt apos.atName
      let (f,first) ←holding [ov] (getMethod ov m pl)
      callWith pos f first (backTo pos (starEach (e::es) X.env)) (backToKw pos (keywordEach [] X.env))):=by rfl) :
    PE X (.Call (.Attribute o m apos) (e::es) [] pos) (Znt C m sp dvs E ta t):=by
  intro pins s σ H Q I h
  refine PySem.W.methodCall_KW (pl:=pl) (thn (he pins s σ H _ I h) fun u s1 ⟨x,H1,I1,rx,a,dx,fs,ex,ea,l,q⟩=>?_) ht
  subst ex
  obtain rfl:u=Value.ref a:=rx
  refine ZdO I1 ea c hm l ?_
  refine PySem.W.callWith_K (first:=[.ref a]) (h₀:=X.base) I.ok.mod.kin hm.kp (thn (ha pos pins s1 σ H1 _ I1 q) fun us s2 ⟨vs,H2,I2,r,q2⟩=>⟨I2.kIn,?_⟩) hst hpl
  exact ZiQ (us:=.ref a::us) (vs:=.ref a::vs) F hr hb hd hx I2 (.cons rfl r) q2
structure Mk (K:PySem.W.Frag) (C f:Addr):Prop where
  makes:PySem.W.makesIn K C=true
  init:PySem.W.findIn K (.ref C) "__init__"=some (some (.ref f))
  fn:PySem.W.isFn K (.ref f)=true
  kp:PySem.W.keepIn K (.ref C)=true
theorem ZfR {pins:List (Addr×Obj)} {σ:St} {H:Hp} {s:Shared} {Q:VK} {us:List Value} {vs:List V} (M:Mk X.K C f) (F:FnOk X.prog X.w X.K X.mg X.base CX k f fd ps sp) (hr:Room (k+1) X.A) (hb:Binds X.K fd ps ds) (hd:Vals dvs ds)
    (hx:Zcs CX X E) (I:Inv X pins σ H s) (r:Vals vs us)
    (h:∀x dx,H x=none→H dx=none→dx≠x→sp (.ref x::(vs++dvs)) (upd (upd H dx (.own x)) x (.ins C dx [])) (fun v H2=>v=.non∧Q (.ref x) H2) E) :
    wpAny (model X.prog X.w) X.A (call (.ref C) us) (EP X pins σ Q) X.xe s:=by
  have hq:=h (s.heap.objs.size+1) s.heap.objs.size (I.hok.fresh (Nat.le_succ _)) (I.hok.fresh (Nat.le_refl _)) (Nat.ne_of_lt (Nat.lt_succ_self _))
  have I2:=Inv.made (C:=C) I
  have r2:Vals (V.ref (s.heap.objs.size+1)::(vs++dvs)) (Value.ref (s.heap.objs.size+1)::(us++ds)):=.cons rfl (r.append hd)
  have hl:(Value.ref (s.heap.objs.size+1)::us++ds).length=ps.length:=by
    have e:=r2.length
    rw [F.len _ _ _ _ hq] at e
    exact e.symm
  refine wpAny_call (Zjp (f:=f) I.kIn M.makes M.init (beq_iff_eq.mp M.fn) (codeAny_mono (F.run _ X.stack _ _ ⟨Value.ref (s.heap.objs.size+1)::us,[]⟩ (Value.ref (s.heap.objs.size+1)::(us++ds)) _ _ E (hr.make C us [])
    (I2.env0.make C us []) (hb _ (Value.ref (s.heap.objs.size+1)::us) I2.kIn hl) r2 hq) fun r s' hq'=>?_))
  cases r with
  | error e=>exact hx pins σ _ _ e s' I2 hq'
  | ok fl=>
    cases fl with
    | ret u=>
      obtain ⟨v,H',I3,rv,ev,q3⟩:=I2.after hq'
      subst ev
      exact ⟨rv,⟨V.ref (s.heap.objs.size+1),H',I3,rfl,q3⟩⟩
    | next=>exact False.elim hq'
    | brk=>exact False.elim hq'
    | cont=>exact False.elim hq'
theorem Zkz (M:Mk X.K C f) (F:FnOk X.prog X.w X.K X.mg X.base CX k f fd ps sp) (hr:Room (k+1) X.A) (hg:Gl X x) (hm:X.mg x=some (.ref C)) (hb:Binds X.K fd ps ds) (hd:Vals dvs ds) (hx:Zcs CX X E)
    (ha:PA X (e::es) t) (hdb:(x == ("__debug__":Str))=false:=by decide) (he:starEach (e::es) X.env=(false,eval e X.env)::starEach es X.env:=by rfl) (hpl:(backTo pos (starEach es X.env)).any (·.1)=false:=by rfl) :
    PE X (.Call (.Name x p) (e::es) [] pos) (Zld C sp dvs E t):=by
  intro pins s σ H Q I h
  refine wpAny_Call_Name_kw (Zdk I hg hm ?_ hdb)
  refine PySem.W.callWith_K (h₀:=X.base) I.ok.mod.kin M.kp (thn (ha pos pins s σ H _ I h) fun us s1 ⟨vs,H1,I1,r,q⟩=>⟨I1.kIn,?_⟩) he hpl
  exact ZfR M F hr hb hd hx I1 r q
theorem Zi0 (M:Mk X.K C f) (F:FnOk X.prog X.w X.K X.mg X.base CX k f fd ps sp) (hr:Room (k+1) X.A) (hg:Gl X x) (hm:X.mg x=some (.ref C)) (hb:Binds X.K fd ps ds) (hd:Vals dvs ds) (hx:Zcs CX X E)
    (hdb:(x == ("__debug__":Str))=false:=by decide):PE X (.Call (.Name x p) [] [] pos) (Zld C sp dvs E Zkh):=by
  intro pins s σ H Q I h
  refine wpAny_Call_Name_kw (Zdk I hg hm ?_ hdb)
  exact PySem.W.callWith_K0 I.kIn M.kp (ZfR (us:=[]) M F hr hb hd hx I .nil h)
end
section
variable {X:Cx} {CX:CXT} {k:Nat} {f C:Addr} {fd:FuncData} {ps ks:List Str} {sp:Sp} {E:XK} {x m:Str} {p pos apos kpos:Pos} {e o:Expr} {es:List Expr} {kws:List Keyword} {te ta:TE} {t tk:TA} {nm:Option Str}
structure Zql (K:PySem.W.Frag) (fd:FuncData) (ps ks:List Str) (g:List Value→List Value→List Value) (gV:List V→List V→List V):Prop where
  to:∀(s:Shared) (us ws:List Value),K.In s.heap→(g us ws).length=ps.length→BindsTo s fd ⟨us,ks.zip ws⟩ (ps.zip (g us ws))
  rel:∀{vs:List V} {us:List Value} {zs:List V} {ws:List Value},Vals vs us→Vals zs ws→Vals (gV vs zs) (g us ws)
variable {g:List Value→List Value→List Value} {gV:List V→List V→List V}
end
structure Zp (N P:List Str) (sc:Scope):Prop where
  kind:sc.kind=.function
  co:sc.isCoroutine=false
  gen:sc.isGenerator=false
  nd:N.Nodup
  pre:N.take P.length=P
  par:∀x∈P,sc.names.lookup x=some .local∨sc.names.lookup x=some .cell
  nofree:∀y∈sc.names,y.2≠.free
theorem Zev {kindOf:Str→Option NameKind} {x:Str}:∀{binds:List (Str×Value)} {m:Str→Option Value},(∀v,(x,v)∉binds)→bindL kindOf binds m x=m x
  | [],_,_=>rfl
  | (n,v)::r,m,h=>by
    unfold bindL
    rw [Zev fun w hw=>h w (List.mem_cons_of_mem _ hw)]
    split
    · have:x≠n:=by rintro rfl; exact h v List.mem_cons_self
      simp [this]
    · rfl
theorem Zex {kindOf:Str→Option NameKind} {x:Str}:∀{binds:List (Str×Value)} {m:Str→Option Value},(∀v,(x,v)∉binds)→bindC kindOf binds m x=m x
  | [],_,_=>rfl
  | (n,v)::r,m,h=>by
    unfold bindC
    rw [Zex fun w hw=>h w (List.mem_cons_of_mem _ hw)]
    split
    · rfl
    · have:x≠n:=by rintro rfl; exact h v List.mem_cons_self
      simp [this]
theorem Zew {kindOf:Str→Option NameKind} {x:Str} {v:Value}:∀{P:List Str} {vs:List Value} {i:Nat} {m:Str→Option Value},P.Nodup→P[i]?=some x→vs[i]?=some v→kindOf x=some .local→
    bindL kindOf (P.zip vs) m x=some v
  | [],_,_,_,_,h,_,_=>by simp at h
  | _::_,[],_,_,_,_,h,_=>by simp at h
  | p::P,w::vs,0,m,nd,h1,h2,hk=>by
    simp at h1 h2; subst h1; subst h2
    show bindL kindOf ((p,w)::P.zip vs) m p=_
    unfold bindL
    rw [Zev fun v hv=>(List.nodup_cons.mp nd).1 (List.of_mem_zip hv).1,if_pos hk]
    simp
  | p::P,w::vs,i+1,m,nd,h1,h2,hk=>by
    show bindL kindOf ((p,w)::P.zip vs) m x=_
    unfold bindL
    exact Zew (i:=i) (List.nodup_cons.mp nd).2 (by simpa using h1) (by simpa using h2) hk
theorem Zey {kindOf:Str→Option NameKind} {x:Str} {v:Value}:∀{P:List Str} {vs:List Value} {i:Nat} {m:Str→Option Value},P.Nodup→P[i]?=some x→vs[i]?=some v→kindOf x≠some .local→
    bindC kindOf (P.zip vs) m x=some v
  | [],_,_,_,_,h,_,_=>by simp at h
  | _::_,[],_,_,_,_,h,_=>by simp at h
  | p::P,w::vs,0,m,nd,h1,h2,hk=>by
    simp at h1 h2; subst h1; subst h2
    show bindC kindOf ((p,w)::P.zip vs) m p=_
    unfold bindC
    rw [Zex fun v hv=>(List.nodup_cons.mp nd).1 (List.of_mem_zip hv).1,if_neg hk]
    simp
  | p::P,w::vs,i+1,m,nd,h1,h2,hk=>by
    show bindC kindOf ((p,w)::P.zip vs) m x=_
    unfold bindC
    exact Zey (i:=i) (List.nodup_cons.mp nd).2 (by simpa using h1) (by simpa using h2) hk
def Zbu (N:List Str) (vs:List V):St:=vs.map some++List.replicate (N.length-vs.length) none
def Zc1 (CX:CXT) (P:Program) (w:World) (K:PySem.W.Frag) (mg:Str→Option Value) (base:Heap) (N:List Str) (qual:Str) (scope:Scope) (f:Addr) (cd:Value) (A:Around) (outer:List Env) (s:Shared) (H:Hp) (E:XK):Cx where
  prog:=P
  w:=w
  K:=K
  mg:=mg
  base:=base
  A:=A.deeper (envOfC qual scope s.heap.objs.size f cd)
  N:=N
  s₀:=s
  H₀:=H
  env:=envOfC qual scope s.heap.objs.size f cd
  outer:=outer
  stack:=envOfC qual scope s.heap.objs.size f cd::outer
  ex:=[]
  calm:=true
  fn:=fun _=>true
  pn:=[]
  xe:=fun e s'=>wpAny (model P w) (A.deeper (envOfC qual scope s.heap.objs.size f cd)) (leaving (envOfC qual scope s.heap.objs.size f cd) e) (fun _ s''=>CX outer H s E e s'') (fun e' s''=>CX outer H s E e' s'') s'
theorem Zgd {sc:Scope} {n:Nat} {x:Str} (h:sc.names.lookup x=some .cell):∃c,(cellsFrom n sc.names []).lookup x=some c:=by
  have q:=PySem.W.cellsFrom_some sc.names n [] (.inl h)
  exact Option.isSome_iff_exists.mp q
theorem ZhH {CX:CXT} {P:Program} {w:World} {K:PySem.W.Frag} {mg:Str→Option Value} {base:Heap} {N ps:List Str} {qual:Str} {scope:Scope} {f:Addr} {cd:Value} {A:Around} {outer:List Env} {s s1:Shared} {H:Hp} {E:XK} {us:List Value} {vs:List V}
    (S:Zp N ps scope) (hd:A.handled=none) (e0:Env0 P w K mg base A outer s H) (hl:vs.length=ps.length) (r:Vals vs us)
    (x:InCallC s s.heap.objs.size (bindL (envOfC qual scope s.heap.objs.size f cd).kindOf (ps.zip us) fun _=>none) (cellsFrom (s.heap.objs.size+1) scope.names []) (bindC (envOfC qual scope s.heap.objs.size f cd).kindOf (ps.zip us) fun _=>none) s1) :
    Inv (Zc1 CX P w K mg base N qual scope f cd A outer s H E) [] (Zbu N vs) H s1:=by
  have hpl:ps.length≤N.length:=by have:=congrArg List.length S.pre; rw [List.length_take] at this; omega
  obtain ⟨h1,tk,rfl,hk⟩:=x.done
  have noA:∀b:Addr,b∉(Zc1 CX P w K mg base N qual scope f cd A outer s H E).ex:=fun b z=>absurd (show b∈([]:List Addr) from z) (by simp)
  refine ⟨⟨e0.mod,S.kind,rfl,rfl,Nat.le_refl _,fun y z c h1 h2=>?_,fun y hy=>?_,fun y c _ h=>?_,fun _=>hd,Around.frames_deeper e0.frames,.inr ⟨rfl,rfl⟩,fun b z=>absurd z (noA b),e0.bs,e0.bsz,fun b _ _=>noA b,fun b z=>absurd z (noA b),e0.funs,e0.frf⟩,
    rfl,e0.bare,Un.kept hk,⟨_,x.toInCall.ns,fun i y v h1 h2 h3=>?_⟩,fun y c h=>⟨_,x.cell y c h⟩,e0.hok.fresh (Nat.le_refl _),fun y c h=>?_,fun p hp=>absurd (show p∈([]:List (Addr×Obj)) from hp) (by simp),e0.hok.kept hk,?_⟩
  · exact name_of_addr x.apart (PySem.mem_of_lookup h1) (PySem.mem_of_lookup h2)
  · have hy:scope.names.lookup y=some .cell∨scope.names.lookup y=some .free:=hy
    rcases hy with hy | hy
    · exact Zgd hy
    · exact absurd rfl (S.nofree _ (PySem.mem_of_lookup hy))
  · exact Nat.le_of_lt (x.above y c (PySem.mem_of_lookup h))
  · have hi:i<vs.length:=by
      unfold Zbu at h2
      by_cases hi:i<vs.length
      · exact hi
      · rw [List.getElem?_append_right (by simpa using hi)] at h2
        rw [List.getElem?_replicate] at h2
        split at h2<;>cases h2
    have ha:vs[i]?=some v:=by
      unfold Zbu at h2
      rw [List.getElem?_append_left (by simpa using hi),List.getElem?_map] at h2
      cases e:vs[i]? with
      | none=>rw [e] at h2; cases h2
      | some a=>rw [e] at h2; cases h2; rfl
    obtain ⟨u,hu,rv⟩:=r.get ha
    have hp:ps[i]?=some y:=by
      rw [←S.pre,List.getElem?_take_of_lt (by omega)]; exact h1
    have ndP:ps.Nodup:=by rw [←S.pre]; exact S.nd.sublist (List.take_sublist _ _)
    refine ⟨u,rv,?_⟩
    rcases S.par y (List.mem_of_getElem? hp) with k | k
    · exact .inl ⟨k,Zew ndP hp hu k⟩
    · obtain ⟨c,e⟩:=Zgd (n:=s.heap.objs.size+1) k
      refine .inr ⟨.inl k,c,e,?_⟩
      have q:=x.cell y c e
      rw [Zey ndP hp hu (by show scope.names.lookup y≠_; rw [k]; decide)] at q
      exact q
  · exact e0.hok.fresh (Nat.le_of_lt (x.above y c (PySem.mem_of_lookup h)))
  · unfold Zbu
    show _=N.length
    rw [List.length_append,List.length_map,List.length_replicate]
    omega
theorem Zod {CX:CXT} {P:Program} {w:World} {K:PySem.W.Frag} {mg:Str→Option Value} {base:Heap} {k:Nat} {f:Addr} {name qual:Str} {params:Arguments} {body:List Stmt} {scope:Scope} {dV kV doc pm cdv ct oc:Value} {an od:Option Addr}
    {osl:Array (Option Value)} {N ps:List Str} {sp:Sp} (lk:K.lookup f=some ⟨oc,od,.func (PySem.W.fnOf name qual params body scope dV kV doc pm an cdv ct),osl⟩) (hcd:PySem.W.codeIn K cdv qual=true) (S:Zp N ps scope)
    (len:∀vs H Q E,sp vs H Q E→vs.length=ps.length)
    (hbody:∀(A:Around) (outer:List Env) (s:Shared) (H:Hp) (vs:List V) (Q:VK) (E:XK),Room k (A.deeper (envOfC qual scope s.heap.objs.size f cdv))→sp vs H Q E→
      ∃t,PSs (Zc1 CX P w K mg base N qual scope f cdv A outer s H E) body t∧t { nx:=fun _ H'=>Q .non H',rt:=Q } (Zbu N vs) H) :
    FnOk P w K mg base CX (k+1) f (PySem.W.fnOf name qual params body scope dV kV doc pm an cdv ct) ps sp:=by
  refine ⟨len,fun A outer s H args us vs Q E hr e0 hb r hsp=>?_⟩
  have hl:=len _ _ _ _ hsp
  have KX:K.In s.heap:=e0.mod.kin.keeps fun b o e=>(e0.bs b o e).1
  have lim:s.heap.NoLimit:=e0.mod.nolimit.keeps fun b o e=>(e0.bs b o e).1
  have hkind:∀y∈ps.zip us,scope.names.lookup y.1=some .local∨(scope.names.lookup y.1=some .cell∧((cellsFrom (s.heap.objs.size+1) scope.names []).lookup y.1).isSome=true):=fun ⟨n,v⟩ hy=>by
    rcases S.par n (List.of_mem_zip hy).1 with q | q
    · exact .inl q
    · exact .inr ⟨q,PySem.W.cellsFrom_some _ _ _ (.inl q)⟩
  refine codeAny_call_function hr.depth (KX _ _ lk) rfl S.co S.gen rfl (PySem.W.codeRec_of KX hcd) (hb _ _ _ _ ?_)
  refine wpAny_newFunctionEnv_cells S.kind hkind fun env he s1 x=>?_
  subst he
  refine ⟨lim.keeps x.toInCall.keep,codeAny_func ?_⟩
  obtain ⟨t,ht,hq⟩:=hbody A outer s H vs Q E (hr.deeper _) hsp
  have I:Inv (Zc1 CX P w K mg base N qual scope f cdv A outer s H E) [] (Zbu N vs) H s1:=ZhH S hr.hd e0 hl r x
  refine wpAny_mono (ht [] s1 (Zbu N vs) H _ I hq) (fun fl s' hs=>?_) fun e s' hs=>hs
  have fin:∀{σ':St} {H':Hp} {v:V} {u:Value},Inv (Zc1 CX P w K mg base N qual scope f cdv A outer s H E) [] σ' H' s'→RelV v u→Q v H'→CE outer P w H s Q u s':=
    fun {σ' H' v u} J rv q=>⟨v,H',J.os,J.bare,J.base,J.hok,rv,q⟩
  cases fl with
  | ret u=>
    obtain ⟨v,σ',H',J,rv,q⟩:=hs
    exact fin J rv q
  | next=>
    obtain ⟨σ',H',J,q⟩:=hs
    exact fin (v:=V.non) (u:=Value.none) J rfl q
  | brk=>
    obtain ⟨_,_,_,q⟩:=hs
    exact False.elim q
  | cont=>
    obtain ⟨_,_,_,q⟩:=hs
    exact False.elim q
end L2
namespace L2
open PySem PySem.Spec PyProof.Rows
section
variable {X:Cx} {x:Str} {p pos:Pos} {e:Expr} {es:List Expr} {t:TA} {id T:String} {r:List V→Hp→VK→Prop}
def tCB (r:List V→Hp→VK→Prop) (t:TA):TE:=fun σ H Q=>t σ H fun vs H1=>r vs H1 Q
theorem Zi6 (hc:CallR X (.builtin id) r) (hg:Gl X x) (hm:X.mg x=none) (hv:bootBuiltins x=some (.builtin id)) (ha:PA X (e::es) t) (hn:x≠"__name__":=by decide) (hdb:(x == ("__debug__":Str))=false:=by decide)
    (he:starEach (e::es) X.env=(false,eval e X.env)::starEach es X.env:=by rfl) (hpl:(backTo pos (starEach es X.env)).any (·.1)=false:=by rfl):PE X (.Call (.Name x p) (e::es) [] pos) (tCB r t):=by
  intro pins s σ H Q I h
  refine wpAny_Call_Name_kw (Zgx I hg hm hv ?_ hn hdb)
  exact PyProof.Rows.callWith_builtin1 (thn (ha pos pins s σ H _ I h) fun us s1 ⟨vs,H1,I1,r1,q1⟩=>hc pins s1 σ H1 vs us Q I1 r1 q1) he hpl
theorem Zhy (hc:CallR X (.type T) r) (hg:Gl X x) (hm:X.mg x=none) (hv:bootBuiltins x=some (.type T)) (ha:PA X (e::es) t) (hn:x≠"__name__":=by decide) (hdb:(x == ("__debug__":Str))=false:=by decide)
    (he:starEach (e::es) X.env=(false,eval e X.env)::starEach es X.env:=by rfl) (hpl:(backTo pos (starEach es X.env)).any (·.1)=false:=by rfl):PE X (.Call (.Name x p) (e::es) [] pos) (tCB r t):=by
  intro pins s σ H Q I h
  refine wpAny_Call_Name_kw (Zgx I hg hm hv ?_ hn hdb)
  exact PyProof.Rows.callWith_type1 (thn (ha pos pins s σ H _ I h) fun us s1 ⟨vs,H1,I1,r1,q1⟩=>hc pins s1 σ H1 vs us Q I1 r1 q1) he hpl
end
end L2
namespace HT
open PySem PyProof.Rows
section
open PySem.SeqAt
open PySem.AutoSeq1 (wpAny_loadPart')
open PySem.MeetsSeq PySem.MeetsSeq2 PySem.MeetsSeq3
end
section
variable {prog:Program} {w:World} {A:Around} {E:Value→Shared→Prop} {s:Shared}
theorem cat_tup {t b:Addr} {vs ws:List Value} {Q:Value→Shared→Prop} (ht:IsTup s.heap t vs.toArray) (hb:IsTup s.heap b ws.toArray) (hv:vs≠[])
    (h1:ws=[]→Q (.ref t) s) (h2:ws≠[]→Q (.ref s.heap.objs.size) { s with heap:=s.heap.push { cls:=.type "tuple",data:=.seq (vs++ws).toArray } })
    (hsz:vs.length+ws.length≤sizeLine):wpAny (model prog w) A (binaryOp .Add (.ref t) (.ref b)) Q E s:=by
  obtain ⟨⟨cls,dd,data,sl⟩,ho,hc,n,hd⟩:=id ht
  obtain ⟨⟨cls2,dd2,data2,sl2⟩,ho2,hc2,n2,hd2⟩:=id hb
  simp only at hc hd hc2 hd2
  subst hc hd hc2 hd2
  have e:vs.toArray++ws.toArray=(vs++ws).toArray:=by simp
  by_cases hw:ws=[]
  · exact concat_meets ⟨_,ho,rfl⟩ ⟨_,ho2,rfl⟩ noFill_tuple_add seq_tuple_add PySem.F.slot_tuple_add PySem.F.entry_tuple_add (PySem.F.args_tuple_add_2 _ _)
      (tuple_addW1 t b vs.toArray ws.toArray n n2 dd dd2 sl sl2 (by simpa using hv) (by simp [hw])) ⟨ho,ho2,h1 hw⟩
  · refine concat_meets ⟨_,ho,rfl⟩ ⟨_,ho2,rfl⟩ noFill_tuple_add seq_tuple_add PySem.F.slot_tuple_add PySem.F.entry_tuple_add (PySem.F.args_tuple_add_2 _ _)
      (tuple_addW2 t b vs.toArray ws.toArray n n2 dd dd2 sl sl2 (by simpa using hv) (by simpa using hw) (by rw [List.size_toArray,List.size_toArray]; exact hsz)) ⟨ho,ho2,?_⟩
    rw [e]
    exact h2 hw
def sIx (n d:Nat):Option Int→Nat
  | none=>d
  | some v=>if v<0 then (v+(n:Int)).toNat else min v.toNat n
theorem sIx_none (n d:Nat):sIx n d none=d:=rfl
theorem sIx_nat (n d k:Nat):sIx n d (some (k:Int))=min k n:=by
  show (if (k:Int)<0 then ((k:Int)+(n:Int)).toNat else min (k:Int).toNat n)=min k n
  rw [if_neg (by omega),Int.toNat_natCast]
theorem ZlZ (n d:Nat) (hd:d≤n) (o:Option Int):sIx n d o≤n:=by
  cases o with
  | none=>exact hd
  | some v=>
    show (if v<0 then (v+(n:Int)).toNat else min v.toNat n)≤n
    by_cases hv:v<0
    · rw [if_pos hv]; omega
    · rw [if_neg hv]; exact Nat.min_le_right _ _
theorem Zhh (v:Int) (n d:Nat):(if v<0 then max (v+(n:Int)) 0 else min v (n:Int))=((sIx n d (some v):Nat):Int):=by
  show (if v<0 then max (v+(n:Int)) 0 else min v (n:Int))=(((if v<0 then (v+(n:Int)).toNat else min v.toNat n):Nat):Int)
  by_cases hv:v<0
  · simp only [if_pos hv]; omega
  · simp only [if_neg hv]; omega
theorem ZgG (lo hi:Option Int) (n:Nat):Builtin.Slice.sliceAdjust lo hi 1 (n:Int)=(((sIx n 0 lo:Nat):Int),((sIx n n hi:Nat):Int)):=by
  have h1:¬((1:Int)<0):=by omega
  unfold Builtin.Slice.sliceAdjust
  simp only [h1,if_false]
  refine Prod.ext ?_ ?_
  · cases lo with
    | none=>rfl
    | some v=>exact Zhh v n 0
  · cases hi with
    | none=>rfl
    | some v=>exact Zhh v n n
theorem Zgn (i j:Nat):Builtin.Slice.slicePlaces (i:Int) (j:Int) 1=j-i:=by
  unfold Builtin.Slice.slicePlaces
  have h1:(1:Int) > 0:=by omega
  simp only [h1,if_true,Int.ediv_one]
  split<;>omega
theorem Zdu {v:Value} {o:Option Int} {Q:Option Int→Shared→Prop} (p:IsPart v o) (h:Q o s):wpAny (model prog w) A (Builtin.Slice.slicePartIndex v) Q E s:=by
  cases p with
  | none=>exact slicePart_none h
  | int i t=>exact slicePart_int h
theorem ZcQ {sl:Addr} {vl vu:Value} {lo hi:Option Int} {n:Nat} {Q:Int×Int×Nat→Shared→Prop} (hs:s.heap.IsSliceOf sl vl vu .none) (pl:IsPart vl lo) (pu:IsPart vu hi)
    (h:Q (((sIx n 0 lo:Nat):Int),1,sIx n n hi-sIx n 0 lo) s):wpAny (model prog w) A (Builtin.Slice.sliceApplied (.ref sl) (pure (n:Int))) Q E s:=by
  obtain ⟨os,hos,hcs,hds⟩:=id hs
  unfold Builtin.Slice.sliceApplied Builtin.Slice.sliceFields
  refine wpAny_bind (wpAny_bind (wpAny_field hos hds (x:=vl) rfl (wpAny_bind (wpAny_field hos hds (x:=vu) rfl (wpAny_bind (wpAny_field hos hds (x:=.none) rfl (wpAny_pure ?_)))))))
  refine wpAny_bind (slicePart_none ?_)
  show wpAny _ _ (if ((1:Int) == 0)=true then _ else _) _ _ s
  rw [if_neg (by decide)]
  refine wpAny_bind (Zdu pl (wpAny_bind (Zdu pu (wpAny_bind (wpAny_pure ?_)))))
  show wpAny _ _ (match Builtin.Slice.sliceAdjust lo hi 1 (n:Int) with | (lo,hi)=>pure (lo,(1:Int),Builtin.Slice.slicePlaces lo hi 1)) _ _ s
  rw [ZgG lo hi n]
  show wpAny _ _ (pure (((sIx n 0 lo:Nat):Int),(1:Int),Builtin.Slice.slicePlaces ((sIx n 0 lo:Nat):Int) ((sIx n n hi:Nat):Int) 1)) _ _ s
  rw [Zgn]
  exact wpAny_pure h
theorem ZiX (xs:Array Value) (i k:Nat):((List.range k).filterMap fun (m:Nat)=>xs[((i:Int)+(m:Int)*1).toNat]?).toArray=((xs.toList.drop i).take k).toArray:=by
  have e:(fun (m:Nat)=>xs[((i:Int)+(m:Int)*1).toNat]?)=fun m=>xs[i+m]?:=by
    funext m
    have:((i:Int)+(m:Int)*1).toNat=i+m:=by omega
    rw [this]
  rw [e]
  have:=pick_run xs i k
  rw [List.filterMap_map] at this
  have e2:((fun x=>xs[x]?)∘fun x=>i+x)=fun m=>xs[i+m]?:=rfl
  rw [e2] at this
  rw [this]
theorem getItem_tuple_cut {t sl:Addr} {items:Array Value} {vl vu:Value} {lo hi:Option Int} {Q:Value→Shared→Prop} (ht:IsTup s.heap t items) (hs:s.heap.IsSliceOf sl vl vu .none) (pl:IsPart vl lo) (pu:IsPart vu hi)
    (hw:¬(sIx items.size 0 lo=0∧sIx items.size items.size hi=items.size))
    (h:Q (.ref s.heap.objs.size) { s with heap:=s.heap.push { cls:=.type "tuple",data:=.seq ((items.toList.drop (sIx items.size 0 lo)).take (sIx items.size items.size hi-sIx items.size 0 lo)).toArray } })
    (hsz:items.size≤sizeLine):wpAny (model prog w) A (getItem (.ref t) (.ref sl)) Q E s:=by
  have htake:sizeOk (.seq ((items.toList.drop (sIx items.size 0 lo)).take (sIx items.size items.size hi-sIx items.size 0 lo)).toArray):=by
    show ((items.toList.drop (sIx items.size 0 lo)).take (sIx items.size items.size hi-sIx items.size 0 lo)).toArray.size≤sizeLine
    rw [List.size_toArray,List.length_take,List.length_drop,Array.length_toList]
    omega
  have hj:sIx items.size items.size hi≤items.size:=ZlZ _ _ (Nat.le_refl _) hi
  obtain ⟨os,hos,hcs,hds⟩:=id hs
  have hTs:s.TypeIs (.ref sl) "slice":=⟨os,hos,hcs⟩
  unfold getItem
  try with_reducible refine wpAny_holding ?_
  first | refine wpAny_bind (wpAny_pure ?_) | skip
  refine wpAny_bind (wpAny_sequenceKey ht.typeIs (by decide) ?_)
  refine wpAny_bind (wpAny_callSpecial?_slot (name:=Str.ofString "__getitem__") ht.typeIs PyProof.Rows.slot_tuple_getitem
    (wpAny_call_entry PyProof.Rows.slot_tuple_getitem ht.typeIs entry_tuple_getitem ?_ (args_tuple_getitem _ _)))
  show wpAny _ _ (Builtin.Tuple.tupleItemsOf (.ref t) >>= _) _ _ s
  refine wpAny_bind (tupleItemsOf_ ht ?_)
  refine wpAny_bind (wpAny_typeOf hTs ?_)
  rw [if_pos (by decide)]
  refine wpAny_bind (ZcQ hs pl pu ?_)
  have hno:¬((((sIx items.size 0 lo:Nat):Int) == 0 && (1:Int) == 1 && (sIx items.size items.size hi-sIx items.size 0 lo) == items.size)=true):=by
    intro q
    rw [Bool.and_eq_true,Bool.and_eq_true] at q
    have q1:((sIx items.size 0 lo:Nat):Int)=0:=eq_of_beq q.1.1
    have q2:sIx items.size items.size hi-sIx items.size 0 lo=items.size:=eq_of_beq q.2
    exact hw ⟨by omega,by omega⟩
  show wpAny _ _ (if (((sIx items.size 0 lo:Nat):Int) == 0 && (1:Int) == 1 && (sIx items.size items.size hi-sIx items.size 0 lo) == items.size)=true then _ else _) _ _ s
  rw [if_neg hno,ZiX]
  first
    | exact wpAny_bind (m:=Builtin.Tuple.tupleExact _) (wpAny_newObj_type (wpAny_pure ⟨_,rfl,wpAny_pure h⟩) htake)
    | exact wpAny_bind (m:=Builtin.Tuple.tupleExact _) (wpAny_newObj_type (wpAny_bind (wpAny_pure (wpAny_pure ⟨_,rfl,wpAny_pure h⟩))) htake)
    | exact wpAny_bind (wpAny_bind (m:=Builtin.Tuple.tupleExact _) (wpAny_newObj_type (wpAny_pure (wpAny_pure ⟨_,rfl,wpAny_pure h⟩)) htake))
    | exact wpAny_bind (wpAny_bind (m:=Builtin.Tuple.tupleExact _) (wpAny_newObj_type (wpAny_pure ⟨_,rfl,wpAny_pure h⟩) htake))
end
end HT
namespace L2
open PySem PySem.Spec PyProof.Rows
abbrev TO:=St→Hp→(Option Int→Hp→Prop)→Prop
def PO (X:Cx) (e:Option Expr) (t:TO):Prop:=
  ∀(pins:List (Addr×Obj)) (s:Shared) (σ:St) (H:Hp) (Q:Option Int→Hp→Prop),Inv X pins σ H s→t σ H Q→
    wpAny (model X.prog X.w) X.A (evalPart e X.env) (fun u s'=>∃o H',Inv X pins σ H' s'∧IsPart u o∧Q o H') X.xe s
def Zkg:TO:=fun _ H Q=>Q none H
def Znr (t:TE):TO:=fun σ H Q=>t σ H fun x H1=>∃i,x=.int i∧Q (some i) H1
section
variable {X:Cx} {e:Expr} {te:TE} {lo hi:Option Expr} {tl th:TO} {pos p2:Pos}
theorem Zkw:PO X none Zkg:=by
  intro pins s σ H Q I h
  rw [evalPart_none]
  exact wpAny_pure ⟨none,H,I,.none,h⟩
theorem Zkv (h:PE X e te):PO X (some e) (Znr te):=by
  intro pins s σ H Q I hw
  rw [evalPart_some]
  refine thn (h pins s σ H _ I hw) fun u s1 ⟨x,H1,I1,r1,q1⟩=>?_
  obtain ⟨i,rfl,q⟩:=q1
  obtain ⟨t,rfl⟩:=r1
  exact ⟨some i,H1,I1,.int i t,q⟩
def SlR (X:Cx) (r:V→Option Int→Option Int→Hp→VK→Prop):Prop:=
  ∀(pins:List (Addr×Obj)) (s:Shared) (σ:St) (H:Hp) (x:V) (v vl vu:Value) (lo hi:Option Int) (sl:Addr) (Q:VK),Inv X pins σ H s→RelV x v→s.heap.IsSliceOf sl vl vu .none→IsPart vl lo→IsPart vu hi→r x lo hi H Q→
    ∃T id,typeLookup (.type T) "__getitem__"=pure (some (.builtin id))∧s.TypeIs v T∧wpAny (model X.prog X.w) X.A (getItem v (.ref sl)) (EP X pins σ Q) X.xe s
theorem SlR.or {r r':V→Option Int→Option Int→Hp→VK→Prop} (h:SlR X r) (h':SlR X r'):SlR X (fun x lo hi H Q=>r x lo hi H Q∨r' x lo hi H Q):=by
  intro pins s σ H x v vl vu lo hi sl Q I rx hs pl pu q
  rcases q with q | q
  · exact h pins s σ H x v vl vu lo hi sl Q I rx hs pl pu q
  · exact h' pins s σ H x v vl vu lo hi sl Q I rx hs pl pu q
def tSl (r:V→Option Int→Option Int→Hp→VK→Prop) (te:TE) (tl th:TO):TE:=fun σ H Q=>te σ H fun x H1=>tl σ H1 fun l H2=>th σ H2 fun u H3=>r x l u H3 Q
theorem ZiZ {r:V→Option Int→Option Int→Hp→VK→Prop} (hr:SlR X r) (he:PE X e te) (hl:PO X lo tl) (hu:PO X hi th):PE X (.Subscript e (.Slice lo hi none p2) pos) (tSl r te tl th):=by
  intro pins s σ H Q I h
  refine Subscript_ (thn (he pins s σ H _ I h) fun v s1 ⟨x,H1,I1,r1,q1⟩=>?_)
  refine wpAny_Slice (thn (hl pins s1 σ H1 _ I1 q1) fun vl s2 ⟨l,H2,I2,pl,q2⟩=>thn (hu pins s2 σ H2 _ I2 q2) fun vu s3 ⟨u,H3,I3,pu,q3⟩=>?_)
  rw [evalPart_none]
  refine wpAny_pure ?_
  have I4:Inv X pins σ H3 { s3 with heap:=s3.heap.push { cls:=.type "slice",data:=.fields #[vl,vu,.none] } }:=I3.kept (t':=s3.toks) fun b ob q=>Heap.get?_push_of_some _ q
  obtain ⟨T,id,hT,ht,hg⟩:=hr pins { s3 with heap:=s3.heap.push { cls:=.type "slice",data:=.fields #[vl,vu,.none] } } σ H3 x v vl vu l u s3.heap.objs.size Q I4 r1 (Heap.IsSliceOf.new ..) pl pu q3
  show wpAny (model X.prog X.w) X.A (subscriptTail e (.Slice lo hi none p2) v (.ref s3.heap.objs.size)) (EP X pins σ Q) X.xe { s3 with heap:=s3.heap.push { cls:=.type "slice",data:=.fields #[vl,vu,.none] } }
  exact tail_any (ops:=[.ref s3.heap.objs.size,v]) ht hT hg (by with_unfolding_all rfl)
def Zgc (xs:List V) (lo hi:Option Int):List V:=(xs.drop (HT.sIx xs.length 0 lo)).take (HT.sIx xs.length xs.length hi-HT.sIx xs.length 0 lo)
theorem Zdc (xs:List V) (lo hi:Option Int):(Zgc xs lo hi).length≤xs.length:=by
  unfold Zgc
  rw [List.length_take,List.length_drop]
  omega
def ZpR (K:PySem.W.Frag):V→Option Int→Option Int→Hp→VK→Prop:=fun x lo hi H Q=>∃a xs,x=.ref a∧SqT K H a xs∧
  ¬(HT.sIx xs.length 0 lo=0∧HT.sIx xs.length xs.length hi=xs.length)∧∀p,H p=none→Q (.ref p) (upd H p (.tup (Zgc xs lo hi)))
theorem ZlV:SlR X (ZpR X.K):=by
  intro pins s σ H x v vl vu lo hi sl Q I rx hs pl pu h
  obtain ⟨a,xs,rfl,hx,hw,q⟩:=h
  cases rx
  obtain ⟨its,r,ht,hz⟩:=I.tuple hx
  have hlen:its.toArray.size=xs.length:=by rw [List.size_toArray]; exact r.length.symm
  refine ⟨"tuple",_,PyProof.Rows.slot_tuple_getitem.lookup,ht.typeIs,?_⟩
  refine HT.getItem_tuple_cut ht hs pl pu (by rw [hlen]; exact hw) ?_ (by rw [hlen]; exact hz)
  rw [hlen]
  refine ⟨.ref s.heap.objs.size,_,I.laid (t':=s.toks) (o:=.tup (Zgc xs lo hi)) (fun b ob q=>Heap.get?_push_of_some _ q) (Nat.le_refl _) ?_,rfl,q _ (I.hok.fresh (Nat.le_refl _))⟩
  exact ⟨Nat.le_trans (Zdc xs lo hi) hz,_,(r.drop (HT.sIx xs.length 0 lo)).take (HT.sIx xs.length xs.length hi-HT.sIx xs.length 0 lo),IsTup.new _ _⟩
def ZnE (K:PySem.W.Frag):R2:=fun x y H Q=>∃a b xs ys,x=.ref a∧y=.ref b∧SqT K H a xs∧SqT K H b ys∧xs≠[]∧xs.length+ys.length≤sizeLine∧
  (ys=[]→Q (.ref a) H)∧(ys≠[]→∀p,H p=none→Q (.ref p) (upd H p (.tup (xs++ys))))
theorem Vals.nil_iff {xs:List V} {us:List Value} (r:Vals xs us):us=[]↔xs=[]:=by
  cases r with
  | nil=>simp
  | cons _ _=>simp
theorem op_catT:OpR X (binaryOp .Add) (ZnE X.K):=by
  intro pins s σ H x y v u Q I rx ry h
  obtain ⟨a,b,xs,ys,rfl,rfl,ha,hb,hx,hz,q1,q2⟩:=h
  cases rx
  cases ry
  obtain ⟨its,r1,p1,_⟩:=I.tuple ha
  obtain ⟨its2,r2,p2,_⟩:=I.tuple hb
  refine HT.cat_tup p1 p2 (fun z=>hx (r1.nil_iff.mp z)) (fun z=>⟨.ref a,H,I,rfl,q1 (r2.nil_iff.mp z)⟩) (fun z=>?_) (by rw [←r1.length,←r2.length]; exact hz)
  refine ⟨.ref s.heap.objs.size,_,I.laid (t':=s.toks) (o:=.tup (xs++ys)) (fun b ob q=>Heap.get?_push_of_some _ q) (Nat.le_refl _) ?_,rfl,q2 (fun w=>z (r2.nil_iff.mpr w)) _ (I.hok.fresh (Nat.le_refl _))⟩
  exact ⟨by rw [List.length_append]; exact hz,_,r1.append r2,IsTup.new _ _⟩
end
end L2
namespace L2
open PySem PySem.Spec PyProof.Rows
def ixN (n:Nat) (i:Int):Option Nat:=if 0≤i then (if i<n then some i.toNat else none) else if -(n:Int)≤i then some (i+n).toNat else none
def atI {α:Type} (xs:List α) (i:Int):Option α:=(ixN xs.length i).bind fun j=>xs[j]?
theorem ZkT {n:Nat} {i:Int} {j:Nat} (h:ixN n i=some j):seqIndex? i n=some j∧j<n∧-(n:Int)≤i∧i<n:=by
  unfold ixN at h
  by_cases h0:0≤i
  · rw [if_pos h0] at h
    by_cases h1:i<n
    · rw [if_pos h1] at h
      have e:i.toNat=j:=Option.some.inj h
      exact ⟨by rw [seqIndex_of h0 h1,e],by omega,by omega,h1⟩
    · rw [if_neg h1] at h; cases h
  · rw [if_neg h0] at h
    by_cases h1 : -(n:Int)≤i
    · rw [if_pos h1] at h
      have e:(i+n).toNat=j:=Option.some.inj h
      exact ⟨by rw [seqIndex_neg (by omega) h1,e],by omega,h1,by omega⟩
    · rw [if_neg h1] at h; cases h
theorem Ze5 {α:Type} {xs:List α} {i:Int} {v:α} (h:atI xs i=some v):∃j,seqIndex? i xs.length=some j∧xs[j]?=some v∧j<xs.length∧-(xs.length:Int)≤i∧i<xs.length:=by
  unfold atI at h
  cases e:ixN xs.length i with
  | none=>rw [e] at h; cases h
  | some j=>
    rw [e] at h
    obtain ⟨h1,h2,h3,h4⟩:=ZkT e
    exact ⟨j,h1,h,h2,h3,h4⟩
theorem Zb9 {α:Type} {xs:List α} {j:Nat} {v:α} (h:xs[j]?=some v):atI xs (j:Int)=some v:=by
  have hj:j<xs.length:=(List.getElem?_eq_some_iff.mp h).1
  have e:ixN xs.length (j:Int)=some j:=by
    unfold ixN
    rw [if_pos (by omega),if_pos (by omega)]; simp
  unfold atI; rw [e]; exact h
def Zhn (b:Expr):Prop:=∀o i,subscripted b false o i=operate [o,i] (getItem o i)
def IxR (X:Cx) (r:R2):Prop:=
  ∀(value slice:Expr) (pins:List (Addr×Obj)) (s:Shared) (σ:St) (H:Hp) (x y:V) (v u:Value) (Q:VK),Inv X pins σ H s→RelV x v→RelV y u→r x y H Q→
    subscripted slice false v u=operate [v,u] (getItem v u)→wpAny (model X.prog X.w) X.A (subscriptTail value slice v u) (EP X pins σ Q) X.xe s
def MtR (X:Cx) (id:String) (r:V→List V→Hp→VK→Prop):Prop:=
  ∀(pins:List (Addr×Obj)) (s:Shared) (σ:St) (H:Hp) (x:V) (xs:List V) (v:Value) (us:List Value) (Q:VK),Inv X pins σ H s→RelV x v→Vals xs us→r x xs H Q→
    wpAny (model X.prog X.w) X.A (call (.builtin id) (v::us)) (EP X pins σ Q) X.xe s
section
variable {X:Cx} {a b:Expr} {ta tb:TE} {pos:Pos}
theorem IxR.or {r r':R2} (h:IxR X r) (h':IxR X r'):IxR X (fun x y H Q=>r x y H Q∨r' x y H Q):=by
  intro value slice pins s σ H x y v u Q I rx ry q hs
  rcases q with q | q
  · exact h value slice pins s σ H x y v u Q I rx ry q hs
  · exact h' value slice pins s σ H x y v u Q I rx ry q hs
theorem ZnK {r:R2} (hr:IxR X r) (ha:PE X a ta) (hb:PE X b tb) (hs:Zhn b):PE X (.Subscript a b pos) (tOp r ta tb):=by
  intro pins s σ H Q I h
  exact Subscript_ (ZmL ha hb I h fun v u s2 x y H2 I2 rx ry q=>hr a b pins s2 σ H2 x y v u Q I2 rx ry q (hs _ _))
def ZnD (K:PySem.W.Frag):R2:=fun x y H Q=>∃p xs i v,x=.ref p∧y=.int i∧SqL K H p xs∧atI xs i=some v∧Q v H
def ZnB (K:PySem.W.Frag):R2:=fun x y H Q=>∃p xs i v,x=.ref p∧y=.int i∧SqT K H p xs∧atI xs i=some v∧Q v H
def ZnC:R2:=fun x y H Q=>∃z i c,x=.str z∧y=.int i∧z.length≤sizeLine∧atI z.cps.toList i=some c∧Q (.str ⟨#[c]⟩) H
theorem ix_list:IxR X (ZnD X.K):=by
  intro value slice pins s σ H x y v u Q I rx ry h hs
  obtain ⟨p,xs,i,z,rfl,rfl,hq,he,q⟩:=h
  cases rx
  obtain ⟨t,rfl⟩:=ry
  obtain ⟨its,r,pl,hz⟩:=I.list hq
  obtain ⟨j,h1,h2,h3,h4,h5⟩:=Ze5 he
  obtain ⟨w,ew,rw'⟩:=r.get h2
  have hl:=r.length
  have hn:=ZcV
  have fin:EP X pins σ Q w s:=⟨z,H,I,rw',q⟩
  by_cases h0:0≤i
  · have hj:i.toNat=j:=by
      rw [seqIndex_of h0 h5] at h1
      exact Option.some.inj h1
    exact item_listR pl.isList h0 (by omega) (by rw [hj]; simpa using ew) fin hs
  · have hj:(i+(its.toArray.size:Int)).toNat=j:=by
      rw [seqIndex_neg (by omega) h4] at h1
      rw [List.size_toArray,←hl]
      exact Option.some.inj h1
    exact subscriptTail_builtinR (x:=w) pl.isList.typeIs slot_list_getitem.lookup
      (wpAny_getItem_list_neg (Q:=fun r s'=>r=w∧EP X pins σ Q r s') pl.isList (by omega) (by rw [List.size_toArray]<;>omega) (by omega) (by rw [hj]; simpa using ew) ⟨rfl,fin⟩) hs
theorem ix_tup:IxR X (ZnB X.K):=by
  intro value slice pins s σ H x y v u Q I rx ry h hs
  obtain ⟨p,xs,i,z,rfl,rfl,hq,he,q⟩:=h
  cases rx
  obtain ⟨t,rfl⟩:=ry
  obtain ⟨its,r,pl,hz⟩:=I.tuple hq
  obtain ⟨j,h1,h2,h3,h4,h5⟩:=Ze5 he
  obtain ⟨w,ew,rw'⟩:=r.get h2
  have hl:=r.length
  have hn:=ZcV
  have fin:EP X pins σ Q w s:=⟨z,H,I,rw',q⟩
  exact subscriptTail_builtinR (x:=w) pl.typeIs slot_tuple_getitem.lookup
    (getItem_tuple (j:=j) (Q:=fun r s'=>r=w∧EP X pins σ Q r s') pl (by omega) (by omega) (by rw [List.size_toArray,←hl]; exact h1) (by simpa using ew) ⟨rfl,fin⟩) hs
theorem ZmB:IxR X ZnC:=by
  intro value slice pins s σ H x y v u Q I rx ry h hs
  obtain ⟨z,i,c,rfl,rfl,hz,he,q⟩:=h
  obtain ⟨t,rfl⟩:=rx
  obtain ⟨t',rfl⟩:=ry
  obtain ⟨j,h1,h2,h3,h4,h5⟩:=Ze5 he
  have hl:z.cps.toList.length=z.length:=by simp [Str.length]
  rw [hl] at h1 h4 h5
  have hn:=ZcV
  exact tail_any (typeIs_str s z t) slot_str_getitem.lookup (getItem_str (c:=c) (by
    have e1:decide (i < -(2 ^ 63:Int))=false:=decide_eq_false (by omega)
    have e2:decide (i≥2 ^ 63)=false:=decide_eq_false (by omega)
    rw [e1,e2,Bool.or_false]) (by rw [h1]; simpa using h2) ⟨.str ⟨#[c]⟩,H,I.tok _,⟨_,rfl⟩,q⟩) hs
def rIx (K:PySem.W.Frag):R2:=fun x y H Q=>ZnD K x y H Q∨ZnB K x y H Q∨ZnC x y H Q
theorem ZmC:IxR X (rIx X.K):=ix_list.or (ix_tup.or ZmB)
theorem ZeI (lo hi:Option Int) (n:Nat):(sliceBounds lo hi none n).1=((HT.sIx n 0 lo:Nat):Int)∧(sliceBounds lo hi none n).2.1=((HT.sIx n n hi:Nat):Int)∧(sliceBounds lo hi none n).2.2=1:=by
  refine ⟨?_,?_,rfl⟩
  · cases lo with
    | none=>simp [sliceBounds,HT.sIx]
    | some i=>
      simp only [sliceBounds,HT.sIx,Option.getD_none,show (1:Int) > 0 by decide,if_true]
      by_cases h:i<0
      · simp only [h,if_true]<;>omega
      · simp only [h,if_false]<;>omega
  · cases hi with
    | none=>simp [sliceBounds,HT.sIx]
    | some i=>
      simp only [sliceBounds,HT.sIx,Option.getD_none,show (1:Int) > 0 by decide,if_true]
      by_cases h:i<0
      · simp only [h,if_true]<;>omega
      · simp only [h,if_false]<;>omega
theorem Zd9 (its:List Value) (lo hi:Option Int):slicePick its.toArray lo hi none=((its.drop (HT.sIx its.length 0 lo)).take (HT.sIx its.length its.length hi-HT.sIx its.length 0 lo)).toArray:=by
  obtain ⟨h1,h2,h3⟩:=ZeI lo hi its.toArray.size
  unfold slicePick
  rw [h1,h2,h3]
  simp only [sliceRange_one,pick_run,List.size_toArray]<;>rfl
def Znz (K:PySem.W.Frag):V→Option Int→Option Int→Hp→VK→Prop:=fun x lo hi H Q=>∃a xs,x=.ref a∧SqL K H a xs∧∀p,H p=none→Q (.ref p) (upd H p (.lst (Zgc xs lo hi)))
theorem sl_list:SlR X (Znz X.K):=by
  intro pins s σ H x v vl vu lo hi sl Q I rx hs pl pu h
  obtain ⟨a,xs,rfl,hx,q⟩:=h
  cases rx
  obtain ⟨its,r,ht,hz⟩:=I.list hx
  have hlen:=r.length
  refine ⟨"list",_,slot_list_getitem.lookup,ht.isList.typeIs,?_⟩
  refine wpAny_getItem_list_slice ht.isList hs pl pu .none (by simp) ?_ (by rw [List.size_toArray]<;>omega)
  rw [Zd9,←hlen]
  refine ⟨.ref s.heap.objs.size,_,I.laid (t':=s.toks) (o:=.lst (Zgc xs lo hi)) (fun b ob q=>Heap.get?_push_of_some _ q) (Nat.le_refl _) ?_,rfl,q _ (I.hok.fresh (Nat.le_refl _))⟩
  exact ⟨Nat.le_trans (Zdc xs lo hi) hz,_,0,(r.drop (HT.sIx xs.length 0 lo)).take (HT.sIx xs.length xs.length hi-HT.sIx xs.length 0 lo),Heap.get?_push_size _ rfl⟩
def ZaN:V→Bool
  | .non=>true
  | .bl _=>true
  | .int _=>true
  | .str _=>true
  | _=>false
def eqV:V→V→Bool
  | .non,.non=>true
  | .bl a,.bl b=>a == b
  | .bl a,.int b=>(if a then 1 else 0) == b
  | .int a,.bl b=>a == (if b then 1 else 0)
  | .int a,.int b=>a == b
  | .str a,.str b=>a == b
  | _,_=>false
theorem ZmG {A:Around} {s:Shared} {y x:V} {u v:Value} (ry:RelV y u) (rx:RelV x v) (fy:ZaN y=true) (fx:ZaN x=true):SeqAt.EqAt A s u v (eqV y x):=by
  cases y with
  | non=>
    cases ry
    cases x with
    | non=>cases rx; exact SeqAt.EqAt.same _
    | bl b=>cases rx; exact SeqAt.EqAt.none_bool b
    | int b=>obtain ⟨t,rfl⟩:=rx; exact SeqAt.EqAt.none_int b t
    | str b=>obtain ⟨t,rfl⟩:=rx; exact SeqAt.EqAt.none_str b t
    | _=>exact absurd (show false=true from fx) Bool.false_ne_true
  | bl a=>
    cases ry
    cases x with
    | non=>cases rx; exact SeqAt.EqAt.bool_none a
    | bl b=>cases rx; exact SeqAt.EqAt.bool_bool a b
    | int b=>obtain ⟨t,rfl⟩:=rx; exact SeqAt.EqAt.bool_int a b t
    | str b=>obtain ⟨t,rfl⟩:=rx; exact SeqAt.EqAt.bool_str a b t
    | _=>exact absurd (show false=true from fx) Bool.false_ne_true
  | int a=>
    obtain ⟨t',rfl⟩:=ry
    cases x with
    | non=>cases rx; exact SeqAt.EqAt.int_none a t'
    | bl b=>cases rx; exact SeqAt.EqAt.int_bool a t' b
    | int b=>obtain ⟨t,rfl⟩:=rx; exact SeqAt.EqAt.int_int a t' b t
    | str b=>obtain ⟨t,rfl⟩:=rx; exact SeqAt.EqAt.int_str a t' b t
    | _=>exact absurd (show false=true from fx) Bool.false_ne_true
  | str a=>
    obtain ⟨t',rfl⟩:=ry
    cases x with
    | non=>cases rx; exact SeqAt.EqAt.str_none a t'
    | bl b=>cases rx; exact SeqAt.EqAt.str_bool a t' b
    | int b=>obtain ⟨t,rfl⟩:=rx; exact SeqAt.EqAt.str_int a t' b t
    | str b=>obtain ⟨t,rfl⟩:=rx; exact SeqAt.EqAt.str_str a t' b t
    | _=>exact absurd (show false=true from fx) Bool.false_ne_true
  | _=>exact absurd (show false=true from fy) Bool.false_ne_true
def eqU (x:V) (u:Value):Bool:=match u with
  | .none=>eqV .non x
  | .bool b=>eqV (.bl b) x
  | .int i _=>eqV (.int i) x
  | .str z _=>eqV (.str z) x
  | _=>false
theorem ZjK {x y:V} {u:Value} (r:RelV y u) (f:ZaN y=true):eqU x u=eqV y x:=by
  cases y with
  | non=>cases r; rfl
  | bl b=>cases r; rfl
  | int i=>obtain ⟨t,rfl⟩:=r; rfl
  | str z=>obtain ⟨t,rfl⟩:=r; rfl
  | _=>exact absurd (show false=true from f) Bool.false_ne_true
theorem Ze6 {x:V}:∀{xs:List V} {us:List Value},Vals xs us→xs.all ZaN=true→us.any (eqU x)=xs.any fun y=>eqV y x
  | _,_,.nil,_=>rfl
  | y::xs,u::us,.cons r t,f=>by
    rw [List.all_cons,Bool.and_eq_true] at f
    rw [List.any_cons,List.any_cons,ZjK r f.1,Ze6 t f.2]
theorem ZdF {A:Around} {s:Shared} {x:V} {v:Value} (rx:RelV x v) (fx:ZaN x=true):∀{xs:List V} {us:List Value},Vals xs us→xs.all ZaN=true→∀u∈us,SeqAt.EqAt A s u v (eqU x u)
  | _,_,.nil,_=>fun u hu=>by cases hu
  | y::xs,u::us,.cons r t,f=>fun u' hu=>by
    rw [List.all_cons,Bool.and_eq_true] at f
    rcases List.mem_cons.mp hu with rfl | hu
    · rw [ZjK r f.1]; exact ZmG r rx f.1 fx
    · exact ZdF rx fx t f.2 u' hu
def inV (x:V) (xs:List V):Bool:=xs.any fun y=>eqV y x
def rIn (K:PySem.W.Frag) (neg:Bool):R2:=fun x y H Q=>∃p xs,y=.ref p∧(SqL K H p xs∨SqT K H p xs)∧ZaN x=true∧xs.all ZaN=true∧Q (.bl (if neg then !inV x xs else inV x xs)) H
theorem Zhz:OpR X (compareOp .In) (rIn X.K false):=by
  intro pins s σ H x y v u Q I rx ry h
  obtain ⟨p,xs,rfl,hq,fx,fs,q⟩:=h
  cases ry
  rcases hq with hq | hq
  · obtain ⟨its,r,pl,hz⟩:=I.list hq
    refine SeqAt.in_listAt (eqU x) pl.isList (fun w hw=>ZdF rx fx r fs w (by simpa using hw)) ⟨.bl _,H,I,rfl,?_⟩
    rw [show its.toArray.any (eqU x)=its.any (eqU x) by simp,Ze6 r fs]
    exact q
  · obtain ⟨its,r,pl,hz⟩:=I.tuple hq
    refine SeqAt.in_tupleAt (eqU x) pl (fun w hw=>ZdF rx fx r fs w (by simpa using hw)) ⟨.bl _,H,I,rfl,?_⟩
    rw [show its.toArray.any (eqU x)=its.any (eqU x) by simp,Ze6 r fs]
    exact q
theorem Ze4:CallR X (.builtin "len") (fun xs H Q=>∃p ys,xs=[.ref p]∧(SqL X.K H p ys∨SqT X.K H p ys)∧Q (.int ys.length) H):=by
  intro pins s σ H xs us Q I r h
  obtain ⟨p,ys,rfl,hq,q⟩:=h
  obtain ⟨u,rfl,rx⟩:=Zdo r
  cases rx
  have hn:=ZcV
  rcases hq with hq | hq
  · obtain ⟨its,r',pl,hz⟩:=I.list hq
    have hlen:=r'.length
    exact Calls.call_len_list pl.isList (by simp only [List.size_toArray]<;>omega) ⟨.int ys.length,H,I.tok _,⟨s.toks+1,by rw [List.size_toArray,hlen]⟩,q⟩
  · obtain ⟨its,r',pl,hz⟩:=I.tuple hq
    have hlen:=r'.length
    exact len_tuple pl (by simp only [List.size_toArray]<;>omega) ⟨.int ys.length,H,I.tok _,⟨s.toks+1,by rw [List.size_toArray,hlen]⟩,q⟩
theorem call_len_str:CallR X (.builtin "len") (fun xs H Q=>∃z,xs=[.str z]∧z.length≤sizeLine∧Q (.int z.length) H):=by
  intro pins s σ H xs us Q I r h
  obtain ⟨z,rfl,hz,q⟩:=h
  obtain ⟨u,rfl,t,rfl⟩:=Zdo r
  have hn:=ZcV
  exact len_str (by omega) ⟨.int z.length,H,I.tok _,⟨_,rfl⟩,q⟩
theorem CallR.or {f:Value} {r r':List V→Hp→VK→Prop} (h:CallR X f r) (h':CallR X f r'):CallR X f (fun xs H Q=>r xs H Q∨r' xs H Q):=by
  intro pins s σ H xs us Q I rs q
  rcases q with q | q
  · exact h pins s σ H xs us Q I rs q
  · exact h' pins s σ H xs us Q I rs q
theorem Ze3:CallR X (.type "list") (fun xs H Q=>∃p ys,xs=[.ref p]∧(SqL X.K H p ys∨SqT X.K H p ys)∧∀l,H l=none→Q (.ref l) (upd H l (.lst ys))):=by
  intro pins s σ H xs us Q I r h
  obtain ⟨p,ys,rfl,hq,q⟩:=h
  obtain ⟨u,rfl,rx⟩:=Zdo r
  cases rx
  have fin:∀(its:List Value),Vals ys its→ys.length≤sizeLine→∀(h':Heap) (c':Nat),(∀b o',s.heap.get? b=some o'→h'.get? b=some o')→
      h'.get? s.heap.objs.size=some { cls:=.type "list",dict:=none,data:=.seq its.toArray c',slots:=#[] }→EP X pins σ Q (.ref s.heap.objs.size) { s with heap:=h' }:=fun its r' hz h' c' kp e=>
    ⟨.ref s.heap.objs.size,_,I.laid (t':=s.toks) kp (Nat.le_refl _) (show ObjOk X.prog X.w _ h' _ (.lst ys) from ⟨hz,its,c',r',e⟩),rfl,q _ (I.hok.fresh (Nat.le_refl _))⟩
  rcases hq with hq | hq
  · obtain ⟨its,r',pl,hz⟩:=I.list hq
    have hlen:=r'.length
    obtain ⟨o,ho,hc,n,hd⟩:=pl.isList
    exact call_list_seq p (.inl rfl) ho hc hd (fun h' c' kp e=>fin its r' hz h' c' kp e) (by simp only [List.size_toArray]<;>omega)
  · obtain ⟨its,r',pl,hz⟩:=I.tuple hq
    have hlen:=r'.length
    obtain ⟨o,ho,hc,n,hd⟩:=pl
    exact call_list_seq p (.inr rfl) ho hc hd (fun h' c' kp e=>fin its r' hz h' c' kp e) (by simp only [List.size_toArray]<;>omega)
theorem Zeb:CallR X (.type "tuple") (fun xs H Q=>∃p ys,xs=[.ref p]∧((SqL X.K H p ys∧∀l,H l=none→Q (.ref l) (upd H l (.tup ys)))∨(SqT X.K H p ys∧Q (.ref p) H))):=by
  intro pins s σ H xs us Q I r h
  obtain ⟨p,ys,rfl,h⟩:=h
  obtain ⟨u,rfl,rx⟩:=Zdo r
  cases rx
  rcases h with ⟨hq,q⟩ | ⟨hq,q⟩
  · obtain ⟨its,r',pl,hz⟩:=I.list hq
    have hlen:=r'.length
    refine call_tuple_list pl.isList (fun h' kp=>?_) (by simp only [List.size_toArray]<;>omega)
    have I1:Inv X pins σ H { s with heap:=h' }:=I.kept (t':=s.toks) kp
    have I2:Inv X pins σ (upd H h'.objs.size (.tup ys)) { s with heap:=h'.push { cls:=.type "tuple",data:=.seq its.toArray } }:=
      I1.laid (t':=s.toks) (fun b o e=>Heap.get?_push_of_some _ e) (Nat.le_refl _) (show ObjOk X.prog X.w _ _ _ (.tup ys) from ⟨hz,its,r',IsTup.new _ _⟩)
    exact ⟨.ref h'.objs.size,_,I2,rfl,q _ (I1.hok.fresh (Nat.le_refl _))⟩
  · obtain ⟨its,r',pl,hz⟩:=I.tuple hq
    exact call_tuple_same pl ⟨.ref p,H,I,rfl,q⟩
def tyV (K:PySem.W.Frag) (T:String) (x:V) (H:Hp):Prop:=match x with
  | .str _=>T = "str"
  | .int _=>T = "int"
  | .ref p=>(T = "list"∧∃xs,SqL K H p xs)∨(T = "tuple"∧∃o,K.lookup p=some o∧o.cls=.type "tuple"∧o.dict=none)∨
      (T = "dict"∧((∃kvs,H p=some (.dK kvs))∨∃kvs,H p=some (.dT kvs)))∨(T = "set"∧∃S n,H p=some (.set S n))
  | _=>False
theorem ZlJ {pins:List (Addr×Obj)} {σ:St} {H:Hp} {s:Shared} {T:String} {x:V} {v:Value} (I:Inv X pins σ H s) (r:RelV x v) (ty:tyV X.K T x H) :
    s.TypeIs v T∧∀a,v=.ref a→∃ob,s.heap.get? a=some ob∧ob.dict=none:=by
  cases x with
  | str z=>
    obtain ⟨t,rfl⟩:=r
    cases (show T = "str" from ty)
    exact ⟨typeIs_str s z t,fun _ e=>nomatch e⟩
  | int i=>
    obtain ⟨t,rfl⟩:=r
    cases (show T = "int" from ty)
    exact ⟨typeIs_int s i t,fun _ e=>nomatch e⟩
  | ref p=>
    cases r
    rcases ty with ⟨rfl,xs,hq⟩ | ⟨rfl,o,hk,hc,hd⟩ | ⟨rfl,hk⟩ | ⟨rfl,S,n,hk⟩
    · obtain ⟨its,_,pl,_⟩:=I.list hq
      refine ⟨pl.isList.typeIs,fun a e=>?_⟩
      cases e
      obtain ⟨o,n,e,c,hd,_⟩:=pl
      exact ⟨o,e,hd⟩
    · refine ⟨⟨o,I.kIn p o hk,hc⟩,fun a e=>?_⟩
      cases e
      exact ⟨o,I.kIn _ o hk,hd⟩
    · have z:∃o,s.heap.get? p=some o∧o.ExactDict:=by
        rcases hk with ⟨kvs,hk⟩ | ⟨kvs,hk⟩
        · obtain ⟨_,_,_,_,o,_,_,e,ex,_⟩:=I.hok p _ hk
          exact ⟨o,e,ex⟩
        · obtain ⟨_,_,_,_,o,_,_,e,ex,_⟩:=I.hok p _ hk
          exact ⟨o,e,ex⟩
      obtain ⟨o,e,ex⟩:=z
      refine ⟨⟨o,e,ex.1⟩,fun a e2=>?_⟩
      cases e2
      exact ⟨o,e,ex.2.1⟩
    · obtain ⟨o,_,_,_,e,ex,_⟩:=I.hok p _ hk
      refine ⟨⟨o,e,ex.1⟩,fun a e2=>?_⟩
      cases e2
      exact ⟨o,e,ex.2.1⟩
  | _=>exact False.elim ty
def tBM (K:PySem.W.Frag) (T:String) (r:V→List V→Hp→VK→Prop) (to:TE) (t:TA):TE:=fun σ H Q=>to σ H fun x H1=>tyV K T x H1∧t σ H1 fun xs H2=>r x xs H2 Q
variable {o e:Expr} {es:List Expr} {to:TE} {t:TA} {name:Str} {apos cpos:Pos} {T id:String} {r:V→List V→Hp→VK→Prop}
theorem Zlj (pa:PlainAttrs T) (slot:Slot T name id) (hty:typeOf (.builtin id)=pure (.type "method_descriptor")) (hm:MtR X id r) (ho:PE X o to) (ha:PA X (e::es) t)
    (hbase:attributeBase o name X.env (eval o X.env)=eval o X.env:=by rfl)
    (hfew:((backTo cpos (starEach (e::es) X.env)).all (fun x=>!x.1) && (backToKw cpos (keywordEach [] X.env)).all (fun x=>x.1.isSome)
      && decide ((e::es).length+([]:List Keyword).length+(if ([]:List Keyword).isEmpty then 0 else 1)<30))=true:=by rfl)
    (hline:(apos.endLine == cpos.line)=true:=by rfl) (hs:starEach (e::es) X.env=(false,eval e X.env)::starEach es X.env:=by rfl) (hplain:(backTo cpos (starEach es X.env)).any (·.1)=false:=by rfl) :
    PE X (.Call (.Attribute o name apos) (e::es) [] cpos) (tBM X.K T r to t):=by
  intro pins s σ H Q I h
  refine wpAny_Call_method_late hbase hfew hline rfl (thn (ho pins s σ H _ I h) fun v s1 ⟨x,H1,I1,r1,ty,q1⟩=>?_)
  obtain ⟨h1,h2⟩:=ZlJ I1 r1 ty
  refine ⟨T,id,pa,slot,hty,h1,h2,?_⟩
  have hA:=ha cpos pins s1 σ H1 _ I1 q1
  rw [hs] at hA ⊢
  refine Calls.callWith_builtin (by show (false || (backTo cpos (starEach es X.env)).any (·.1))=false; rw [hplain]<;>rfl) (Calls.evalArgs_plain ?_)
  exact thn hA fun us s2 ⟨vs,H2,I2,r2,q2⟩=>hm pins s2 σ H2 x vs v us Q I2 r1 r2 q2
end
end L2
namespace L2
open PySem PySem.Spec PyProof.Rows
def MtM (X:Cx) (id:String) (r:V→List V→Hp→VK→Prop):Prop:=
  ∀(pins:List (Addr×Obj)) (s:Shared) (σ:St) (H:Hp) (x:V) (xs:List V) (v:Value) (us:List Value) (Q:VK),Inv X pins σ H s→RelV x v→Vals xs us→r x xs H Q→
    wpAny (model X.prog X.w) X.A (call (.builtin id) (v::us)) (EP X pins σ Q) X.xe s
theorem Vals.one:∀{x:V} {us:List Value},Vals [x] us→∃u,us=[u]∧RelV x u
  | _,_,.cons r .nil=>⟨_,rfl,r⟩
theorem Vals.rep {xs:List V} {us:List Value} (h:Vals xs us):∀k:Nat,Vals (List.replicate k xs).flatten (List.replicate k us).flatten
  | 0=>.nil
  | k+1=>by
    rw [List.replicate_succ,List.replicate_succ,List.flatten_cons,List.flatten_cons]
    exact Vals.append h (Vals.rep h k)
theorem Zb3 (its:List Value):∀(k:Nat) (acc:List Value),
    List.foldl (fun x1 x2=>x1++x2) acc.toArray (List.replicate k its.toArray)=(acc++(List.replicate k its).flatten).toArray
  | 0,acc=>by simp
  | k+1,acc=>by
    have e:acc.toArray++its.toArray=(acc++its).toArray:=by simp
    have e2:(acc++its)++(List.replicate k its).flatten=acc++(List.replicate (k+1) its).flatten:=by
      rw [List.replicate_succ,List.flatten_cons,List.append_assoc]
    rw [←e2,←Zb3 its k (acc++its),←e,List.replicate_succ,List.foldl_cons]
section
variable {X:Cx} {pins:List (Addr×Obj)} {σ:St} {H:Hp} {s:Shared} {l b:Addr} {xs ys zs:List V}
theorem Inv.lset {its its':List Value} {n:Nat} {f:Array Value→Array Value} {t':Nat} (I:Inv X pins σ H s) (hH:H l=some (.lst xs))
    (e:s.heap.get? l=some { cls:=.type "list",data:=.seq its.toArray n }) (hf:f its.toArray=its'.toArray) (hv:Vals ys its') (hz:ys.length≤sizeLine) :
    Inv X pins σ (upd H l (.lst ys)) { s with heap:=s.heap.update l (Obj.mapSeq f),toks:=t' }:=by
  have q:=PySem.IsL.update e f
  rw [hf] at q
  refine I.write (x:=l) (e:=l) (by rw [hH]; exact trivial) (.inl rfl) (fun b' u hb hu=>(Heap.get?_update_other s.heap (Obj.mapSeq f) (Ne.symm hb)).trans hu) ⟨_,q⟩ ?_
  exact ⟨hz,its',_,hv,q⟩
theorem Inv.lnew {its:List Value} {t':Nat} (I:Inv X pins σ H s) (hv:Vals ys its) (hz:ys.length≤sizeLine) :
    Inv X pins σ (upd H s.heap.objs.size (.lst ys)) { s with heap:=s.heap.push { cls:=.type "list",data:=.seq its.toArray },toks:=t' }:=
  I.laid (fun _ _ q=>Heap.get?_push_of_some _ q) (Nat.le_refl _) ⟨hz,its,0,hv,Heap.get?_push_size _ rfl⟩
theorem Inv.fresh (I:Inv X pins σ H s):H s.heap.objs.size=none:=I.hok.fresh (Nat.le_refl _)
theorem Inv.lstM (I:Inv X pins σ H s) (hH:H l=some (.lst xs)):xs.length≤sizeLine∧∃(its:List Value) (n:Nat),Vals xs its∧xs.length=its.length∧s.heap.get? l=some { cls:=.type "list",data:=.seq its.toArray n }:=by
  obtain ⟨z,its,n,r,e⟩:=I.hok l _ hH
  exact ⟨z,its,n,r,r.length,e⟩
theorem ZcA {n:Nat} (h:n≤sizeLine):Builtin.List.listTooLong n=false:=by
  unfold Builtin.List.listTooLong
  exact decide_eq_false (by omega)
end
section
variable {X:Cx}
def ZeM:V→List V→Hp→VK→Prop:=fun x vs H Q=>∃l xs y,x=.ref l∧vs=[y]∧H l=some (.lst xs)∧xs.length<sizeLine∧Q .non (upd H l (.lst (xs++[y])))
theorem Zem:MtM X "list.append" ZeM:=by
  intro pins s σ H x vs v us Q I rx rv h
  obtain ⟨l,xs,y,rfl,rfl,hH,hz,q⟩:=h
  cases rx
  obtain ⟨u,rfl,ru⟩:=rv.one
  obtain ⟨z,its,n,r,hl,e⟩:=I.lstM hH
  refine call_meets F.slot_list_append ⟨_,e,rfl⟩ F.entry_list_append (F.args_list_append_2 _ _) (PySem.list_append l its.toArray n u (by rw [List.size_toArray]; omega)) ⟨e,?_⟩
  refine ⟨.non,_,I.lset (its':=its++[u]) hH e (by simp) (r.append (.cons ru .nil)) ?_,rfl,q⟩
  rw [List.length_append,List.length_singleton]
  omega
def Zkn:V→List V→Hp→VK→Prop:=fun x vs H Q=>∃l b xs zs,x=.ref l∧vs=[.ref b]∧H l=some (.lst xs)∧H b=some (.lst zs)∧xs.length+zs.length≤sizeLine∧Q .non (upd H l (.lst (xs++zs)))
theorem Zm3:MtM X "list.extend" Zkn:=by
  intro pins s σ H x vs v us Q I rx rv h
  obtain ⟨l,b,xs,zs,rfl,rfl,hH,hB,hz,q⟩:=h
  cases rx
  obtain ⟨u,rfl,ru⟩:=rv.one
  cases ru
  obtain ⟨z,its,n,r,hl,e⟩:=I.lstM hH
  obtain ⟨z2,its2,n2,r2,hl2,e2⟩:=I.lstM hB
  have hsz:its.toArray.size+its2.toArray.size≤sizeLine:=by rw [List.size_toArray,List.size_toArray]; omega
  have hlong:¬(!its.toArray.isEmpty && Builtin.List.listTooLong (its.toArray.size+its2.toArray.size))=true:=by
    rw [ZcA hsz,Bool.and_false]
    exact Bool.false_ne_true
  refine call_meets F.slot_list_extend ⟨_,e,rfl⟩ F.entry_list_extend (F.args_list_extend_2 _ _)
    (AutoSeq1.list_extend_list_list_0 l its.toArray n b its2.toArray n2 hlong (by rw [List.size_toArray]; omega) (by omega)) ⟨e,e2,?_⟩
  refine ⟨.non,_,I.lset (its':=its++its2) hH e (by simp) (r.append r2) ?_,rfl,q⟩
  rw [List.length_append]
  omega
def ZpT:R2:=fun x y H Q=>∃l b xs zs,x=.ref l∧y=.ref b∧H l=some (.lst xs)∧H b=some (.lst zs)∧xs.length+zs.length≤sizeLine∧∀p,H p=none→Q (.ref p) (upd H p (.lst (xs++zs)))
theorem Zmr:OpR X (binaryOp .Add) ZpT:=by
  intro pins s σ H x y v u Q I rx ry h
  obtain ⟨l,b,xs,zs,rfl,rfl,hH,hB,hz,q⟩:=h
  cases rx
  cases ry
  obtain ⟨z,its,n,r,hl,e⟩:=I.lstM hH
  obtain ⟨z2,its2,n2,r2,hl2,e2⟩:=I.lstM hB
  refine PySem.P.add_list e e2 ?_ (by rw [List.size_toArray,List.size_toArray]; omega)
  have ea:its.toArray++its2.toArray=(its++its2).toArray:=by simp
  rw [ea]
  exact ⟨.ref _,_,I.lnew (t':=s.toks) (r.append r2) (by rw [List.length_append]; omega),rfl,q _ I.fresh⟩
def ZpS:R2:=fun x y H Q=>∃l k xs,x=.ref l∧y=.int k∧H l=some (.lst xs)∧-(2 ^ 63)≤k∧k<2 ^ 63∧xs.length*k.toNat≤sizeLine∧
  ∀p,H p=none→Q (.ref p) (upd H p (.lst (List.replicate k.toNat xs).flatten))
theorem ZeT {α:Type} (xs:List α) (k:Nat):(List.replicate k xs).flatten.length=k*xs.length:=by
  induction k with
  | zero=>simp
  | succ k ih=>rw [List.replicate_succ,List.flatten_cons,List.length_append,ih,Nat.succ_mul,Nat.add_comm]
theorem Zmm:OpR X (binaryOp .Mult) ZpS:=by
  intro pins s σ H x y v u Q I rx ry h
  obtain ⟨l,k,xs,rfl,rfl,hH,h1,h2,hz,q⟩:=h
  cases rx
  obtain ⟨t,rfl⟩:=ry
  obtain ⟨z,its,n,r,hl,e⟩:=I.lstM hH
  have hlen:its.toArray.size*k.toNat≤sizeLine:=by rw [List.size_toArray,←hl]; exact hz
  have hcap:¬its.toArray.size*k.toNat > (2 ^ 63-1)/8:=by
    have:(sizeLine:Nat)≤(2 ^ 63-1)/8:=by decide
    omega
  have hfit:¬(!Builtin.List.listFitsIndex k)=true:=by
    rw [fitsIndex_both h1 h2]
    exact Bool.false_ne_true
  have hlong:¬Builtin.List.listTooLong (its.toArray.size*k.toNat)=true:=by
    rw [ZcA hlen]
    exact Bool.false_ne_true
  have hnew:List.foldl (fun x1 x2=>x1++x2) #[] (List.replicate (if its.toArray.isEmpty=true then 0 else k.toNat) its.toArray)=(List.replicate k.toNat its).flatten.toArray:=by
    have f0:∀m:Nat,List.foldl (fun x1 x2=>x1++x2) #[] (List.replicate m its.toArray)=(List.replicate m its).flatten.toArray:=fun m=>by
      have:=Zb3 its m []
      rw [List.nil_append] at this
      exact this
    rw [f0]
    cases its with
    | nil=>simp
    | cons a r'=>rw [if_neg (by simp)]
  refine wpAny_binaryOp_repeat_ref (T:="list") (U:="int") (by decide) ⟨_,e,rfl⟩ (fun s'=>typeIs_int s' k t) noFill_list_mul F.fills_int_mul F.slot_int_rmul repeat_list F.slot_int_index.lookup
    (call_meets F.slot_int_rmul (typeIs_int s k t) F.entry_int_rmul (F.args_int_rmul_2 _ _) (int___rmul___int_list k t l its.toArray n)
      ⟨e,rfl,⟨_,e,rfl⟩,call_meets F.slot_list_mul ⟨_,e,rfl⟩ F.entry_list_mul (F.args_list_mul_2 _ _) (AutoListH.list___mul___list_int_3 l its.toArray n k t hfit hcap hlong) ⟨e,?_⟩⟩)
  rw [hnew]
  exact ⟨.ref _,_,I.lnew (t':=s.toks) (r.rep k.toNat) (by rw [ZeT,Nat.mul_comm]; exact hz),rfl,q _ I.fresh⟩
end
section
variable {prog:Program} {w:World} {A:Around} {E:Value→Shared→Prop} {s:Shared}
theorem ZgF {a c n:Nat} (hac:a≤c) (hc:c≤n):sliceBounds (some (a:Int)) (some (c:Int)) none n=((a:Int),(c:Int),1):=by
  simp only [sliceBounds,Option.getD_none]
  have h1:¬((a:Int)<0):=by omega
  have h2:¬((c:Int)<0):=by omega
  simp only [h1,h2,if_false,show (1:Int) > 0 by decide,if_true]
  congr 1
  · omega
  · congr 1; omega
set_option maxRecDepth 100000 in
theorem Zj3 {l b sl:Addr} {items new:Array Value} {n n2:Nat} {vl vu:Value} {a c:Nat} {Q:Unit→Shared→Prop}
    (e:s.heap.get? l=some { cls:=.type "list",data:=.seq items n }) (e2:s.heap.get? b=some { cls:=.type "list",data:=.seq new n2 }) (hne:l≠b)
    (hs:s.heap.IsSliceOf sl vl vu .none) (pl:IsPart vl (some (a:Int))) (pu:IsPart vu (some (c:Int))) (hac:a≤c) (hc:c≤items.size)
    (hsz:items.size+new.size≤sizeLine) (h:Q () { s with heap:=s.heap.update l (Obj.mapSeq fun xs=>xs.extract 0 a++new++xs.extract c xs.size) }) :
    wpAny (model prog w) A (setItem (.ref l) (.ref sl) (.ref b)) Q E s:=by
  have hl:s.heap.IsList l items:=PySem.IsL.isList e
  have hb:s.heap.IsList b new:=PySem.IsL.isList e2
  obtain ⟨os,hos,hcs,hds⟩:=id hs
  have hTs:s.TypeIs (.ref sl) "slice":=⟨os,hos,hcs⟩
  have hstep:¬((rawPart none == rawInt 0)=true):=Bool.false_ne_true
  have hsame:Builtin.List.listSameRef (.ref l) (.ref b)=false:=by
    unfold Builtin.List.listSameRef
    exact beq_eq_false_iff_ne.mpr hne
  have hmax:(max (a:Int) (c:Int)).toNat=c:=by omega
  have hz':((fun xs:Array Value=>xs.extract 0 a++new++xs.extract c xs.size) items).size≤sizeLine+1:=by
    simp only [Array.size_append,Array.size_extract]
    omega
  unfold setItem
  try with_reducible refine wpAny_holding ?_
  first | refine wpAny_bind (wpAny_pure ?_) | skip
  refine wpAny_bind (wpAny_sequenceKey hl.typeIs (by decide) ?_)
  refine wpAny_bind (wpAny_callSpecial?_slot (name:=Str.ofString "__setitem__") hl.typeIs slot_list_setitem
    (wpAny_call_entry slot_list_setitem hl.typeIs entry_list_setitem ?_ (args_list_setitem _ _ _)))
  show wpAny _ _ (Builtin.List.listSubscript? (.ref sl) >>= _) _ _ s
  refine wpAny_bind ?_
  unfold Builtin.List.listSubscript?
  refine wpAny_bind (wpAny_specialOf hTs slice_no_index ?_)
  simp only [Option.isNone_none,if_true]
  refine wpAny_pure ?_
  show wpAny _ _ (typeOf (.ref sl) >>= _) _ _ s
  refine wpAny_bind (wpAny_typeOf hTs ?_)
  first
    | rw [if_neg (by decide)]
    | refine PySem.W.KFB.if_not (by decide) ?_
  rw [listSliceParts_eq]
  refine wpAny_bind (wpAny_bind (wpAny_field hos hds (x:=.none) rfl (wpAny_bind (wpAny_listPart .none ?_))))
  rw [if_neg hstep]
  refine wpAny_bind (wpAny_field hos hds (x:=vl) rfl (wpAny_bind (wpAny_listPart pl ?_)))
  refine wpAny_bind (wpAny_field hos hds (x:=vu) rfl (wpAny_bind (wpAny_listPart pu (wpAny_pure ?_))))
  first
    | simp only [hsame,Bool.false_eq_true,if_false]
    | refine PySem.W.KFB.if_not hsame ?_
    | (dsimp only
       rw [if_neg (by rw [hsame]; exact Bool.false_ne_true)])
  refine wpAny_bind (m:=Builtin.List.listAllItems (.ref b) "must assign iterable to extended slice") ?_
  unfold Builtin.List.listAllItems
  refine wpAny_bind (wpAny_typeOf hb.typeIs ?_)
  first
    | refine PySem.W.KFB.if_so (by decide) ?_
    | rw [if_pos (by decide)]
    | simp only [beq_self_eq_true,Bool.true_or,if_true]
  unfold Builtin.List.listItems
  refine wpAny_bind (wpAny_seqItems e2 rfl (wpAny_pure ?_))
  refine wpAny_bind (wpAny_bind (wpAny_seqItems e rfl (wpAny_pure ?_)))
  refine wpAny_bind (wpAny_of_eq ((sliceIndices_raw (some (a:Int)) (some (c:Int)) none items.size (by simp)).trans (congrArg (pure:Int×Int×Int→Sem (Int×Int×Int)) (ZgF hac hc))) ?_)
  show wpAny _ _ (if ((1:Int) == 1)=true then _ else _) _ _ s
  rw [if_pos (by decide)]
  refine wpAny_bind (wpAny_rule ?_)
  first
    | simp only [ZcA hsz,Bool.false_eq_true,if_false]
    | refine PySem.W.KFB.if_not (ZcA hsz) ?_
  first | refine wpAny_bind (wpAny_pure ?_) | skip
  show wpAny _ _ (updateSeq l (fun xs=>xs.extract 0 ((a:Int)).toNat++new++xs.extract (max (a:Int) (c:Int)).toNat xs.size) >>= _) _ _ s
  rw [hmax,Int.toNat_natCast]
  refine wpAny_bind (wpAny_updateSeq (hz:=Nat.le_trans (Nat.le_add_right _ _) hsz) (_hz':=hz') e rfl ?_)
  refine wpAny_bind (wpAny_letGo ?_)
  first
    | exact wpAny_bind (wpAny_pure (wpAny_pure ⟨.none,rfl,wpAny_pure h⟩))
    | exact wpAny_pure ⟨.none,rfl,wpAny_pure h⟩
end
section
variable {X:Cx}
end
end L2
namespace Att
open PySem PySem.W PySem.Calls PyProof.Rows
theorem Zdi {P:Params} {h:Heap}:∀(ns:List Int) (vs:List Value),WellAll P h vs (ns.map WData.int)→IntsAre vs ns:=by
  intro ns
  induction ns with
  | nil=>
    intro vs w
    rw [List.map_nil] at w
    cases w
    exact .nil
  | cons n ns ih=>
    intro vs w
    rw [List.map_cons] at w
    cases w with
    | cons a b=>
      cases a
      exact .cons _ _ (ih _ b)
theorem Zhu {l:OpenLaw} {n:Nat} (hn:l.most=some n) {P:Params} {h:Heap} {args:List WData} {vals:List Value}
    (hpre:l.row.toRowW.claim.pre args=true) (hwl:WellAll P h vals args) :
    ∃a vs ns,vals=[Value.ref a]∧args=[WData.list (ns.map WData.int)]∧h.get? a=some { cls:=.type "list",data:=.seq vs.toArray }∧IntsAre vs ns∧ns.length≤n:=by
  have hsh:WShape.hasAll [] args [.list .int]=true:=(pre_splitW hpre).1
  have hc:l.pre.holds [] { args:=args }=true:=(pre_splitW hpre).2
  obtain ⟨d,r,rfl,h1,h2⟩:=hasAllW_cons hsh
  obtain rfl:=hasAllW_nil h2
  obtain ⟨xs,rfl,h3⟩:=hasW_list h1
  obtain ⟨ns,rfl⟩:=items_int h3
  have hlen:ns.length≤n:=by
    unfold OpenLaw.pre at hc
    have h4:(WTm.not (.lt (.lit (.int (n:Int))) (.len (.arg 0)))).holds [] { args:=[.list (ns.map .int)] }=true:=by
      have h4:=(holds_andW hc).1
      rw [hn] at h4
      exact h4
    have h5:=condW_of h4 (w_not (w_lt w_lit (w_len_list (w_arg rfl))))
    rw [List.length_map] at h5
    refine Nat.le_of_not_lt fun q=>?_
    have q':(n:Int)<((ns.length:Nat):Int):=by omega
    first
      | (rw [decide_eq_true q'] at h5; exact absurd h5 (by decide))
      | (simp at h5; omega)
  cases hwl with
  | cons w1 w2=>
    cases w2
    cases w1 with
    | list ho hall=>exact ⟨_,_,ns,rfl,rfl,ho,Zdi ns _ hall,hlen⟩
theorem Zhv (l:OpenLaw) (args:List WData):l.row.toRowW.claim.post args (.bool true) args=true:=
  postW_of (r:=l.row.toRowW) (X:=(true == true))
    (show WShape.has [] (.bool true) .bool=true by first | rfl | decide | simp [WShape.has,WShape.arms,WShape.armsAll])
    (show (WTm.eq .res (.lit (.bool true))).value [] { args:=args,res:=some (.bool true),after:=args }=some (.bool (true == true)) from w_eq_bool (w_res rfl) w_lit) rfl
theorem attach_call {l:OpenLaw} {n:Nat} {q:Program} {loose:List Str} {XP:(Str→Option Value)→Heap→Prop} {YP:World→Heap→Prop} {d:DefRec}
    (hn:l.most=some n) (hdf:d.params.defaults=[])
    (call:∀(w:World) (s₀ s₁:Shared) (mg mb:Str→Option Value) (fa:Addr) (o:Obj) (pm cd doc:Value) (a:Addr) (vs:List Value) (ns:List Int),
      Ground q loose [] XP w s₀ mg mb s₁.heap→YP w s₁.heap→
      s₁.heap.get? fa=some o→o.data=.func (docDef d.name d.params d.body d.scope pm cd doc)→s₁.heap.CodeRec cd d.name→mg d.name=some (.ref fa)→
      s₁.heap.get? a=some { cls:=.type "list",data:=.seq vs.toArray }→IntsAre vs ns→ns.length≤n→s₁.gens=#[]→
      codeAny (model l.prog w) callerA (.call (.ref fa) ⟨[.ref a],[]⟩) (fun r s'=>r=.ok (.ret (.bool true))∧OldK s₁.heap s'.heap∧s'.os=s₁.os∧AllBare s'.gens) s₁) :
    WalkO q loose XP YP l.row.toRowW d [] (fun f vs=>PySem.call f vs):=by
  intro w s₀ s₁ mg mb G Y fa o pm cd doc dV kV ho hd hcd hD hmg hg args vals as hpre hlay hrd hwl hlo
  obtain rfl:dV=.none:=Dflts.none hD hdf
  obtain rfl:kV=.none:=Dflts.noKw hD
  obtain ⟨a,vs,ns,rfl,rfl,hobj,hints,hlen⟩:=Zhu hn hpre hwl
  refine enter_call (codeAny_mono (call w s₀ s₁ mg mb fa o pm cd doc a vs ns G Y ho (fd_plain hd) hcd hmg hobj hints hlen hg) fun r s' hq=>?_)
  obtain ⟨rfl,h2,h3,h4⟩:=hq
  exact ⟨.inl ⟨.bool true,.bool true,[],rfl,fun _=>rfl,.bool true,Zhv l _,fun _=>⟨List.Pairwise.nil,fun _ hm=>(nomatch hm)⟩⟩,h2,h3,h4⟩
section
variable {prog:Program} {w:World} {A:Around} {E:Value→Shared→Prop} {s:Shared} {K:Frag}
end
end Att
namespace L2
open PySem PySem.Spec PyProof.Rows
theorem Zed:∀{vs:List Value} {ns:List Int},IntsAre vs ns→Vals (ns.map V.int) vs
  | _,_,.nil=>.nil
  | _,_,.cons n t h=>.cons ⟨t,rfl⟩ (Zed h)
def Zk6 (H:Hp):Prop:=∀b,H b=none∨∃o xs,H b=some (.frz o (.lst xs))
theorem Zjr {P:Program} {w:World} {K:PySem.W.Frag} {mg mb:Str→Option Value} {CX:CXT} {k:Nat} {fa a:Addr} {fd:FuncData} {x:Str} {sp:Sp} {s₁:Shared} {vs:List Value} {ns:List Int}
    (KX:K.In s₁.heap) (hns:s₁.heap.Ns mainGlobals mg) (hb:s₁.heap.Ns builtinsNs mb) (hbb:∀x:Str,x≠"__name__"→mb x=bootBuiltins x) (hlim:s₁.heap.NoLimit) (hg:s₁.gens=#[])
    (ha:s₁.heap.get? a=some { cls:=.type "list",data:=.seq vs.toArray }) (hi:IntsAre vs ns) (hl:ns.length≤sizeLine) (hr:Room k callerA)
    (F:∀base:Heap,K.In base→base.Ns mainGlobals mg→FnOk P w K mg base CX k fa fd [x] sp) (hbind:∀(s:Shared) (u:Value),BindsTo s fd ⟨[u],[]⟩ [(x,u)])
    (hsp:∀H:Hp,Zk6 H→SqL K H a (ns.map V.int)→sp [.ref a] H (fun v _=>v=.bl true) fun _ _ _=>False)
    (hCX:∀H e s',CX [] H s₁ (fun _ _ _=>False) e s'→False) :
    codeAny (model P w) callerA (.call (.ref fa) ⟨[.ref a],[]⟩) (fun r s'=>r=.ok (.ret (.bool true))∧OldK s₁.heap s'.heap∧s'.os=s₁.os∧AllBare s'.gens) s₁:=by
  have rv:=Zed hi
  have lenV:=hi.length
  have core:∀H:Hp,Zk6 H→SqL K H a (ns.map V.int)→HOk P w H s₁.heap→(∀b,H b≠none→b=a)→(H a≠none→K.lookup a=none)→
      codeAny (model P w) callerA (.call (.ref fa) ⟨[.ref a],[]⟩) (fun r s'=>r=.ok (.ret (.bool true))∧OldK s₁.heap s'.heap∧s'.os=s₁.os∧AllBare s'.gens) s₁:=by
    intro H hO hS hok hA hK
    have base_of:∀{b:Addr} {o:Obj},s₁.heap.get? b=some o→H b=none→(ZeY s₁.heap H).get? b=some o:=fun e n=>Zjy e n
    have noA:∀{b:Addr} {o:Obj} {es:Array DictEntry} {ep:Nat},s₁.heap.get? b=some o→o.data=.dict es ep→H b=none:=fun {b o es ep} e d=>by
      cases q:H b with
      | none=>rfl
      | some u=>
        have e':b=a:=hA b (by rw [q]; simp)
        subst e'
        rw [ha] at e; cases e
        have d':Data.seq vs.toArray _=Data.dict es ep:=d
        cases d'
    have nsK:∀{b:Addr} {m:Str→Option Value},s₁.heap.Ns b m→(ZeY s₁.heap H).Ns b m:=fun {b m} ⟨o,es,ep,e,d,r⟩=>⟨o,es,ep,base_of e (noA e d),d,r⟩
    have hKb:K.In (ZeY s₁.heap H):=fun b o e=>base_of (KX b o e) (by
      cases q:H b with
      | none=>rfl
      | some u=>
        have e':b=a:=hA b (by rw [q]; simp)
        subst e'
        rw [hK (by rw [q]; simp)] at e; cases e)
    have hM:Mod K mg (ZeY s₁.heap H):=⟨hKb,nsK hns,⟨mb,nsK hb,hbb⟩,let ⟨mc,h1,h2⟩:=hlim; ⟨mc,nsK h1,h2⟩⟩
    have e0:Env0 P w K mg (ZeY s₁.heap H) callerA [] s₁ H:=⟨rfl,hM,fun b o e=>ZkG e,Nat.le_of_eq (ZhK _ _),trivial,fun b hb=>absurd (show b∈([]:List Addr) from hb) (by simp),hok,.of_eq hg⟩
    refine codeAny_mono ((F _ hKb (nsK hns)).run callerA [] s₁ H ⟨[.ref a],[]⟩ [.ref a] [.ref a] _ _ hr e0 (hbind s₁ (.ref a)) (.cons rfl .nil) (hsp H hO hS)) fun r s' h=>?_
    cases r with
    | error e=>exact (hCX H e s' h).elim
    | ok fl=>
      cases fl with
      | next=>exact False.elim h
      | brk=>exact False.elim h
      | cont=>exact False.elim h
      | ret u=>
        obtain ⟨v,H',os,bare,un,hok',r',q⟩:=h
        have q':v=.bl true:=q
        subst q'
        obtain rfl:u=Value.bool true:=r'
        refine ⟨rfl,OldK.of_keep fun b o e=>?_,os,bare⟩
        cases q:H b with
        | none=>exact un.keep b o e q (by intro z; exact absurd (show b∈([]:List Addr) from z) (by simp)) (by simp)
        | some u=>
          rcases hO b with z | ⟨ob,xs,z⟩
          · rw [q] at z; cases z
          · have z2:=un.frzs b ob _ z
            obtain ⟨e1,_⟩:=hok b _ z
            obtain ⟨e2,_⟩:=hok' b _ z2
            rw [e] at e1; cases e1
            exact e2
  cases hk:K.lookup a with
  | some o=>
    have e:=KX a o hk
    rw [ha] at e
    cases e
    refine core (fun _=>none) (fun _=>.inl rfl) (.inr ⟨_,vs.toArray,_,hk,rfl,rfl,rfl,by rw [List.size_toArray,lenV]; exact hl,by simpa using rv⟩) (fun b u z=>by have z':(none:Option HO)=some u:=z; cases z') (fun b z=>absurd rfl z) fun z=>absurd rfl z
  | none=>
    refine core (fun b=>if b=a then some (.frz { cls:=.type "list",data:=.seq vs.toArray } (.lst (ns.map V.int))) else none) (fun b=>?_) (.inl (.inr ⟨{ cls:=.type "list",data:=.seq vs.toArray },if_pos rfl⟩)) (fun b u z=>?_) (fun b z=>?_) fun _=>hk
    · by_cases hb:b=a
      · exact .inr ⟨_,_,if_pos hb⟩
      · exact .inl (if_neg hb)
    · by_cases hb:b=a
      · have z':=(if_pos hb).symm.trans z
        cases z'
        subst hb
        exact ⟨ha,by rw [List.length_map]; exact hl,vs,_,rv,ha⟩
      · have z':=(if_neg hb).symm.trans z
        cases z'
    · by_cases hb:b=a
      · exact hb
      · exact absurd (if_neg hb) z
end L2
namespace L2
open PySem PySem.Spec PyProof.Rows
theorem Zj7 {l:PySem.W.OpenLaw} {n k:Nat} {q:Program} {loose:List Str} {XP:(Str→Option Value)→Heap→Prop} {YP:World→Heap→Prop} {d:DefRec} {K:Params→PySem.W.Frag} {CX:World→CXT} {sp:World→Sp} {x:Str}
    (hn:l.most=some n) (hn2:n≤sizeLine) (hdf:d.params.defaults=[]) (hr:Room k callerA)
    (hY:∀(w:World) (h:Heap),YP w h→(K w.params).In h)
    (F:∀(w:World) (mg:Str→Option Value) (fa:Addr) (h:Heap),(K w.params).In h→h.Ns mainGlobals mg→mg d.name=some (.ref fa)→
      ∃fd:FuncData,(∀(s:Shared) (u:Value),BindsTo s fd ⟨[u],[]⟩ [(x,u)])∧
        ∀base:Heap,(K w.params).In base→base.Ns mainGlobals mg→FnOk l.prog w (K w.params) mg base (CX w) k fa fd [x] (sp w))
    (hsp:∀(w:World) (H:Hp) (a:Addr) (ns:List Int),ns.length≤n→Zk6 H→SqL (K w.params) H a (ns.map V.int)→sp w [.ref a] H (fun v _=>v=.bl true) fun _ _ _=>False)
    (hCX:∀(w:World) (H:Hp) (s:Shared) (e:Value) (s':Shared),CX w [] H s (fun _ _ _=>False) e s'→False) :
    PySem.W.WalkO q loose XP YP l.row.toRowW d [] (fun f vs=>PySem.call f vs):=by
  refine Att.attach_call hn hdf fun w s₀ s₁ mg mb fa o pm cd doc a vs ns G Y ho hd hcd hmg hobj hints hlen hg=>?_
  have KX:=hY w _ Y
  obtain ⟨fd,hb,hF⟩:=F w mg fa _ KX G.T.g hmg
  exact Zjr KX G.T.g G.T.b G.T.builtins G.T.nolimit hg hobj hints (Nat.le_trans hlen hn2) hr hF hb (fun H hO hS=>hsp w H a ns hlen hO hS) fun H e s'=>hCX w H s₁ e s'
end L2
namespace L2
open PySem PySem.Spec PyProof.Rows
def ZcG (s:Stmt) (j:Nat):Stmt:=match s with
  | .ClassDef _ _ _ body _ _ _ _ _ _ _=>body.getD j (.Pass ⟨0,0,0,0⟩)
  | _=>.Pass ⟨0,0,0,0⟩
def Zr (s:Stmt):Arguments:=match s with
  | .FunctionDef _ a _ _ _ _ _ _ _ _=>a
  | _=>{ posonlyargs:=[],args:=[],vararg:=none,kwonlyargs:=[],kw_defaults:=[],kwarg:=none,defaults:=[] }
def Zn (s:Stmt):List Stmt:=match s with
  | .FunctionDef _ _ b _ _ _ _ _ _ _=>b
  | _=>[]
def Zf (s:Stmt):Scope:=match s with
  | .FunctionDef _ _ _ _ _ _ sc _ _ _=>sc
  | _=>{ kind:=.function,names:=[],isGenerator:=false,isCoroutine:=false }
abbrev CX0:CXT:=fun _ _ _ _ _ _=>False
abbrev E0:XK:=fun _ _ _=>False
theorem ZgU {X:Cx}:Zcs CX0 X E0:=fun _ _ _ _ _ _ _ h=>h.elim
structure Fun (K:PySem.W.Frag) (x qual:Str) (st:Stmt) (f:Addr) (fd:FuncData):Prop where
  ex:∃(oc:Value) (od:Option Addr) (kV doc pm:Value) (an:Option Addr) (cdv ct:Value) (osl:Array (Option Value)),
    fd=PySem.W.fnOf x qual (Zr st) (Zn st) (Zf st) .none kV doc pm an cdv ct∧K.lookup f=some ⟨oc,od,.func fd,osl⟩∧PySem.W.codeIn K cdv qual=true
  kp:PySem.W.keepIn K (.ref f)=true
section
variable {P:Program} {w:World} {K:PySem.W.Frag} {mg:Str→Option Value} {base:Heap}
theorem Fun.ok {x qual:Str} {st:Stmt} {f:Addr} {fd:FuncData} {N ps:List Str} {k:Nat} {sp:Sp} (F:Fun K x qual st f fd) (S:Zp N ps (Zf st)) (len:∀vs H Q E,sp vs H Q E→vs.length=ps.length)
    (hbody:∀(cdv:Value) (A:Around) (outer:List Env) (s:Shared) (H:Hp) (vs:List V) (Q:VK) (E:XK),Room k (A.deeper (envOfC qual (Zf st) s.heap.objs.size f cdv))→sp vs H Q E→
      ∃t,PSs (Zc1 CX0 P w K mg base N qual (Zf st) f cdv A outer s H E).nox (Zn st) t∧t { nx:=fun _ H'=>Q .non H',rt:=Q } (Zbu N vs) H):FnOk P w K mg base CX0 (k+1) f fd ps sp:=by
  obtain ⟨oc,od,kV,doc,pm,an,cdv,ct,osl,rfl,lk,hcd⟩:=F.ex
  refine Zod lk hcd S len fun A outer s H vs Q E hr hsp=>?_
  obtain ⟨t,h,q⟩:=hbody cdv A outer s H vs Q E hr hsp
  exact ⟨t,h.nox,q⟩
theorem Fun.binds {x qual:Str} {st:Stmt} {f:Addr} {fd:FuncData} {ps:List Str} (F:Fun K x qual st f fd)
    (h:∀(kV doc pm:Value) (an:Option Addr) (cdv ct:Value) (us:List Value),us.length=ps.length→bindArgs (PySem.W.fnOf x qual (Zr st) (Zn st) (Zf st) .none kV doc pm an cdv ct) ⟨us,[]⟩=pure (ps.zip us)):Binds K fd ps []:=by
  obtain ⟨oc,od,kV,doc,pm,an,cdv,ct,osl,rfl,lk,hcd⟩:=F.ex
  exact .all (h kV doc pm an cdv ct)
theorem Zz {x qual:Str} {st:Stmt} {f:Addr} {oc:Value} {od an:Option Addr} {osl:Array (Option Value)} {kV doc pm cdv ct:Value} (l:K.lookup f=some ⟨oc,od,.func (PySem.W.fnOf x qual (Zr st) (Zn st) (Zf st) .none kV doc pm an cdv ct),osl⟩)
    (c:PySem.W.codeIn K cdv qual=true) (k:PySem.W.keepIn K (.ref f)=true):Fun K x qual st f (PySem.W.fnOf x qual (Zr st) (Zn st) (Zf st) .none kV doc pm an cdv ct):=⟨⟨oc,od,kV,doc,pm,an,cdv,ct,osl,rfl,l,c⟩,k⟩
end
section
variable {X:Cx}
end
end L2
namespace L2
open PySem PySem.Spec PyProof.Rows
section
variable {P:Program} {w:World} {K:PySem.W.Frag} {mg:Str→Option Value} {base:Heap}
def Zu (K:PySem.W.Frag) (mg:Str→Option Value) (x:Str) (st:Stmt) (ps:List Str):Prop:=
  ∃(f:Addr) (fd:FuncData),Fun K x x st f fd∧Binds K fd ps []∧mg x=some (.ref f)
def Def (P:Program) (w:World) (K:PySem.W.Frag) (mg:Str→Option Value) (base:Heap) (k:Nat) (x:Str) (ps:List Str) (sp:Sp):Prop:=
  ∃(f:Addr) (fd:FuncData),FnOk P w K mg base CX0 k f fd ps sp∧Binds K fd ps []∧PySem.W.keepIn K (.ref f)=true∧mg x=some (.ref f)
end
section
variable {X:Cx} {k:Nat} {x:Str} {ps:List Str} {sp:Sp} {p pos:Pos} {e:Expr} {es:List Expr} {t:TA}
theorem Zi5 {j:Nat} (D:Def X.prog X.w X.K X.mg X.base k x ps sp) (hr:Room j X.A) (hj:k≤j) (ha:PA X (e::es) t) (hg:Gl X x:=by rfl) (hdb:(x == ("__debug__":Str))=false:=by decide)
    (he:starEach (e::es) X.env=(false,eval e X.env)::starEach es X.env:=by rfl) (hpl:(backTo pos (starEach es X.env)).any (·.1)=false:=by rfl):PE X (.Call (.Name x p) (e::es) [] pos) (Zlf sp [] E0 t):=by
  obtain ⟨f,fd,F,b,kp,m⟩:=D
  exact ZkC F (hr.mono hj) hg m kp b .nil ZgU ha hdb he hpl
theorem ZkA {i:Int} (h:∃t,X.mg x=some (.int i t)) (hg:Gl X x:=by rfl) (hd:(x == ("__debug__":Str))=false:=by decide):PE X (.Name x pos) (tC (.int i)):=by
  obtain ⟨t,h⟩:=h
  exact ZgT hg h ⟨t,rfl⟩ hd
def Zom (_ j:Int):Prop:=0<j∧j.natAbs.log2<9000
theorem Zi7:OpR X (binaryOp .FloorDiv) (rI Zom fun i j=>.int (i/j)):=opI fun i j _ _ _ _ _ hc q=>by
  have h1:(0:Int)<j:=hc.1
  exact floordiv_int (by omega) (by rw [Int.fdiv_eq_ediv_of_nonneg i (by omega)]; exact q) (.inl (PyProof.noPylong_of_log2 hc.2))
end
end L2
set_option maxHeartbeats 4000000
namespace L2
open PySem PySem.Spec PyProof.Rows
section
variable {X:Cx} {x:Str} {px:Pos} {iter elt:Expr} {scope:Scope} {pos:Pos} {N':List Str} {src:List Nat} {wi:TI} {te:TE}
structure Zm8 (scope sc:Scope) (x:Str) (N N':List Str) (src:List Nat):Prop where
  kind:scope.kind=.function
  cell:∀y∈scope.names,y.2≠.cell
  loc:∀y∈scope.names,y.2=.local→scope.names.lookup y.1=some .local
  own:scope.names.lookup x=some .local
  free:∀y∈scope.names,y.2=.free→sc.names.lookup y.1=some .cell
  nd:N'.Nodup
  names:N'=x::src.map fun j=>N.getD j x
  all:∀j∈src,j<N.length
  fr:∀j∈src,sc.names.lookup (N.getD j x)=some .cell∧scope.names.lookup (N.getD j x)=some .free
end
end L2
namespace L2
open PySem PySem.Spec PyProof.Rows PySem.SeqAt
section
variable {X:Cx}
theorem Zej {ns:List Int}:∀k,k≤ns.length→preSum (fun i=>ns.getD i 0) k=(ns.take k).sum
  | 0,_=>by simp [preSum]
  | k+1,h=>by
    have hk:k<ns.length:=by omega
    rw [preSum,Zej k (by omega),List.take_add_one,List.getElem?_eq_getElem hk,List.getD_eq_getElem?_getD,List.getElem?_eq_getElem hk]
    show _=(ns.take k++[ns[k]]).sum
    rw [List.sum_append,List.sum_cons,List.sum_nil,Int.add_zero]
    rfl
theorem ZjU (hc:X.calm=true):CallR X (.builtin "sum") (fun xs H Q=>∃(p:Addr) (ns:List Int),xs=[.ref p]∧SqL X.K H p (ns.map V.int)∧Q (.int ns.sum) H):=by
  intro pins s σ H xs us Q I r h
  obtain ⟨p,ns,rfl,hq,q⟩:=h
  obtain ⟨u,rfl,rx⟩:=Zdo r
  cases rx
  obtain ⟨its,r',pl,hz⟩:=I.list hq
  have hl:=r'.length
  rw [List.length_map] at hl
  refine call_sum_walkG (wpAny_pyIter_list pl.isList ?_)
  have hne:p≠s.heap.objs.size:=by
    obtain ⟨o,n,e,_⟩:=pl
    exact Nat.ne_of_lt (Heap.lt_size e)
  refine ⟨s.heap.objs.size,_,_,_,_,_,fun i=>ns.getD i 0,rfl,Walks.list (A:=X.A.in1) (I.ok.hd hc) _ p hne its.toArray,⟨⟨_,Heap.get?_push_size _ rfl,rfl,rfl⟩,?_⟩,?_,?_,fun h' tk t' hk=>?_⟩
  · obtain ⟨o,n,e,hc',hd,hs⟩:=pl
    exact ⟨o,Heap.get?_push_of_some _ e,hc',n,hs⟩
  · intro b hb
    have hb':b=s.heap.objs.size∨b=p:=by simpa using hb
    rcases hb' with rfl | rfl
    · show _<(s.heap.push _).objs.size
      rw [Heap.size_push]; exact Nat.lt_succ_self _
    · obtain ⟨o,n,e,_⟩:=pl
      show _<(s.heap.push _).objs.size
      rw [Heap.size_push]; exact Nat.lt_succ_of_lt (Heap.lt_size e)
  · intro i v hp
    have hp':its[i]?=some v:=by simpa using hp
    have hi:i<ns.length:=by rw [hl]; exact (List.getElem?_eq_some_iff.mp hp').1
    obtain ⟨u,hu,ru⟩:=r'.get (i:=i) (x:=.int (ns.getD i 0)) (by rw [List.getElem?_map,List.getElem?_eq_getElem hi,List.getD_eq_getElem?_getD,List.getElem?_eq_getElem hi]; rfl)
    rw [hp'] at hu; cases hu
    exact ru
  · refine ⟨.int ns.sum,H,(I.kept (t':=s.toks) fun b o e=>Heap.get?_push_of_some _ e).turned (it:=s.heap.objs.size) (fun b o hb e=>hk b o (by simpa using hb) e) (I.hok.fresh (Nat.le_refl _)) (Nat.ne_of_gt I.lt) (.inr I.sz) (fun x c e z=>?_) (fun q hq z=>?_),⟨t',?_⟩,q⟩
    · obtain ⟨v,w'⟩:=I.cell x c e
      exact absurd w'.lt (by rw [z]; exact Nat.lt_irrefl _)
    · exact absurd (Heap.lt_size (I.pin q hq).1) (by rw [z]; exact Nat.lt_irrefl _)
    · rw [List.size_toArray,←hl,Zej _ (Nat.le_refl _),List.take_length]
mutual
inductive RdV (K:PySem.W.Frag) (H:Hp):V→PyData→Prop
  | non:RdV K H .non .none
  | bl (b:Bool):RdV K H (.bl b) (.bool b)
  | int (i:Int):RdV K H (.int i) (.int i)
  | str (x:Str):RdV K H (.str x) (.str x)
  | lst {a:Addr} {xs:List V} {ds:List PyData}:SqL K H a xs→RdVs K H xs ds→RdV K H (.ref a) (.list ds)
  | tup {a:Addr} {xs:List V} {ds:List PyData}:SqT K H a xs→RdVs K H xs ds→RdV K H (.ref a) (.tuple ds)
inductive RdVs (K:PySem.W.Frag) (H:Hp):List V→List PyData→Prop
  | nil:RdVs K H [] []
  | cons {x:V} {xs:List V} {d:PyData} {ds:List PyData}:RdV K H x d→RdVs K H xs ds→RdVs K H (x::xs) (d::ds)
end
mutual
theorem RdV.reads {pins:List (Addr×Obj)} {σ:St} {H:Hp} {s:Shared} (I:Inv X pins σ H s):∀{x:V} {d:PyData} {u:Value},RdV X.K H x d→RelV x u→∃as,Reads s.heap u d as
  | _,_,_,.non,r=>by cases r; exact ⟨_,.none⟩
  | _,_,_,.bl b,r=>by cases r; exact ⟨_,.bool b⟩
  | _,_,_,.int i,r=>by obtain ⟨t,rfl⟩:=r; exact ⟨_,.int i t⟩
  | _,_,_,.str x,r=>by obtain ⟨t,rfl⟩:=r; exact ⟨_,.str x t⟩
  | _,_,_,.lst h hs,r=>by
    cases r
    obtain ⟨its,rv,⟨o,n,e,hc,hd,hq⟩,_⟩:=I.list h
    obtain ⟨as,q⟩:=RdVs.reads I hs rv
    exact ⟨_,.list e hc hq (by simpa using q)⟩
  | _,_,_,.tup h hs,r=>by
    cases r
    obtain ⟨its,rv,⟨o,e,hc,n,hq⟩,_⟩:=I.tuple h
    obtain ⟨as,q⟩:=RdVs.reads I hs rv
    exact ⟨_,.tuple e hc hq (by simpa using q)⟩
theorem RdVs.reads {pins:List (Addr×Obj)} {σ:St} {H:Hp} {s:Shared} (I:Inv X pins σ H s):∀{xs:List V} {ds:List PyData} {us:List Value},RdVs X.K H xs ds→Vals xs us→∃as,ReadsAll s.heap us ds as
  | _,_,_,.nil,r=>by cases r; exact ⟨_,.nil⟩
  | _,_,_,.cons h hs,r=>by
    cases r with
    | cons r rr=>
      obtain ⟨as,q⟩:=RdV.reads I h r
      obtain ⟨bs,q2⟩:=RdVs.reads I hs rr
      exact ⟨_,.cons q q2⟩
end
theorem Zmq (hu:X.A.units+64<cLine):OpR X (compareOp .Eq) (fun x y H Q=>∃d e:PyData,RdV X.K H x d∧RdV X.K H y e∧shaped d=true∧shaped e=true∧noMix d e=true∧Q (.bl (same d e)) H):=by
  intro pins s σ H x y v u Q I rx ry h
  obtain ⟨d,e,hd,he,sd,se,hm,q⟩:=h
  obtain ⟨as,ra⟩:=hd.reads I rx
  obtain ⟨bs,rb⟩:=he.reads I ry
  exact eq_dataH_same ra rb sd se hu hm ⟨.bl _,H,I,rfl,q⟩
theorem Zmn (hu:X.A.units+64<cLine):OpR X (compareOp .NotEq) (fun x y H Q=>∃d e:PyData,RdV X.K H x d∧RdV X.K H y e∧shaped d=true∧shaped e=true∧noMix d e=true∧Q (.bl (!same d e)) H):=by
  intro pins s σ H x y v u Q I rx ry h
  obtain ⟨d,e,hd,he,sd,se,hm,q⟩:=h
  obtain ⟨as,ra⟩:=hd.reads I rx
  obtain ⟨bs,rb⟩:=he.reads I ry
  exact ne_dataH_same ra rb sd se hu hm ⟨.bl _,H,I,rfl,q⟩
theorem ZkD:OpR X (compareOp .IsNot) (fun x y H Q=>∃b c:Bool,x=.bl b∧y=.bl c∧Q (.bl (!(b == c))) H):=by
  intro pins s σ H x y v u Q I rx ry h
  obtain ⟨b,c,rfl,rfl,q⟩:=h
  cases rx
  cases ry
  have e:(Value.bool b == Value.bool c)=(b == c):=by cases b<;>cases c<;>rfl
  exact wpAny_isNot_plain rfl ⟨.bl _,H,I,rfl,by rw [e]; exact q⟩
def ZbC (xs:List V) (lo hi st:Option Int):List V:=(sliceRange (sliceBounds lo hi st xs.length).1 (sliceBounds lo hi st xs.length).2.1 (sliceBounds lo hi st xs.length).2.2).filterMap (xs[·]?)
theorem Vals.pick {xs:List V} {us:List Value} (r:Vals xs us):∀ks:List Nat,Vals (ks.filterMap (xs[·]?)) (ks.filterMap (us[·]?))
  | []=>.nil
  | k::ks=>by
    cases e:xs[k]? with
    | none=>
      have e':=r.none_of e
      rw [List.filterMap_cons_none e,List.filterMap_cons_none e']
      exact r.pick ks
    | some x=>
      obtain ⟨u,e',q⟩:=r.get e
      rw [List.filterMap_cons_some e,List.filterMap_cons_some e']
      exact .cons q (r.pick ks)
def ZpB (K:PySem.W.Frag) (te:TE) (tl th ts:TO):TE:=fun σ H Q=>te σ H fun x H1=>tl σ H1 fun l H2=>th σ H2 fun u H3=>ts σ H3 fun st H4=>∃a xs,x=.ref a∧SqL K H4 a xs∧st≠some 0∧(ZbC xs l u st).length≤sizeLine∧
  ∀p,H4 p=none→Q (.ref p) (upd H4 p (.lst (ZbC xs l u st)))
theorem Zhx {e sp:Expr} {te:TE} {lo hi:Option Expr} {tl th ts:TO} {pos p2:Pos} (he:PE X e te) (hl:PO X lo tl) (hu:PO X hi th) (hs:PO X (some sp) ts):PE X (.Subscript e (.Slice lo hi (some sp) p2) pos) (ZpB X.K te tl th ts):=by
  intro pins s σ H Q I h
  refine Subscript_ (thn (he pins s σ H _ I h) fun v s1 ⟨x,H1,I1,r1,q1⟩=>?_)
  refine wpAny_Slice (thn (hl pins s1 σ H1 _ I1 q1) fun vl s2 ⟨l,H2,I2,pl,q2⟩=>thn (hu pins s2 σ H2 _ I2 q2) fun vu s3 ⟨u,H3,I3,pu,q3⟩=>thn (hs pins s3 σ H3 _ I3 q3) fun vs s4 ⟨st,H4,I4,ps,q4⟩=>?_)
  obtain ⟨a,xs,rfl,hx,h0,hz',q⟩:=q4
  cases r1
  have I5:Inv X pins σ H4 { s4 with heap:=s4.heap.push { cls:=.type "slice",data:=.fields #[vl,vu,vs] } }:=I4.kept (t':=s4.toks) fun b ob q=>Heap.get?_push_of_some _ q
  obtain ⟨its,r,ht,hz⟩:=I5.list hx
  have hlen:=r.length
  show wpAny (model X.prog X.w) X.A (subscriptTail e (.Slice lo hi (some sp) p2) (.ref a) (.ref s4.heap.objs.size)) (EP X pins σ Q) X.xe { s4 with heap:=s4.heap.push { cls:=.type "slice",data:=.fields #[vl,vu,vs] } }
  refine tail_any (ops:=[.ref a,.ref s4.heap.objs.size]) ht.isList.typeIs slot_list_getitem.lookup (wpAny_getItem_list_slice ht.isList (Heap.IsSliceOf.new ..) pl pu ps h0 ?_ (by rw [List.size_toArray]<;>omega)) (by with_unfolding_all rfl)
  have ep:slicePick its.toArray l u st=((sliceRange (sliceBounds l u st xs.length).1 (sliceBounds l u st xs.length).2.1 (sliceBounds l u st xs.length).2.2).filterMap (its[·]?)).toArray:=by
    unfold slicePick
    rw [List.size_toArray,←hlen]
    simp
  rw [ep]
  refine ⟨.ref _,_,I5.laid (t':=s4.toks) (o:=.lst (ZbC xs l u st)) (fun b ob q=>Heap.get?_push_of_some _ q) (Nat.le_refl _) ?_,rfl,q _ (I5.hok.fresh (Nat.le_refl _))⟩
  exact ⟨hz',_,0,r.pick _,Heap.get?_push_size _ rfl⟩
theorem ZcU:fillsNumberSlot (.type "tuple") "mul"=pure false:=
  PySem.fillsNumberSlot_seq (id:="tuple.__mul__") (r:=some (.builtin "tuple.__rmul__")) F.slot_tuple_mul.lookup (by decide +kernel) F.slot_tuple_rmul.lookup (by decide +kernel)
theorem ZeL:seqRepeat? (.type "tuple")=pure (some (.builtin "tuple.__mul__")):=by
  unfold seqRepeat?
  rw [PySem.seqSlot_of (T:="tuple") (name:="__mul__") (id:="tuple.__mul__") F.slot_tuple_mul.lookup (by decide +kernel),PySem.seqSlot_of (T:="tuple") (name:="__rmul__") (id:="tuple.__rmul__") F.slot_tuple_rmul.lookup (by decide +kernel)]
  rfl
end
end L2
namespace L2
open PySem PySem.Spec PyProof.Rows Builtin
theorem ZdK (a:Int) (t:Tok) (l:Addr) (items:Array Value) (n:Nat) (dd:Option Addr) (sl:Array (Option Value)) :
    Meets (Builtin.«int.__rmul__» ⟨[.int a t,.ref l],[]⟩) (fun _ R s=>s.heap.get? l=some { cls:=.type "tuple",dict:=dd,data:=.seq items n,slots:=sl }∧R (.ok (.ret Value.notImplemented)) s):=
  .of_wp fun prog w A R s h=>by obtain ⟨hp,g,d,tk,os⟩:=s; obtain ⟨hl,h⟩:=h; wp_walk; exact ⟨_,rfl,h⟩
theorem Zd7 (l:Addr) (items:Array Value) (n:Nat) (dd:Option Addr) (sl:Array (Option Value)) (u:Tok) :
    Meets (Builtin.«tuple.__mul__» ⟨[.ref l,.int 1 u],[]⟩) (fun _ R s=>s.heap.get? l=some { cls:=.type "tuple",dict:=dd,data:=.seq items n,slots:=sl }∧R (.ok (.ret (Value.ref l))) s):=
  .of_wp fun prog w A R s h=>by
    obtain ⟨hp,g,d,tk,os⟩:=s; obtain ⟨hl,h⟩:=h
    wp_walk
    exact ⟨_,rfl,h⟩
theorem Zdr (l:Addr) (items:Array Value) (n:Nat) (dd:Option Addr) (sl:Array (Option Value)) (u:Tok) (h0:items.isEmpty=false) :
    Meets (Builtin.«tuple.__mul__» ⟨[.ref l,.int 0 u],[]⟩) (fun _ R s=>s.heap.get? l=some { cls:=.type "tuple",dict:=dd,data:=.seq items n,slots:=sl }∧R (.ok (.ret (Value.ref s.heap.objs.size))) { s with heap:=s.heap.push { cls:=.type "tuple",data:=.seq #[] } }):=
  .of_wp fun prog w A R s h=>by
    obtain ⟨hp,g,d,tk,os⟩:=s; obtain ⟨hl,h⟩:=h
    wp_walk
    exact ⟨_,rfl,h⟩
theorem Zds (l:Addr) (items:Array Value) (n:Nat) (dd:Option Addr) (sl:Array (Option Value)) (x:Int) (u:Tok) (h0:items.isEmpty=false) (h1:2≤x) (h2:x<1000) (h3:items.size*x≤1000) :
    Meets (Builtin.«tuple.__mul__» ⟨[.ref l,.int x u],[]⟩) (fun _ R s=>s.heap.get? l=some { cls:=.type "tuple",dict:=dd,data:=.seq items n,slots:=sl }∧R (.ok (.ret (Value.ref s.heap.objs.size))) { s with heap:=s.heap.push { cls:=.type "tuple",data:=.seq (List.foldl (fun x1 x2=>x1++x2) #[] (List.replicate x.toNat items)) } }):=
  .of_wp fun prog w A R s h=>by
    obtain ⟨hp,g,d,tk,os⟩:=s; obtain ⟨hl,h⟩:=h
    have c1:¬(decide (x < -(2 ^ 63)) || decide (x≥2 ^ 63))=true:=by rw [decide_eq_false (by omega),decide_eq_false (by omega)]; decide
    have c2:¬(items.isEmpty || x == 1)=true:=by
      have:(x == 1)=false:=by simp; omega
      rw [h0,this]; decide
    have c3:¬(decide (x≤0) || items.isEmpty)=true:=by rw [h0,decide_eq_false (by omega)]; decide
    have c4:¬((items.size:Int)*x > (2 ^ 63-1)/8):=by omega
    have c5:¬Tuple.tupleTooMany ((items.size:Int)*x)=true:=by
      unfold Tuple.tupleTooMany
      rw [decide_eq_false (by rw [sizeLine_eq]; omega)]
      decide
    wp_walk
    rw [if_neg c1]
    wp_walk
    rw [if_neg c2]
    show wpAny (model prog w) A.in1 (if (decide (x≤0) || items.isEmpty)=true then _ else if (items.size:Int)*x > (2 ^ 63-1)/8 then _ else if Tuple.tupleTooMany ((items.size:Int)*x)=true then _ else _) _ _ _
    rw [if_neg c3,if_neg c4,if_neg c5]
    have hz:(List.foldl (fun x1 x2=>x1++x2) #[] (List.replicate x.toNat items)).size≤sizeLine:=by
      have:(List.replicate x.toNat items).foldl (fun x1 x2=>x1++x2) #[]=(List.replicate x.toNat items.toList).flatten.toArray:=by
        have:=Zb3 items.toList x.toNat []
        simpa using this
      rw [this,List.size_toArray,ZeT,sizeLine_eq]
      have e:items.toList.length=items.size:=by simp
      rw [e]
      have e2:((x.toNat*items.size:Nat):Int)=(items.size:Int)*x:=by
        rw [Int.natCast_mul,Int.mul_comm]
        congr 1
        omega
      omega
    wp_walk
    exact ⟨_,rfl,h⟩
section
variable {X:Cx}
def ZnA (K:PySem.W.Frag):R2:=fun x y H Q=>∃(a:Addr) (k:Int) (xs:List V),x=.ref a∧y=.int k∧SqT K H a xs∧xs≠[]∧0≤k∧k<1000∧(xs.length:Int)*k≤1000∧
  (k=1→Q (.ref a) H)∧(k≠1→∀p,H p=none→Q (.ref p) (upd H p (.tup (List.replicate k.toNat xs).flatten)))
theorem op_repT:OpR X (binaryOp .Mult) (ZnA X.K):=by
  intro pins s σ H x y v u Q I rx ry h
  obtain ⟨a,k,xs,rfl,rfl,hH,hne,h0,h1,h2,q1,q2⟩:=h
  cases rx
  obtain ⟨t,rfl⟩:=ry
  obtain ⟨its,r,pl,hz⟩:=I.tuple hH
  obtain ⟨⟨oc,dd,data,sl⟩,e,hc,n,hd⟩:=pl
  simp only at hc hd
  subst hc hd
  have hl:=r.length
  have he:its.toArray.isEmpty=false:=by
    cases r with
    | nil=>exact absurd rfl hne
    | cons _ _=>rfl
  refine wpAny_binaryOp_repeat_ref (T:="tuple") (U:="int") (by decide) ⟨_,e,rfl⟩ (fun s'=>typeIs_int s' k t) ZcU F.fills_int_mul F.slot_int_rmul ZeL F.slot_int_index.lookup
    (call_meets F.slot_int_rmul (typeIs_int s k t) F.entry_int_rmul (F.args_int_rmul_2 _ _) (ZdK k t a its.toArray n dd sl) ⟨e,rfl,⟨_,e,rfl⟩,?_⟩)
  by_cases k1:k=1
  · subst k1
    exact call_meets F.slot_tuple_mul ⟨_,e,rfl⟩ F.entry_tuple_mul (F.args_tuple_mul_2 _ _) (Zd7 a its.toArray n dd sl t) ⟨e,.ref a,H,I,rfl,q1 rfl⟩
  · by_cases k0:k=0
    · subst k0
      refine call_meets F.slot_tuple_mul ⟨_,e,rfl⟩ F.entry_tuple_mul (F.args_tuple_mul_2 _ _) (Zdr a its.toArray n dd sl t he) ⟨e,.ref s.heap.objs.size,_,I.laid (t':=s.toks) (o:=.tup []) (fun b ob q=>Heap.get?_push_of_some _ q) (Nat.le_refl _) ?_,rfl,?_⟩
      · exact ⟨Nat.zero_le _,[],.nil,IsTup.new _ _⟩
      · exact q2 k1 _ (I.hok.fresh (Nat.le_refl _))
    · refine call_meets F.slot_tuple_mul ⟨_,e,rfl⟩ F.entry_tuple_mul (F.args_tuple_mul_2 _ _) (Zds a its.toArray n dd sl k t he (by omega) h1 (by rw [List.size_toArray,←hl]; exact h2)) ⟨e,?_⟩
      have hnew:List.foldl (fun x1 x2=>x1++x2) #[] (List.replicate k.toNat its.toArray)=(List.replicate k.toNat its).flatten.toArray:=by
        have:=Zb3 its k.toNat []
        rw [List.nil_append] at this
        exact this
      rw [hnew]
      refine ⟨.ref s.heap.objs.size,_,I.laid (t':=s.toks) (o:=.tup (List.replicate k.toNat xs).flatten) (fun b ob q=>Heap.get?_push_of_some _ q) (Nat.le_refl _) ?_,rfl,q2 k1 _ (I.hok.fresh (Nat.le_refl _))⟩
      refine ⟨?_,_,r.rep k.toNat,IsTup.new _ _⟩
      rw [ZeT,sizeLine_eq]
      have e2:((k.toNat*xs.length:Nat):Int)=(xs.length:Int)*k:=by
        rw [Int.natCast_mul,Int.mul_comm]
        congr 1
        omega
      omega
end
end L2
namespace My
open PySem L2
def ZaF (t:Int):Int:=if t=0 then 0 else (t-1) % 65535+1
theorem ZkX {t:Int} (h:0≤t):0≤ZaF t∧ZaF t≤65535∧(ZaF t-t) % 65535=0∧(ZaF t=0↔t=0):=by
  unfold ZaF; split<;>omega
theorem Zco {t:Int} (h:0≤t) (h1:t≤65535):ZaF t=t:=by
  unfold ZaF; split<;>omega
theorem Zes {t:Int} (h:65535<t):ZaF (t % 65536+t/65536)=ZaF t∧0≤t % 65536+t/65536∧t % 65536+t/65536<t:=by
  unfold ZaF
  rw [if_neg (by omega),if_neg (by omega)]
  omega
def Zac:List Int→Int
  | []=>0
  | [a]=>256*a
  | a::b::r=>256*a+b+Zac r
def Zby:List Int→List Int
  | []=>[]
  | [a]=>[a]
  | a::_::r=>a::Zby r
def Zdy:List Int→List Int
  | []=>[]
  | [_]=>[]
  | _::b::r=>b::Zdy r
theorem ZgJ:∀ns:List Int,256*(Zby ns).sum+(Zdy ns).sum=Zac ns
  | []=>rfl
  | [a]=>by simp [Zby,Zdy,Zac]
  | a::b::r=>by
    have:=ZgJ r
    simp only [Zby,Zdy,Zac,List.sum_cons]
    omega
theorem ZgH:∀{ns:List Int},(∀z∈ns,0≤z)→0≤Zac ns
  | [],_=>by simp [Zac]
  | [a],h=>by have:=h a (by simp); simp only [Zac]; omega
  | a::b::r,h=>by
    have h1:=h a (by simp)
    have h2:=h b (by simp)
    have h3:=ZgH (ns:=r) fun z hz=>h z (by simp [hz])
    simp only [Zac]; omega
theorem ZaB:∀(m:Nat) (ns:List Int),ns.length≤2*m→((List.range m).map fun k=>2*k).filterMap (fun i=>(ns.map V.int)[i]?)=(Zby ns).map V.int
  | 0,ns,h=>by
    have:ns=[]:=List.length_eq_zero_iff.mp (by omega)
    subst this; rfl
  | m+1,ns,h=>by
    rw [List.range_succ_eq_map,List.map_cons,List.map_map]
    have shift:∀(xs:List Int),(List.map ((fun k=>2*k)∘Nat.succ) (List.range m)).filterMap (fun i=>(xs.map V.int)[i]?)=((List.range m).map fun k=>2*k).filterMap (fun i=>((xs.drop 2).map V.int)[i]?):=fun xs=>by
      rw [List.filterMap_map,List.filterMap_map]
      congr 1
      funext k
      show (xs.map V.int)[2*(k+1)]?=((xs.drop 2).map V.int)[2*k]?
      rw [List.getElem?_map,List.getElem?_map,List.getElem?_drop]
      congr 2
      omega
    match ns,h with
    | [],_=>
      have:=shift []
      rw [List.filterMap_cons_none (by rfl),this,ZaB m _ (by simp)]
      rfl
    | [a],_=>
      have:=shift [a]
      rw [List.filterMap_cons_some (b:=V.int a) (by rfl),this,ZaB m _ (by simp)]
      rfl
    | a::b::r,h=>
      have:=shift (a::b::r)
      rw [List.filterMap_cons_some (b:=V.int a) (by rfl),this,ZaB m _ (by simp only [List.length_cons] at h; simp; omega)]
      rfl
theorem ZgW:∀ns:List Int,Zdy ns=Zby (ns.drop 1)
  | []=>rfl
  | [_]=>rfl
  | [_,_]=>rfl
  | _::b::c::r=>by
    have:=ZgW (c::r)
    simp only [Zdy,List.drop,Zby] at *
    rw [this]
theorem ZhO (ns:List Int):ZbC (ns.map V.int) none none (some 2)=(Zby ns).map V.int:=by
  unfold ZbC sliceBounds sliceRange
  simp only [Option.getD_some,List.length_map,show ((2:Int) > 0)=True from eq_true (by decide),if_true]
  have e:(if (0:Int)<(ns.length:Int) then ((ns.length:Int)-0+2-1)/2 else 0).toNat=(ns.length+1)/2:=by split<;>omega
  rw [e]
  have e2:(fun k:Nat=>((0:Int)+2*(k:Int)).toNat)=fun k=>2*k:=by funext k; omega
  rw [e2]
  exact ZaB _ ns (by omega)
theorem ZjQ (ns:List Int):ZbC (ns.map V.int) (some 1) none (some 2)=(Zdy ns).map V.int:=by
  unfold ZbC sliceBounds sliceRange
  simp only [Option.getD_some,List.length_map,show ((2:Int) > 0)=True from eq_true (by decide),show ((1:Int)<0)=False from eq_false (by decide),if_true,if_false]
  rw [ZgW]
  by_cases h:ns.length=0
  · have:ns=[]:=List.length_eq_zero_iff.mp h
    subst this; rfl
  · have e0:max (0:Int) (min 1 (ns.length:Int))=1:=by omega
    rw [e0]
    have e:(if (1:Int)<(ns.length:Int) then ((ns.length:Int)-1+2-1)/2 else 0).toNat=ns.length/2:=by split<;>omega
    rw [e,←ZaB (ns.length/2) (ns.drop 1) (by rw [List.length_drop]; omega),List.filterMap_map,List.filterMap_map]
    congr 1
    funext k
    show (ns.map V.int)[((1:Int)+2*(k:Int)).toNat]?=((ns.drop 1).map V.int)[2*k]?
    rw [List.getElem?_map,List.getElem?_map,List.getElem?_drop]
    congr 2
theorem Zet:∀ns:List Int,(Zby ns).length≤ns.length
  | []=>Nat.le_refl _
  | [_]=>Nat.le_refl _
  | _::_::r=>by have:=Zet r; simp only [Zby,List.length_cons]; omega
theorem ZfT:∀ns:List Int,(Zdy ns).length≤ns.length
  | []=>Nat.le_refl _
  | [_]=>Nat.zero_le _
  | _::_::r=>by have:=ZfT r; simp only [Zdy,List.length_cons]; omega
def wpre (ns:List Int):Nat→Int
  | 0=>0
  | i+1=>wpre ns i+ns.getD i 0*(if i % 2=0 then 256 else 1)
theorem ZfK (a b:Int) (r:List Int):∀i,wpre (a::b::r) (i+2)=256*a+b+wpre r i
  | 0=>by simp [wpre]; omega
  | i+1=>by
    have e:(i+2) % 2=i % 2:=by omega
    rw [wpre,ZfK a b r i]
    show _+r.getD i 0*(if (i+2) % 2=0 then 256 else 1)=256*a+b+(wpre r i+r.getD i 0*(if i % 2=0 then 256 else 1))
    rw [e]
    omega
theorem ZfL:∀ns:List Int,wpre ns ns.length=Zac ns
  | []=>rfl
  | [a]=>by simp [wpre,Zac]; omega
  | a::b::r=>by
    show wpre (a::b::r) (r.length+2)=_
    rw [ZfK,ZfL r]
    rfl
end My
namespace L2
open PySem PySem.Spec PyProof.Rows
section
variable {κ:Type} [DecidableEq κ]
def Zch (kvs:List (κ×V)) (k:κ):Option V:=(kvs.find? fun kv=>decide (kv.1=k)).map (·.2)
def Zcb (kvs:List (κ×V)) (k:κ) (v:V):List (κ×V):=
  if (kvs.any fun kv=>decide (kv.1=k))=true then kvs.map (fun kv=>if kv.1=k then (kv.1,v) else kv) else kvs++[(k,v)]
theorem Zdp {p:κ×V} {r:List (κ×V)} {k:κ} (e:p.1=k):Zch (p::r) k=some p.2:=by simp [Zch,List.find?_cons,e]
theorem Zdq {p:κ×V} {r:List (κ×V)} {k:κ} (e:¬p.1=k):Zch (p::r) k=Zch r k:=by simp [Zch,List.find?_cons,e]
theorem ZfM (k:κ):∀kvs:List (κ×V),(kvs.any fun kv=>decide (kv.1=k))=(Zch kvs k).isSome
  | []=>rfl
  | p::r=>by
    rw [List.any_cons]
    by_cases e:p.1=k
    · simp only [Zdp e,decide_eq_true e,Bool.true_or,Option.isSome_some]
    · rw [Zdq e,decide_eq_false e,Bool.false_or]; exact ZfM k r
theorem Zda (kvs:List (κ×V)) (k:κ) (v:V):(Zcb kvs k v).length≤kvs.length+1:=by
  unfold Zcb
  split
  · rw [List.length_map]; omega
  · rw [List.length_append,List.length_cons,List.length_nil]; omega
theorem RelO.isSome_eq {o:Option V} {u:Option Value} (r:RelO o u):o.isSome=u.isSome:=by
  cases o with
  | none=>cases u with
    | none=>rfl
    | some _=>exact (show False from r).elim
  | some _=>cases u with
    | none=>exact (show False from r).elim
    | some _=>rfl
theorem RelO.getD {o:Option V} {u:Option Value} {d:V} {d':Value} (r:RelO o u) (rd:RelV d d'):RelV (o.getD d) (u.getD d'):=by
  cases o with
  | none=>cases u with
    | none=>exact rd
    | some _=>exact (show False from r).elim
  | some _=>cases u with
    | none=>exact (show False from r).elim
    | some _=>exact r
theorem KV.val {kvs:List (κ×V)} {vs:List (κ×Value)} (r:KV kvs vs) (k:κ):RelO (Zch kvs k) (valueAt vs k):=by
  unfold KV at r
  induction r with
  | nil=>exact True.intro
  | @cons p q ps qs h t ih=>
    obtain ⟨h1,h2⟩:=h
    by_cases e:p.1=k
    · have e':q.1=k:=h1.symm.trans e
      have b:valueAt (q::qs) k=some q.2:=by simp [valueAt,List.find?_cons,e']
      rw [Zdp e,b]; exact h2
    · have e':¬q.1=k:=fun z=>e (h1.trans z)
      have b:valueAt (q::qs) k=valueAt qs k:=by simp [valueAt,List.find?_cons,e']
      rw [Zdq e,b]; exact ih
theorem KV.any {kvs:List (κ×V)} {vs:List (κ×Value)} (r:KV kvs vs) (k:κ):(kvs.any fun kv=>decide (kv.1=k))=vs.any fun kv=>decide (kv.1=k):=by
  unfold KV at r
  induction r with
  | nil=>rfl
  | cons h t ih=>rw [List.any_cons,List.any_cons,ih,h.1]
theorem KV.repl {kvs:List (κ×V)} {vs:List (κ×Value)} (r:KV kvs vs) (k:κ) {y:V} {u:Value} (ry:RelV y u) :
    KV (kvs.map fun kv=>if kv.1=k then (kv.1,y) else kv) (vs.map fun kv=>if kv.1=k then (kv.1,u) else kv):=by
  unfold KV at r ⊢
  induction r with
  | nil=>exact .nil
  | @cons p q ps qs h t ih=>
    rw [List.map_cons,List.map_cons]
    refine .cons ?_ ih
    obtain ⟨h1,h2⟩:=h
    by_cases e:p.1=k
    · rw [if_pos e,if_pos (h1.symm.trans e)]; exact ⟨h1,ry⟩
    · rw [if_neg e,if_neg (fun z=>e (h1.trans z))]; exact ⟨h1,h2⟩
theorem KV.put {kvs:List (κ×V)} {vs:List (κ×Value)} (r:KV kvs vs) (k:κ) {y:V} {u:Value} (ry:RelV y u):KV (Zcb kvs k y) (stored vs k u):=by
  unfold Zcb stored
  rw [r.any k]
  by_cases e:(vs.any fun kv=>decide (kv.1=k))=true
  · rw [if_pos e,if_pos e]; exact r.repl k ry
  · rw [if_neg e,if_neg e]; exact Paired.snoc r ⟨rfl,ry⟩
theorem KV.length {kvs:List (κ×V)} {vs:List (κ×Value)} (r:KV kvs vs):kvs.length=vs.length:=Paired.length r
end
theorem Zju {P:Program} {w:World} {k:Key} {u:Value} (r:RelV (kV k) u):(zn P w).is k u=true:=by
  cases k with
  | inl i=>obtain ⟨t,e⟩:=(show ∃t,u=Value.int i t from r); subst e; exact Zf2 P w i t
  | inr x=>obtain ⟨t,e⟩:=(show ∃t,u=Value.str x t from r); subst e; exact Zf1 P w x t
theorem Zer {P:Program} {w:World}:∀{ks:List Key} {us:List Value},Vals (ks.map kV) us→ItemsAre (zn P w) ks us
  | [],_,r=>by rw [List.map_nil] at r; cases r; exact .nil
  | k::ks,_,r=>by
    rw [List.map_cons] at r
    cases r with
    | cons h t=>exact .cons (Zju h) (Zer t)
abbrev KT (H:Hp):List (List Key×V)→List (List Key×Addr×Value)→Prop:=Paired fun p q=>p.1=q.1∧H q.2.1=some (.tup (p.1.map kV))∧RelV p.2 q.2.2
theorem KT.val {H:Hp} {kvs:List (List Key×V)} {xs:List (List Key×Addr×Value)} (r:KT H kvs xs) (k:List Key):RelO (Zch kvs k) ((atKey xs k).map (·.2)):=by
  induction r with
  | nil=>exact True.intro
  | @cons p q ps qs h t ih=>
    obtain ⟨h1,_,h2⟩:=h
    by_cases e:p.1=k
    · have e':q.1=k:=h1.symm.trans e
      have b:atKey (q::qs) k=some q.2:=by simp [atKey,List.find?_cons,e']
      rw [Zdp e,b]; exact h2
    · have e':¬q.1=k:=fun z=>e (h1.trans z)
      have b:atKey (q::qs) k=atKey qs k:=by simp [atKey,List.find?_cons,e']
      rw [Zdq e,b]; exact ih
theorem KT.repl {H:Hp} {kvs:List (List Key×V)} {xs:List (List Key×Addr×Value)} (r:KT H kvs xs) (k:List Key) {y:V} {u:Value} (ry:RelV y u) :
    KT H (kvs.map fun kv=>if kv.1=k then (kv.1,y) else kv) (xs.map (putAt k u)):=by
  induction r with
  | nil=>exact .nil
  | @cons p q ps qs h t ih=>
    rw [List.map_cons,List.map_cons]
    refine .cons ?_ ih
    obtain ⟨h1,h2,h3⟩:=h
    unfold putAt
    by_cases e:p.1=k
    · rw [if_pos e,if_pos (h1.symm.trans e)]; exact ⟨h1,h2,ry⟩
    · rw [if_neg e,if_neg (fun z=>e (h1.trans z))]; exact ⟨h1,h2,h3⟩
theorem KT.put {H:Hp} {kvs:List (List Key×V)} {xs:List (List Key×Addr×Value)} (r:KT H kvs xs) (k:List Key) {b:Addr} {y:V} {u:Value} (hb:H b=some (.tup (k.map kV))) (ry:RelV y u) :
    KT H (Zcb kvs k y) (storedH xs k b u):=by
  have e:(kvs.any fun kv=>decide (kv.1=k))=(atKey xs k).isSome:=by
    rw [ZfM,(r.val k).isSome_eq,Option.isSome_map]
  unfold Zcb storedH
  rw [e]
  by_cases q:(atKey xs k).isSome=true
  · rw [if_pos q,if_pos q]; exact r.repl k ry
  · rw [if_neg q,if_neg q]; exact Paired.snoc r ⟨rfl,hb,ry⟩
theorem KT.keeps {H H':Hp} {kvs:List (List Key×V)} {xs:List (List Key×Addr×Value)} (r:KT H kvs xs) (ht:∀b ys,H b=some (.tup ys)→H' b=some (.tup ys)):KT H' kvs xs:=
  Paired.mapP r fun _ _ z=>⟨z.1,ht _ _ z.2.1,z.2.2⟩
section
variable {P:Program} {w:World} {H:Hp} {h:Heap} {a:Addr}
theorem Zlh {u:HO} (ok:HOk P w H h) (e:Rd H a u):ObjOk P w H h a u:=e.ok ok
theorem ZjO {kvs:List (Key×V)} (ok:HOk P w H h) (e:Rd H a (.dK kvs)):kvs.length≤sizeLine∧(a == sysModules)=false∧∃vs,KV kvs vs∧h.DictOf (zn P w) a vs:=
  show ObjOk P w H h a (.dK kvs) from Zlh ok e
theorem Zoh {kvs:List (Key×V)} (ok:HOk P w H h) (e:H a=some (.dK kvs)):kvs.length≤sizeLine∧(a == sysModules)=false∧∃vs,KV kvs vs∧h.DictOf (zn P w) a vs:=ZjO ok (.inl e)
theorem Zgz {ks:List Key} (ok:HOk P w H h) (e:H a=some (.tup (ks.map kV))):(tupleKind (zn P w)).is h ks a:=by
  obtain ⟨_,its,r,o,h1,h2,n,h3⟩:=(show ObjOk P w H h a (.tup (ks.map kV)) from ok a _ e)
  exact ⟨o,its.toArray,n,h1,h2,h3,by simpa using Zer r⟩
theorem ZjM {kvs:List (List Key×V)} (ok:HOk P w H h) (e:Rd H a (.dT kvs)):kvs.length≤sizeLine∧(a == sysModules)=false∧
    ∃xs,KT H kvs xs∧h.DictOfH (tupleKind (zn P w)) a xs:=by
  obtain ⟨z,y,xs,r,o,es,ep,h1,h2,h3,h4,h5⟩:=(show ObjOk P w H h a (.dT kvs) from Zlh ok e)
  refine ⟨z,y,xs,r,o,es,ep,h1,h2,h3,h4,fun x hx=>?_,h5⟩
  have all:∀{l:List (List Key×V)} {m:List (List Key×Addr×Value)},KT H l m→∀x∈m,(tupleKind (zn P w)).is h x.1 x.2.1:=by
    intro l m q
    induction q with
    | nil=>intro x hx; exact nomatch hx
    | @cons p q ps qs hq t ih=>
      intro x hx
      rcases List.mem_cons.mp hx with e | hx
      · subst e
        exact Zgz ok (by rw [←hq.1]; exact hq.2.1)
      · exact ih x hx
  exact all r x hx
theorem Zog {kvs:List (List Key×V)} (ok:HOk P w H h) (e:H a=some (.dT kvs)):kvs.length≤sizeLine∧(a == sysModules)=false∧
    ∃xs,KT H kvs xs∧h.DictOfH (tupleKind (zn P w)) a xs:=ZjM ok (.inl e)
end
def DGet (H:Hp) (a:Addr) (y:V) (r:Option V):Prop:=
  (∃kvs k,Rd H a (.dK kvs)∧y=kV k∧r=Zch kvs k)∨∃kvs k b,Rd H a (.dT kvs)∧y=.ref b∧H b=some (.tup (k.map kV))∧r=Zch kvs k
def DPut (H:Hp) (a:Addr) (y v:V) (H':Hp):Prop:=
  (∃kvs k,H a=some (.dK kvs)∧y=kV k∧kvs.length<sizeLine∧H'=upd H a (.dK (Zcb kvs k v)))∨
  ∃kvs k b,H a=some (.dT kvs)∧y=.ref b∧H b=some (.tup (k.map kV))∧kvs.length<sizeLine∧H'=upd H a (.dT (Zcb kvs k v))
theorem DGet.t {H:Hp} {a b:Addr} {kvs:List (List Key×V)} {k:List Key} (e:H a=some (.dT kvs)) (eb:H b=some (.tup (k.map kV))):DGet H a (.ref b) (Zch kvs k):=.inr ⟨kvs,k,b,.inl e,rfl,eb,rfl⟩
theorem DPut.t {H:Hp} {a b:Addr} {kvs:List (List Key×V)} {k:List Key} {v:V} (e:H a=some (.dT kvs)) (eb:H b=some (.tup (k.map kV))) (hl:kvs.length<sizeLine) :
    DPut H a (.ref b) v (upd H a (.dT (Zcb kvs k v))):=.inr ⟨kvs,k,b,e,rfl,eb,hl,rfl⟩
section
variable {X:Cx} {pins:List (Addr×Obj)} {σ:St} {H:Hp} {s:Shared} {a:Addr} {y v:V} {u r:Value} {o:Option V} {A:Around} {E:Value→Shared→Prop}
theorem Inv.big (I:Inv X pins σ H s):sysModules<s.heap.objs.size:=by
  have h:mainGlobals<s.heap.objs.size:=(I.mod.glob.keeps I.bk).lt
  exact Nat.lt_trans (by decide) h
theorem Zhg {h':Heap} {t':Nat} {ob:HO} (I:Inv X pins σ H s) (mu:Mut (H a)) (hs:Heap.SameBut a s.heap h') (he:∃q,h'.get? a=some q) (new:ObjOk X.prog X.w (upd H a ob) h' a ob) :
    Inv X pins σ (upd H a ob) { s with heap:=h',toks:=t' }:=
  I.write (x:=a) (e:=a) mu (.inl rfl) (fun b q hb z=>(hs.2 b hb).trans z) he new
theorem ZmI {P:Program} {w:World} {H':Hp} {h':Heap} {kvs:List (Key×V)} {vs:List (Key×Value)} (z:kvs.length≤sizeLine) (hd:(a == sysModules)=false) (rel:KV kvs vs) (dd:h'.DictOf (zn P w) a vs) :
    ObjOk P w H' h' a (.dK kvs):=⟨z,hd,vs,rel,dd⟩
theorem ZhN {H':Hp} {Q:Unit→Shared→Prop} (hu:A.units+1<cLine) (I:Inv X pins σ H s) (g:DPut H a y v H') (ry:RelV y u) (rv:RelV v r) (h:∀s',Inv X pins σ H' s'→Q () s') :
    wpAny (model X.prog X.w) A (setItem (.ref a) u r) Q E s:=by
  rcases g with ⟨kvs,k,e,ey,l,eH⟩ | ⟨kvs,k,b,e,ey,eb,l,eH⟩
  · subst ey eH
    obtain ⟨z,hd,vs,rel,dd⟩:=Zoh I.hok e
    have hz:vs.length≤sizeLine:=by rw [←rel.length]; exact z
    have hl:(Zcb kvs k v).length≤sizeLine:=by have:=Zda kvs k v; omega
    refine wpAny_setItem_pairs (hsz:=hz) (Zju ry) dd fun h' dd' hs=>h _ ?_
    have he:∃q,h'.get? a=some q:=let ⟨q,_,_,hq,_⟩:=dd'; ⟨q,hq⟩
    exact Zhg I (by rw [e]; exact True.intro) hs he (ZmI hl hd (rel.put k rv) dd')
  · subst ey eH
    cases (show u=Value.ref b from ry)
    obtain ⟨z,hd,xs,rel,dd⟩:=Zog I.hok e
    have hz:xs.length≤sizeLine:=by rw [←Paired.length rel]; exact z
    have hl:(Zcb kvs k v).length≤sizeLine:=by have:=Zda kvs k v; omega
    refine wpAny_setItem_heap (hsz:=hz) (tupleKind_room_in1 hu) (Zgz I.hok eb) dd fun h' dd' hs=>h _ ?_
    obtain ⟨q,es,ep,hq,h2,h3,h4,_,h5⟩:=dd'
    refine Zhg I (by rw [e]; exact True.intro) hs ⟨q,hq⟩ ⟨hl,hd,_,(rel.put k eb rv).keeps fun c ys ec=>?_,q,es,ep,hq,h2,h3,h4,h5⟩
    rw [ZT (ZnU ec e (fun z=>nomatch z))]
    exact ec
end
section
variable {X:Cx} {pins:List (Addr×Obj)} {σ:St} {H:Hp} {s:Shared} {a:Addr} {kvs:List (Key×V)} {k:Key} {u:Value} {A:Around} {E:Value→Shared→Prop}
end
def Zny (td ty tv:TE):TS:=fun D σ H=>tv σ H fun v H1=>td σ H1 fun x H2=>ty σ H2 fun y H3=>∃a H4,x=.ref a∧DPut H3 a y v H4∧D.nx σ H4
section
variable {X:Cx} {o i e value:Expr} {pos pos' tpos:Pos} {td ty tv:TE}
theorem Zkt (hu:X.A.units+1<cLine) (ho:PE X o td) (hi:PE X i ty) (hv:PE X value tv) (hs:swapsWith value (some (.Subscript o i pos')) pos.line X.env=pure false) :
    PS X (.Assign [.Subscript o i pos'] value pos) (Zny td ty tv):=by
  intro pins s σ H D I h
  refine wpAny_Assign_Subscript (thn (hv pins s σ H _ I h) fun r s1 ⟨v,H1,I1,rv,q1⟩=>thn (ho pins s1 σ H1 _ I1 q1) fun u s2 ⟨x,H2,I2,rx,q2⟩=>thn (hi pins s2 σ H2 _ I2 q2) fun iv s3 ⟨y,H3,I3,ry,a,H4,ex,g,q3⟩=>?_) hs
  subst ex
  obtain rfl:u=Value.ref a:=rx
  exact ZhN hu I3 g ry rv fun s4 I4=>⟨σ,H4,I4,q3⟩
end
theorem ZjP {P:Program} {w:World} {H:Hp} (h:Heap) (hb:sysModules<h.objs.size):ObjOk P w H (h.push { cls:=.type "dict",data:=.dict #[] }) h.objs.size (.dK []):=
  ⟨Nat.zero_le _,beq_eq_false_iff_ne.mpr (Ne.symm (Nat.ne_of_lt hb)),[],.nil,Heap.DictOf.new h⟩
theorem ZjN {P:Program} {w:World} {H:Hp} (h:Heap) (hb:sysModules<h.objs.size):ObjOk P w H (h.push { cls:=.type "dict",data:=.dict #[] }) h.objs.size (.dT []):=
  ⟨Nat.zero_le _,beq_eq_false_iff_ne.mpr (Ne.symm (Nat.ne_of_lt hb)),[],.nil,_,#[],0,Heap.get?_push_size _ rfl,⟨rfl,rfl,rfl⟩,rfl,rfl,List.nodup_nil⟩
def ZlS:TE:=fun _ H Q=>∀p,H p=none→Q (.ref p) (upd H p (.dK []))
def ZlR:TE:=fun _ H Q=>∀p,H p=none→Q (.ref p) (upd H p (.dT []))
section
variable {X:Cx} {pos:Pos}
theorem Zi3:PE X (.Dict [] [] pos) ZlS:=fun pins s σ H Q I h=>
  wpAny_Dict_empty ⟨.ref s.heap.objs.size,_,I.laid (a:=s.heap.objs.size) (o:=.dK []) (t':=s.toks) (fun _ _ q=>Heap.get?_push_of_some _ q) (Nat.le_refl _) (ZjP s.heap I.big),rfl,h _ (I.hok.fresh (Nat.le_refl _))⟩
theorem Zi2:PE X (.Dict [] [] pos) ZlR:=fun pins s σ H Q I h=>
  wpAny_Dict_empty ⟨.ref s.heap.objs.size,_,I.laid (a:=s.heap.objs.size) (o:=.dT []) (t':=s.toks) (fun _ _ q=>Heap.get?_push_of_some _ q) (Nat.le_refl _) (ZjN s.heap I.big),rfl,h _ (I.hok.fresh (Nat.le_refl _))⟩
end
def ZiJ:List (TE×TE)→St→Hp→(List (V×V)→Hp→Prop)→Prop
  | [],_,H,Q=>Q [] H
  | (tk,tv)::r,σ,H,Q=>tk σ H fun x H1=>tv σ H1 fun y H2=>ZiJ r σ H2 fun ps H3=>Q ((x,y)::ps) H3
abbrev VV:List (V×V)→List (Value×Value)→Prop:=Paired fun p q=>RelV p.1 q.1∧RelV p.2 q.2
def PPs (X:Cx) (pos:Pos) (keys:List (Option Expr)) (values:List Expr) (trs:List (TE×TE)):Prop:=
  ∀(pins:List (Addr×Obj)) (s:Shared) (σ:St) (H:Hp) (Q:List (V×V)→Hp→Prop),Inv X pins σ H s→ZiJ trs σ H Q→
    wpAny (model X.prog X.w) X.A (evalPairs (pairTrees keys values X.env pos)) (fun vs s'=>∃ps H',Inv X pins σ H' s'∧VV ps vs∧Q ps H') X.xe s
def Zmv (kvs more:List (Key×V)):List (Key×V):=more.foldl (fun acc kv=>Zcb acc kv.1 kv.2) kvs
structure M1 (X:Cx) (o:Expr) (m:Str) (apos:Pos) (e:Expr) (cpos:Pos):Prop where
  base:attributeBase o m X.env (eval o X.env)=eval o X.env
  few:((backTo cpos (starEach [e] X.env)).all (fun x=>!x.1) && (backToKw cpos (keywordEach [] X.env)).all (fun x=>x.1.isSome)
    && decide (([e]:List Expr).length+([]:List Keyword).length+(if ([]:List Keyword).isEmpty then 0 else 1)<30))=true
  line:(apos.endLine == cpos.line)=true
  trees:backTo cpos (starEach [e] X.env)=[(false,eval e X.env)]
structure M2 (X:Cx) (o:Expr) (m:Str) (apos:Pos) (e f:Expr) (cpos:Pos):Prop where
  base:attributeBase o m X.env (eval o X.env)=eval o X.env
  few:((backTo cpos (starEach [e,f] X.env)).all (fun x=>!x.1) && (backToKw cpos (keywordEach [] X.env)).all (fun x=>x.1.isSome)
    && decide (([e,f]:List Expr).length+([]:List Keyword).length+(if ([]:List Keyword).isEmpty then 0 else 1)<30))=true
  line:(apos.endLine == cpos.line)=true
  trees:backTo cpos (starEach [e,f] X.env)=[(false,eval e X.env),(false,eval f X.env)]
def IsD (H:Hp) (a:Addr):Prop:=(∃kvs,Rd H a (.dK kvs))∨∃kvs,Rd H a (.dT kvs)
theorem ZmD {X:Cx} {pins:List (Addr×Obj)} {σ:St} {H:Hp} {s:Shared} {a:Addr} (I:Inv X pins σ H s) (d:IsD H a) :
    s.TypeIs (.ref a) "dict"∧(∀b,Value.ref a=.ref b→∃ob,s.heap.get? b=some ob∧ob.dict=none)∧(a == sysModules)=false:=by
  rcases d with ⟨kvs,e⟩ | ⟨kvs,e⟩
  · obtain ⟨_,hd,vs,_,dd⟩:=ZjO I.hok e
    refine ⟨dd.typeIs,fun b q=>?_,hd⟩
    cases q
    obtain ⟨ob,_,_,h1,h2,_⟩:=dd
    exact ⟨ob,h1,h2.2.1⟩
  · obtain ⟨_,hd,xs,_,dd⟩:=ZjM I.hok e
    refine ⟨dd.typeIs,fun b q=>?_,hd⟩
    cases q
    obtain ⟨ob,_,_,h1,h2,_⟩:=dd
    exact ⟨ob,h1,h2.2.1⟩
section
variable {X:Cx} {pins:List (Addr×Obj)} {σ:St} {H:Hp} {s:Shared} {a:Addr} {y d:V} {u r:Value} {o:Option V} {A:Around} {E:Value→Shared→Prop}
theorem ZmJ {Q:Value→Shared→Prop} (hu:A.units+1<cLine) (I:Inv X pins σ H s) (g:DGet H a y o) (ry:RelV y u) (h:∀w' s',Inv X pins σ H s'→RelV (o.getD .non) w'→Q w' s') :
    wpAny (model X.prog X.w) A (call (.builtin "dict.get") [.ref a,u]) Q E s:=by
  rcases g with ⟨kvs,k,e,ey,l⟩ | ⟨kvs,k,b,e,ey,eb,l⟩
  · subst ey
    obtain ⟨z,hd,vs,rel,dd⟩:=ZjO I.hok e
    refine call_meetsIn PySem.F.slot_dict_get dd.typeIs PySem.F.entry_dict_get (PySem.F.args_dict_get_2 _ _) (meets_dict_get (zn X.prog X.w) a (Zju ry) hd) ⟨_,dd.mapOf,h _ _ (I.tok _) ?_⟩
    rw [l]
    exact (rel.val k).getD rfl
  · subst ey
    cases (show u=Value.ref b from ry)
    obtain ⟨z,hd,xs,rel,dd⟩:=ZjM I.hok e
    refine call_meetsIn PySem.F.slot_dict_get dd.typeIs PySem.F.entry_dict_get (PySem.F.args_dict_get_2 _ _) (meetsH_dict_get (tupleKind (zn X.prog X.w)) a b hd) ⟨tupleKind_room_in1 hu,k,xs,Zgz I.hok eb,dd,h _ _ (I.tok _) ?_⟩
    rw [l]
    exact (rel.val k).getD rfl
end
def ZlT (td ty:TE):TE:=fun σ H Q=>td σ H fun x H1=>∃a,x=.ref a∧IsD H1 a∧ty σ H1 fun y H2=>∃o,DGet H2 a y o∧Q (o.getD .non) H2
section
variable {X:Cx} {o e f:Expr} {apos cpos:Pos} {td ty tx:TE}
theorem Zi4 (hu:X.A.units+1<cLine) (ho:PE X o td) (he:PE X e ty) (m:M1 X o "get" apos e cpos):PE X (.Call (.Attribute o "get" apos) [e] [] cpos) (ZlT td ty):=by
  intro pins s σ H Q I h
  refine wpAny_Call_method m.base m.few m.line PySem.F.plainAttrs_dict PySem.F.slot_dict_get PySem.F.type_dict_get (thn (ho pins s σ H _ I h) fun u s1 ⟨x,H1,I1,rx,a,ex,d,q1⟩=>?_)
  subst ex
  obtain rfl:u=Value.ref a:=rx
  obtain ⟨t1,t2,_⟩:=ZmD I1 d
  refine ⟨t1,t2,?_⟩
  rw [m.trees]
  refine Calls.callWith_builtin rfl (Calls.evalArgs_plain (Calls.spliced_cons (thn (he pins s1 σ H1 _ I1 q1) fun iv s2 ⟨y,H2,I2,ry,ov,g,q2⟩=>Calls.spliced_nil ?_)))
  exact ZmJ hu I2 g ry fun w' s3 I3 rw'=>⟨_,H2,I3,rw',q2⟩
end
section
variable {X:Cx} {pins:List (Addr×Obj)} {σ:St} {H:Hp} {s:Shared} {a:Addr} {kvs:List (Key×V)} {A:Around} {E:Value→Shared→Prop}
end
section
variable {X:Cx} {pins:List (Addr×Obj)} {σ:St} {H:Hp} {s:Shared} {a:Addr} {y:V} {u:Value} {A:Around} {E:Value→Shared→Prop}
end
end L2
namespace L2.MM
open PySem PySem.Spec PyProof.Rows
theorem nr {α:Sort _} {a b:α} (h:a=b):a=b:=h
inductive D where
  | non | bl (b:Bool) | int (i:Int) | str (x:Str) | ty (n:String)
  | scr (ns:List Int) | tup (xs:List D) | lst (xs:List D) | ref (l:Nat)
  deriving Inhabited
inductive Cell where
  | lst (xs:List D) | dK (kvs:List (Key×D)) | dT (kvs:List (List Key×D)) | ins (C:Str) (fs:List (Str×D))
abbrev Sto:=List Cell
structure Bx where
  n:Nat
  m:Nat→Addr
  F:Addr→Prop
  os:List Addr
  ks:Addr→List Int→Prop
def Bx.ok (B:Bx) (a:Addr):Prop:=(∀i,i<B.n→B.m i≠a)∧¬B.F a∧a∉B.os
mutual
def RepV (B:Bx) (H:Hp):D→V→Prop
  | .non,v=>v=.non
  | .bl b,v=>v=.bl b
  | .int i,v=>v=.int i
  | .str x,v=>v=.str x
  | .ty n,v=>v=.ty n
  | .scr ns,v=>∃a,v=.ref a∧((∃o,H a=some (.frz o (.lst (ns.map V.int)))∧B.ok a)∨B.ks a ns)
  | .tup xs,v=>∃a vs,v=.ref a∧H a=some (.tup vs)∧B.ok a∧RepL B H xs vs
  | .lst xs,v=>∃a vs,v=.ref a∧H a=some (.lst vs)∧B.ok a∧RepL B H xs vs
  | .ref l,v=>l<B.n∧v=.ref (B.m l)
def RepL (B:Bx) (H:Hp):List D→List V→Prop
  | [],vs=>vs=[]
  | d::ds,vs=>∃v r,vs=v::r∧RepV B H d v∧RepL B H ds r
end
abbrev RepKV {κ:Type} (B:Bx) (H:Hp):List (κ×D)→List (κ×V)→Prop:=Paired fun p q=>p.1=q.1∧RepV B H p.2 q.2
structure ExtS (B B':Bx) (H H':Hp):Prop where
  n:B.n≤B'.n
  m:∀i,i<B.n→B'.m i=B.m i
  fr:∀i,B.n≤i→i<B'.n→H (B'.m i)=none
  keep:∀a o,H a=some o→(∀i,i<B.n→B.m i≠a)→a∉B.os→H' a=some o
  sm:∀a,H a≠none→H' a≠none
  os:∀a,a∈B'.os→a∈B.os∨H a=none
  F:B'.F=B.F
  ks:B'.ks=B.ks
structure ExtE (B B':Bx) (H H':Hp):Prop extends ExtS B B' H H' where
  osE:B'.os=B.os
  ko:∀a o,a∈B.os→(∀i,i<B.n→B.m i≠a)→H a=some o→H' a=some o
theorem ExtS.refl (B:Bx) (H:Hp):ExtS B B H H:=⟨Nat.le_refl _,fun _ _=>rfl,fun i h h'=>absurd h' (Nat.not_lt.mpr h),fun _ _ h _ _=>h,fun _ h=>h,fun _ h=>.inl h,rfl,rfl⟩
theorem ExtE.refl (B:Bx) (H:Hp):ExtE B B H H:=⟨ExtS.refl B H,rfl,fun _ _ _ _ h=>h⟩
section
variable {B B' B'':Bx} {H H' H'':Hp}
theorem Bx.ok.ext {a:Addr} {o:HO} (k:B.ok a) (E:ExtS B B' H H') (h:H a=some o):B'.ok a∧H' a=some o:=by
  refine ⟨⟨fun i hi e=>?_,by rw [E.F]; exact k.2.1,fun z=>?_⟩,E.keep a o h k.1 k.2.2⟩
  · by_cases q:i<B.n
    · rw [E.m i q] at e; exact k.1 i q e
    · have:=E.fr i (Nat.not_lt.mp q) hi
      rw [e,h] at this; cases this
  · rcases E.os a z with z | z
    · exact k.2.2 z
    · rw [h] at z; cases z
theorem ExtS.trans (E:ExtS B B' H H') (E':ExtS B' B'' H' H''):ExtS B B'' H H'' where
  n:=Nat.le_trans E.n E'.n
  m:=fun i hi=>(E'.m i (Nat.lt_of_lt_of_le hi E.n)).trans (E.m i hi)
  fr:=fun i h1 h2=>by
    by_cases q:i<B'.n
    · rw [E'.m i q]; exact E.fr i h1 q
    · cases z:H (B''.m i) with
      | none=>rfl
      | some o=>exact absurd (E'.fr i (Nat.not_lt.mp q) h2) (E.sm _ (by rw [z]; simp))
  keep:=fun a o h h1 h2=>by
    have h':=E.keep a o h h1 h2
    refine E'.keep a o h' (fun i hi e=>?_) (fun z=>?_)
    · by_cases q:i<B.n
      · rw [E.m i q] at e; exact h1 i q e
      · have:=E.fr i (Nat.not_lt.mp q) hi
        rw [e,h] at this; cases this
    · rcases E.os a z with z | z
      · exact h2 z
      · rw [h] at z; cases z
  sm:=fun a h=>E'.sm a (E.sm a h)
  os:=fun a h=>by
    rcases E'.os a h with z | z
    · exact E.os a z
    · right
      cases q:H a with
      | none=>rfl
      | some o=>exact absurd z (E.sm a (by rw [q]; simp))
  F:=E'.F.trans E.F
  ks:=E'.ks.trans E.ks
theorem ExtE.trans (E:ExtE B B' H H') (E':ExtE B' B'' H' H''):ExtE B B'' H H'' where
  toExtS:=E.toExtS.trans E'.toExtS
  osE:=E'.osE.trans E.osE
  ko:=fun a o ha h1 h=>by
    have h':=E.ko a o ha h1 h
    refine E'.ko a o (by rw [E.osE]; exact ha) (fun i hi e=>?_) h'
    by_cases q:i<B.n
    · rw [E.m i q] at e; exact h1 i q e
    · have:=E.fr i (Nat.not_lt.mp q) hi
      rw [e,h] at this; cases this
mutual
theorem RepV.ext (E:ExtS B B' H H'):∀{d:D} {v:V},RepV B H d v→RepV B' H' d v
  | .non,_,h=>h
  | .bl _,_,h=>h
  | .int _,_,h=>h
  | .str _,_,h=>h
  | .ty _,_,h=>h
  | .scr _,_,h=>by
    obtain ⟨a,e,h⟩:=h
    refine ⟨a,e,?_⟩
    rcases h with ⟨o,h,k⟩ | h
    · obtain ⟨k',h'⟩:=k.ext E h
      exact .inl ⟨o,h',k'⟩
    · exact .inr (by rw [E.ks]; exact h)
  | .tup _,_,h=>by
    obtain ⟨a,vs,e,h,k,l⟩:=h
    obtain ⟨k',h'⟩:=k.ext E h
    exact ⟨a,vs,e,h',k',RepL.ext E l⟩
  | .lst _,_,h=>by
    obtain ⟨a,vs,e,h,k,l⟩:=h
    obtain ⟨k',h'⟩:=k.ext E h
    exact ⟨a,vs,e,h',k',RepL.ext E l⟩
  | .ref l,_,h=>⟨Nat.lt_of_lt_of_le h.1 E.n,by rw [h.2,E.m l h.1]⟩
theorem RepL.ext (E:ExtS B B' H H'):∀{ds:List D} {vs:List V},RepL B H ds vs→RepL B' H' ds vs
  | [],_,h=>h
  | _::_,_,h=>by
    obtain ⟨v,r,e,hv,hr⟩:=h
    exact ⟨v,r,e,RepV.ext E hv,RepL.ext E hr⟩
end
theorem RepL.len:∀{ds:List D} {vs:List V},RepL B H ds vs→vs.length=ds.length
  | [],_,h=>by cases (show _=[] from h); rfl
  | _::_,_,h=>by
    obtain ⟨v,r,rfl,_,hr⟩:=h
    simp [RepL.len hr]
theorem RepL.app:∀{ds es:List D} {vs us:List V},RepL B H ds vs→RepL B H es us→RepL B H (ds++es) (vs++us)
  | [],_,_,_,h,q=>by cases (show _=[] from h); exact q
  | _::_,_,_,_,h,q=>by
    obtain ⟨v,r,rfl,hv,hr⟩:=h
    exact ⟨v,_,rfl,hv,RepL.app hr q⟩
theorem RepL.get:∀{ds:List D} {vs:List V} {i:Nat} {d:D},RepL B H ds vs→ds[i]?=some d→∃v,vs[i]?=some v∧RepV B H d v
  | [],_,_,_,_,e=>by simp at e
  | _::_,_,0,_,h,e=>by
    obtain ⟨v,r,rfl,hv,_⟩:=h
    simp at e; subst e
    exact ⟨v,rfl,hv⟩
  | _::_,_,i+1,_,h,e=>by
    obtain ⟨v,r,rfl,_,hr⟩:=h
    obtain ⟨w,q1,q2⟩:=RepL.get (i:=i) hr (by simpa using e)
    exact ⟨w,by simpa using q1,q2⟩
theorem RepL.take:∀{ds:List D} {vs:List V} (n:Nat),RepL B H ds vs→RepL B H (ds.take n) (vs.take n)
  | _,_,0,_=>by rw [List.take_zero,List.take_zero]; exact rfl
  | [],_,n+1,h=>by cases (show _=[] from h); exact rfl
  | _::_,_,n+1,h=>by
    obtain ⟨v,r,rfl,hv,hr⟩:=h
    exact ⟨v,_,rfl,hv,RepL.take n hr⟩
theorem RepL.drop:∀{ds:List D} {vs:List V} (n:Nat),RepL B H ds vs→RepL B H (ds.drop n) (vs.drop n)
  | _,_,0,h=>h
  | [],_,n+1,h=>by cases (show _=[] from h); exact rfl
  | _::_,_,n+1,h=>by
    obtain ⟨v,r,rfl,hv,hr⟩:=h
    exact RepL.drop n hr
theorem RepL.map {α:Type} {f:α→D} {g:α→V} (q:∀a,RepV B H (f a) (g a)):∀l:List α,RepL B H (l.map f) (l.map g)
  | []=>rfl
  | a::l=>⟨_,_,rfl,q a,RepL.map q l⟩
theorem RepKV.ext {κ:Type} (E:ExtS B B' H H'):∀{ks:List (κ×D)} {vs:List (κ×V)},RepKV B H ks vs→RepKV B' H' ks vs
  | _,_,.nil=>.nil
  | _,_,.cons h t=>.cons ⟨h.1,RepV.ext E h.2⟩ (RepKV.ext E t)
end
structure Mo where
  cl:Str→Addr
  K:PySem.W.Frag
def KL (K:PySem.W.Frag) (a:Addr) (ns:List Int):Prop:=∃(o:Obj) (its:Array Value) (n:Nat),K.lookup a=some o∧o.cls=.type "list"∧o.dict=none∧o.data=.seq its n∧its.size≤sizeLine∧Vals (ns.map V.int) its.toList
def CellOk (cl:Mo) (B:Bx) (H:Hp) (a:Addr):Cell→Prop
  | .lst xs=>∃vs,H a=some (.lst vs)∧RepL B H xs vs
  | .dK kvs=>∃vs,H a=some (.dK vs)∧RepKV B H kvs vs
  | .dT kvs=>∃vs,H a=some (.dT vs)∧RepKV B H kvs vs
  | .ins C fs=>∃dx vs,H a=some (.ins (cl.cl C) dx vs)∧RepKV B H fs vs
structure Good (cl:Mo) (B:Bx) (θ:Sto) (H:Hp):Prop where
  len:θ.length=B.n
  inj:∀i j,i<B.n→j<B.n→B.m i=B.m j→i=j
  cel:∀i c,θ[i]?=some c→CellOk cl B H (B.m i) c
  cF:∀i,i<B.n→¬B.F (B.m i)∧B.m i∉B.os
  Fs:∀a,B.F a→H a≠none
  oS:∀a,a∈B.os→H a≠none
  oF:∀a,a∈B.os→¬B.F a
  kc:∀a ns,B.ks a ns→KL cl.K a ns
section
variable {cl:Mo} {B B' B'':Bx} {H H' H'':Hp} {θ θ':Sto}
theorem CellOk.ext {a:Addr} {c:Cell} (k:CellOk cl B H a c) (E:ExtS B B' H H') (h:∀o,H a=some o→H' a=some o):CellOk cl B' H' a c:=by
  cases c with
  | lst xs=>obtain ⟨vs,e,r⟩:=k; exact ⟨vs,h _ e,r.ext E⟩
  | dK kvs=>obtain ⟨vs,e,r⟩:=k; exact ⟨vs,h _ e,r.ext E⟩
  | dT kvs=>obtain ⟨vs,e,r⟩:=k; exact ⟨vs,h _ e,r.ext E⟩
  | ins C fs=>obtain ⟨dx,vs,e,r⟩:=k; exact ⟨dx,vs,h _ e,r.ext E⟩
theorem CellOk.there {a:Addr} {c:Cell} (k:CellOk cl B H a c):H a≠none:=by
  cases c with
  | lst xs=>obtain ⟨vs,e,r⟩:=k; rw [e]; simp
  | dK kvs=>obtain ⟨vs,e,r⟩:=k; rw [e]; simp
  | dT kvs=>obtain ⟨vs,e,r⟩:=k; rw [e]; simp
  | ins C fs=>obtain ⟨dx,vs,e,r⟩:=k; rw [e]; simp
theorem Good.there (G:Good cl B θ H) {i:Nat} (hi:i<B.n):H (B.m i)≠none:=by
  have:i < θ.length:=by rw [G.len]; exact hi
  exact (G.cel i _ (List.getElem?_eq_getElem this)).there
theorem Good.okNone (G:Good cl B θ H) {p:Addr} (h:H p=none):B.ok p:=
  ⟨fun i hi e=>G.there hi (by rw [e]; exact h),fun z=>G.Fs p z h,fun z=>G.oS p z h⟩
theorem ZaO (G:Good cl B θ H) {p:Addr} (h:H p=none) (o:HO):ExtE B B H (upd H p o):=by
  have ne:∀a u,H a=some u→upd H p o a=some u:=fun a u e=>by rw [ZT (zm e h)]; exact e
  exact ⟨⟨Nat.le_refl _,fun _ _=>rfl,fun i h h'=>absurd h' (Nat.not_lt.mpr h),fun a u e _ _=>ne a u e,fun a e=>by
    cases q:H a with
    | none=>exact absurd q e
    | some u=>rw [ne a u q]; simp,fun _ h=>.inl h,rfl,rfl⟩,rfl,fun a u _ _ e=>ne a u e⟩
theorem ZcH (G:Good cl B θ H) {p:Addr} (h:H p=none) (o:HO):Good cl B θ (upd H p o):=by
  have E:=ZaO G h o
  exact ⟨G.len,G.inj,fun i c e=>(G.cel i c e).ext E.toExtS fun u q=>by rw [ZT (zm q h)]; exact q,G.cF,fun a z=>E.sm a (G.Fs a z),fun a z=>E.sm a (G.oS a z),G.oF,G.kc⟩
theorem Zkl (G:Good cl B θ H) {p:Addr} (h:H p=none) {xs:List D} {vs:List V} (r:RepL B H xs vs):RepV B (upd H p (.lst vs)) (.lst xs) (.ref p):=
  ⟨p,vs,rfl,Z3,G.okNone h,r.ext (ZaO G h _).toExtS⟩
theorem Zkk (G:Good cl B θ H) {p:Addr} (h:H p=none) {xs:List D} {vs:List V} (r:RepL B H xs vs):RepV B (upd H p (.tup vs)) (.tup xs) (.ref p):=
  ⟨p,vs,rfl,Z3,G.okNone h,r.ext (ZaO G h _).toExtS⟩
def Bx.push (B:Bx) (p:Addr):Bx:={ B with n:=B.n+1,m:=fun i=>if i=B.n then p else B.m i }
theorem Za9 (G:Good cl B θ H) {p:Addr} (h:H p=none) (o:HO):ExtE B (B.push p) H (upd H p o):=by
  have E:=ZaO G h o
  refine ⟨⟨Nat.le_succ _,fun i hi=>if_neg (Nat.ne_of_lt hi),fun i h1 h2=>?_,E.keep,E.sm,fun _ h=>.inl h,rfl,rfl⟩,rfl,E.ko⟩
  have e:i=B.n:=Nat.le_antisymm (Nat.le_of_lt_succ h2) h1
  show H (if i=B.n then p else B.m i)=none
  rw [if_pos e]; exact h
theorem Zb2 (G:Good cl B θ H) {p:Addr} (h:H p=none) {o:HO} {c:Cell} (k:CellOk cl (B.push p) (upd H p o) p c):Good cl (B.push p) (θ++[c]) (upd H p o):=by
  have E:=Za9 G h o
  have hm:∀i,i<B.n→(B.push p).m i=B.m i:=fun i hi=>if_neg (Nat.ne_of_lt hi)
  have hn:(B.push p).m B.n=p:=if_pos rfl
  have cs:∀i,i<(B.push p).n→i<B.n∨i=B.n:=fun i hi=>Nat.lt_succ_iff_lt_or_eq.mp hi
  have ok:=G.okNone h
  refine ⟨by rw [List.length_append,G.len]; rfl,fun i j hi hj e=>?_,fun i c' e=>?_,fun i hi=>?_,fun a z=>E.sm a (G.Fs a z),fun a z=>E.sm a (G.oS a z),G.oF,G.kc⟩
  · rcases cs i hi with a | a<;>rcases cs j hj with b | b
    · rw [hm i a,hm j b] at e; exact G.inj i j a b e
    · rw [hm i a,b,hn] at e; exact absurd e (ok.1 i a)
    · rw [hm j b,a,hn] at e; exact absurd e.symm (ok.1 j b)
    · rw [a,b]
  · by_cases q:i < θ.length
    · rw [List.getElem?_append_left q] at e
      rw [hm i (by rw [←G.len]; exact q)]
      exact (G.cel i c' e).ext E.toExtS fun u z=>by rw [ZT (zm z h)]; exact z
    · have q':=Nat.not_lt.mp q
      rw [List.getElem?_append_right q'] at e
      have:i - θ.length=0:=by
        cases z:i - θ.length with
        | zero=>rfl
        | succ k=>rw [z] at e; simp at e
      rw [this] at e
      simp at e
      subst e
      have:i=B.n:=by rw [←G.len]; omega
      rw [this,hn]; exact k
  · rcases cs i hi with a | a
    · rw [hm i a]; exact G.cF i a
    · rw [a,hn]; exact ⟨ok.2.1,ok.2.2⟩
theorem Zdl (G:Good cl B θ H) {l:Nat} (hl:l<B.n) (o:HO):ExtE B B H (upd H (B.m l) o):=by
  have ne:∀a u,(∀i,i<B.n→B.m i≠a)→H a=some u→upd H (B.m l) o a=some u:=fun a u k e=>by rw [ZT (Ne.symm (k l hl))]; exact e
  exact ⟨⟨Nat.le_refl _,fun _ _=>rfl,fun i h h'=>absurd h' (Nat.not_lt.mpr h),fun a u e k _=>ne a u k e,fun a e=>by
    by_cases q:a=B.m l
    · rw [q,Z3]; simp
    · rw [ZT q]; exact e,fun _ h=>.inl h,rfl,rfl⟩,rfl,fun a u _ k e=>ne a u k e⟩
theorem ZdN (G:Good cl B θ H) {l:Nat} (hl:l<B.n) {o:HO} {c:Cell} (k:CellOk cl B (upd H (B.m l) o) (B.m l) c):Good cl B (θ.set l c) (upd H (B.m l) o):=by
  have E:=Zdl G hl o
  refine ⟨by rw [List.length_set]; exact G.len,G.inj,fun i c' e=>?_,G.cF,fun a z=>E.sm a (G.Fs a z),fun a z=>E.sm a (G.oS a z),G.oF,G.kc⟩
  by_cases q:i=l
  · subst q
    rw [List.getElem?_set_self (by rw [G.len]; exact hl)] at e
    cases e; exact k
  · rw [List.getElem?_set_ne (Ne.symm q)] at e
    have hi:i<B.n:=by rw [←G.len]; exact (List.getElem?_eq_some_iff.mp e).1
    exact (G.cel i c' e).ext E.toExtS fun u z=>by rw [ZT (fun z'=>q (G.inj i l hi hl z'))]; exact z
end
inductive R (α:Type) where
  | ok (a:α) (θ:Sto) | ex (c:Str) (θ:Sto) | bad
def R.bind {α β:Type} (r:R α) (k:α→Sto→R β):R β:=match r with
  | .ok a θ=>k a θ
  | .ex c θ=>.ex c θ
  | .bad=>.bad
@[simp] theorem R.bind_ok {α β:Type} (a:α) (θ:Sto) (k:α→Sto→R β):(R.ok a θ).bind k=k a θ:=nr rfl
@[simp] theorem R.bind_bad {α β:Type} (k:α→Sto→R β):(R.bad:R α).bind k=.bad:=nr rfl
inductive Sl where
  | no | val (d:D) | own (xs:List D)
structure Frm (cl:Mo) (B:Bx) (θ:Sto) (ρ:List Sl) (σ:St) (H:Hp):Prop where
  good:Good cl B θ H
  len:ρ.length=σ.length
  val:∀(i:Nat) (d:D),ρ[i]?=some (Sl.val d)→∃v,σ[i]?=some (some v)∧RepV B H d v
  own:∀(i:Nat) (xs:List D),ρ[i]?=some (Sl.own xs)→∃a vs,σ[i]?=some (some (.ref a))∧a∈B.os∧H a=some (.lst vs)∧RepL B H xs vs
  ne:∀(i j:Nat) (xs ys:List D) (a:Addr),i≠j→ρ[i]?=some (Sl.own xs)→ρ[j]?=some (Sl.own ys)→σ[i]?=some (some (.ref a))→σ[j]?≠some (some (.ref a))
theorem Frm.ext {cl:Mo} {B B':Bx} {θ θ':Sto} {ρ:List Sl} {σ:St} {H H':Hp} (F:Frm cl B θ ρ σ H) (E:ExtE B B' H H') (G:Good cl B' θ' H'):Frm cl B' θ' ρ σ H' where
  good:=G
  len:=F.len
  val:=fun i d e=>let ⟨v,h1,h2⟩:=F.val i d e; ⟨v,h1,h2.ext E.toExtS⟩
  own:=fun i xs e=>by
    obtain ⟨a,vs,h1,h2,h3,h4⟩:=F.own i xs e
    exact ⟨a,vs,h1,by rw [E.osE]; exact h2,E.ko a _ h2 (fun i hi z=>(F.good.cF i hi).2 (by rw [z]; exact h2)) h3,h4.ext E.toExtS⟩
  ne:=F.ne
def ZU (mg:Str→Option Value) (x:Str):Addr:=match mg x with
  | some (.ref a)=>a
  | _=>0
abbrev _root_.L2.Cx.cl (X:Cx):Mo:=⟨ZU X.mg,X.K⟩
def XE (X:Cx) (σ:St) (B:Bx) (H:Hp) (c:Str) (θ':Sto):Prop:=False
theorem XE.trans {X:Cx} {σ:St} {B B':Bx} {H H':Hp} {c:Str} {θ':Sto} (h:XE X σ B H c θ') (E:ExtE B B' H H'):XE X σ B' H' c θ':=h
def wpR (X:Cx) (σ:St) {α β:Type} (Rel:Bx→Hp→α→β→Prop) (B:Bx) (H:Hp) (r:R α) (Q:β→Hp→Prop):Prop:=match r with
  | .ok a θ'=>∀B' H' b,ExtE B B' H H'→Good X.cl B' θ' H'→Rel B' H' a b→Q b H'
  | .ex c θ'=>XE X σ B H c θ'
  | .bad=>False
section
variable {X:Cx} {σ:St} {α β γ δ:Type} {Rel:Bx→Hp→α→β→Prop} {Rel':Bx→Hp→γ→δ→Prop} {B B':Bx} {H H':Hp}
theorem wpR.mono {r:R α} {Q Q':β→Hp→Prop} (h:wpR X σ Rel B H r Q) (hQ:∀b H',Q b H'→Q' b H'):wpR X σ Rel B H r Q':=by
  cases r with
  | ok a θ'=>exact fun B' H' b e g q=>hQ _ _ (h B' H' b e g q)
  | ex c θ'=>exact h
  | bad=>exact h
theorem wpR.trans {r:R α} {Q:β→Hp→Prop} (h:wpR X σ Rel B H r Q) (E:ExtE B B' H H'):wpR X σ Rel B' H' r Q:=by
  cases r with
  | ok a θ'=>exact fun B2 H2 b e g q=>h B2 H2 b (E.trans e) g q
  | ex c θ'=>exact XE.trans (c:=c) (θ':=θ') (σ:=σ) (X:=X) h E
  | bad=>exact h
theorem wpR.bind {r:R α} {k:α→Sto→R γ} {Q:δ→Hp→Prop} (h:wpR X σ Rel' B H (r.bind k) Q) :
    wpR X σ Rel B H r (fun b H1=>∃B1 θ1 a,ExtE B B1 H H1∧Good X.cl B1 θ1 H1∧Rel B1 H1 a b∧wpR X σ Rel' B1 H1 (k a θ1) Q):=by
  cases r with
  | ok a θ'=>exact fun B1 H1 b E g q=>⟨B1,θ',a,E,g,q,wpR.trans h E⟩
  | ex c θ'=>exact h
  | bad=>exact h
end
abbrev EM:=List Sl→Sto→R D
abbrev TMr:=List Sl→Sto→R Bool
abbrev AM:=List Sl→Sto→R (List D)
def EqB (_:Bx) (_:Hp) (a b:Bool):Prop:=a=b
def tM (X:Cx) (f:EM):TE:=fun σ H Q=>∃B θ ρ,Frm X.cl B θ ρ σ H∧wpR X σ RepV B H (f ρ θ) Q
def tMT (X:Cx) (f:TMr):TT:=fun σ H Q=>∃B θ ρ,Frm X.cl B θ ρ σ H∧wpR X σ EqB B H (f ρ θ) Q
def tMA (X:Cx) (f:AM):TA:=fun σ H Q=>∃B θ ρ,Frm X.cl B θ ρ σ H∧wpR X σ RepL B H (f ρ θ) Q
def ME (X:Cx) (e:Expr) (f:EM):Prop:=PE X e (tM X f)
def MT (X:Cx) (e:Expr) (f:TMr):Prop:=PT X e (tMT X f)
def MW (X:Cx) (e:Expr) (f:TMr):Prop:=PW X e (tMT X f)
def MA (X:Cx) (es:List Expr) (f:AM):Prop:=PA X es (tMA X f)
section
variable {X:Cx} {σ:St} {H:Hp} {γ δ:Type} {Rel':Bx→Hp→γ→δ→Prop}
theorem ZP {f:EM} {Q Q':VK} (h:tM X f σ H Q) (hQ:∀v H',Q v H'→Q' v H'):tM X f σ H Q':=let ⟨B,θ,ρ,F,w⟩:=h; ⟨B,θ,ρ,F,w.mono hQ⟩
theorem ZaZ {f:TMr} {Q Q':Bool→Hp→Prop} (h:tMT X f σ H Q) (hQ:∀v H',Q v H'→Q' v H'):tMT X f σ H Q':=let ⟨B,θ,ρ,F,w⟩:=h; ⟨B,θ,ρ,F,w.mono hQ⟩
theorem zN {f:AM} {Q Q':List V→Hp→Prop} (h:tMA X f σ H Q) (hQ:∀v H',Q v H'→Q' v H'):tMA X f σ H Q':=let ⟨B,θ,ρ,F,w⟩:=h; ⟨B,θ,ρ,F,w.mono hQ⟩
variable {B:Bx} {θ:Sto} {ρ:List Sl}
theorem step {f:EM} {k:D→Sto→R γ} {Q:δ→Hp→Prop} (F:Frm X.cl B θ ρ σ H) (h:wpR X σ Rel' B H ((f ρ θ).bind k) Q) :
    tM X f σ H (fun v H1=>∃B1 θ1 d,ExtE B B1 H H1∧Frm X.cl B1 θ1 ρ σ H1∧RepV B1 H1 d v∧wpR X σ Rel' B1 H1 (k d θ1) Q):=
  ⟨B,θ,ρ,F,(wpR.bind (Rel:=RepV) h).mono fun v H1 ⟨B1,θ1,d,E,G,r,w⟩=>⟨B1,θ1,d,E,F.ext E G,r,w⟩⟩
theorem ZgM {f:TMr} {k:Bool→Sto→R γ} {Q:δ→Hp→Prop} (F:Frm X.cl B θ ρ σ H) (h:wpR X σ Rel' B H ((f ρ θ).bind k) Q) :
    tMT X f σ H (fun c H1=>∃B1 θ1,ExtE B B1 H H1∧Frm X.cl B1 θ1 ρ σ H1∧wpR X σ Rel' B1 H1 (k c θ1) Q):=
  ⟨B,θ,ρ,F,(wpR.bind (Rel:=EqB) h).mono fun v H1 ⟨B1,θ1,d,E,G,r,w⟩=>by cases (show d=v from r); exact ⟨B1,θ1,E,F.ext E G,w⟩⟩
theorem Zcw {f:AM} {k:List D→Sto→R γ} {Q:δ→Hp→Prop} (F:Frm X.cl B θ ρ σ H) (h:wpR X σ Rel' B H ((f ρ θ).bind k) Q) :
    tMA X f σ H (fun v H1=>∃B1 θ1 d,ExtE B B1 H H1∧Frm X.cl B1 θ1 ρ σ H1∧RepL B1 H1 d v∧wpR X σ Rel' B1 H1 (k d θ1) Q):=
  ⟨B,θ,ρ,F,(wpR.bind (Rel:=RepL) h).mono fun v H1 ⟨B1,θ1,d,E,G,r,w⟩=>⟨B1,θ1,d,E,F.ext E G,r,w⟩⟩
theorem ZB {α β:Type} {Rel:Bx→Hp→α→β→Prop} {a:α} {b:β} {Q:β→Hp→Prop} (G:Good X.cl B θ H) (r:Rel B H a b) (h:wpR X σ Rel B H (.ok a θ) Q):Q b H:=h B H b (ExtE.refl B H) G r
end
theorem PE.imp {X:Cx} {e:Expr} {t t':TE} (h:PE X e t) (hi:∀σ H Q,t' σ H Q→t σ H Q):PE X e t':=fun pins s σ H Q I q=>h pins s σ H Q I (hi σ H Q q)
theorem PT.imp {X:Cx} {e:Expr} {t t':TT} (h:PT X e t) (hi:∀σ H Q,t' σ H Q→t σ H Q):PT X e t':=fun pins s σ H Q I q=>h pins s σ H Q I (hi σ H Q q)
theorem PW.imp {X:Cx} {e:Expr} {t t':TT} (h:PW X e t) (hi:∀σ H Q,t' σ H Q→t σ H Q):PW X e t':=fun wh pins s σ H Q I q=>h wh pins s σ H Q I (hi σ H Q q)
theorem PA.imp {X:Cx} {es:List Expr} {t t':TA} (h:PA X es t) (hi:∀σ H Q,t' σ H Q→t σ H Q):PA X es t':=fun pos pins s σ H Q I q=>h pos pins s σ H Q I (hi σ H Q q)
theorem OpR.imp {X:Cx} {f:Value→Value→Sem Value} {r r':R2} (h:OpR X f r) (hi:∀x y H Q,r' x y H Q→r x y H Q):OpR X f r':=fun pins s σ H x y v u Q I rx ry q=>h pins s σ H x y v u Q I rx ry (hi x y H Q q)
theorem IxR.imp {X:Cx} {r r':R2} (h:IxR X r) (hi:∀x y H Q,r' x y H Q→r x y H Q):IxR X r':=fun pins s σ H x y v u Q v1 s1 I rx ry q=>h pins s σ H x y v u Q v1 s1 I rx ry (hi _ _ _ _ q)
theorem CallR.imp {X:Cx} {f:Value} {r r':List V→Hp→VK→Prop} (h:CallR X f r) (hi:∀xs H Q,r' xs H Q→r xs H Q):CallR X f r':=fun pins s σ H xs us Q I r q=>h pins s σ H xs us Q I r (hi _ _ _ q)
end L2.MM
namespace L2.MM
open PySem PySem.Spec PyProof.Rows
noncomputable section
variable {X:Cx}
def zJ (θ:Sto):D→Option (List D)
  | .lst xs=>some xs
  | .ref l=>match θ[l]? with
    | some (.lst xs)=>some xs
    | _=>none
  | _=>none
def seqOf (θ:Sto):D→Option (List D)
  | .tup xs=>some xs
  | .scr ns=>some (ns.map D.int)
  | d=>zJ θ d
theorem zp {cl:Mo} {B:Bx} {θ:Sto} {H:Hp} (G:Good cl B θ H) {d:D} {v:V} {xs:List D} (r:RepV B H d v) (h:zJ θ d=some xs):∃a vs,v=.ref a∧H a=some (.lst vs)∧RepL B H xs vs:=by
  cases d with
  | lst ys=>
    obtain ⟨a,vs,e,h1,_,h2⟩:=r
    cases h
    exact ⟨a,vs,e,h1,h2⟩
  | ref l=>
    obtain ⟨hl,rfl⟩:=r
    simp only [zJ] at h
    split at h
    · rename_i ys e
      cases h
      obtain ⟨vs,q1,q2⟩:=G.cel l _ e
      exact ⟨_,vs,rfl,q1,q2⟩
    · cases h
  | _=>cases h
theorem ZaA {cl:Mo} {B:Bx} {θ:Sto} {H:Hp} (G:Good cl B θ H) {d:D} {v:V} {xs:List D} (r:RepV B H d v) (h:seqOf θ d=some xs) :
    ∃a vs,v=.ref a∧(SqL cl.K H a vs∨SqT cl.K H a vs)∧RepL B H xs vs:=by
  cases d with
  | tup ys=>
    obtain ⟨a,vs,e,h1,_,h2⟩:=r
    cases h
    exact ⟨a,vs,e,.inr (SqT.of h1),h2⟩
  | scr ns=>
    obtain ⟨a,e,h1⟩:=r
    cases h
    refine ⟨a,ns.map V.int,e,.inl ?_,RepL.map (f:=D.int) (g:=V.int) (fun _=>rfl) ns⟩
    rcases h1 with ⟨o,h1,_⟩ | h1
    · exact .inl (.inr ⟨o,h1⟩)
    · exact .inr (G.kc a ns h1)
  | lst ys=>
    obtain ⟨a,vs,e,h1,h2⟩:=zp G r (show zJ θ (.lst ys)=some xs from h)
    exact ⟨a,vs,e,.inl (SqL.of h1),h2⟩
  | ref l=>
    obtain ⟨a,vs,e,h1,h2⟩:=zp G r (show zJ θ (.ref l)=some xs from h)
    exact ⟨a,vs,e,.inl (SqL.of h1),h2⟩
  | _=>cases h
abbrev BIG:Nat:=100000
theorem zg {n:Nat} (h:n≤BIG):n≤sizeLine:=Nat.le_trans h (by rw [sizeLine_eq]; decide)
def Zd (i:Nat):EM:=fun ρ θ=>match ρ[i]? with
  | some (Sl.val d)=>.ok d θ
  | _=>.bad
def mC (d:D):EM:=fun _ θ=>.ok d θ
section
variable {a b c e:Expr} {pos:Pos} {fa fb fc:EM} {ft fu:TMr}
theorem Za (i:Nat) {x:Str} {pos:Pos} (hN:X.N[i]?=some x:=by rfl) (hv:Vis X.env.scope x:=by first | exact Or.inl rfl | exact Or.inr (Or.inl rfl) | exact Or.inr (Or.inr rfl))
    (hd:(x == ("__debug__":Str))=false:=by decide) (hcd:(x == ("__classdict__":Str))=false:=by decide):ME X (.Name x pos) (Zd i):=by
  refine PE.imp (ZiY hN hv hd hcd) fun σ H Q h=>?_
  obtain ⟨B,θ,ρ,F,w⟩:=h
  unfold Zd at w
  split at w
  · rename_i d e
    obtain ⟨v,h1,h2⟩:=F.val i d e
    exact ⟨v,h1,ZB F.good h2 w⟩
  · exact w.elim
theorem Zjn {d:D} {v:V} (h:PE X e (tC v)) (r:∀B H,RepV B H d v):ME X e (mC d):=by
  refine PE.imp h fun σ H Q h=>?_
  obtain ⟨B,θ,ρ,F,w⟩:=h
  exact ZB F.good (r B H) w
theorem Zh {i j pos}:ME X (.Constant (.int i) j pos) (mC (.int i)):=Zjn Zmi fun _ _=>rfl
theorem Zau {i j pos}:ME X (.Constant (.bool i) j pos) (mC (.bl i)):=Zjn ZnL fun _ _=>rfl
theorem zo {j pos}:ME X (.Constant .none j pos) (mC .non):=Zjn Zmh fun _ _=>rfl
theorem Zy {x:Str} {i:Int} (h:∃t,X.mg x=some (.int i t)) (hg:Gl X x:=by rfl) (hd:(x == ("__debug__":Str))=false:=by decide):ME X (.Name x pos) (mC (.int i)):=Zjn (ZkA h hg hd) fun _ _=>rfl
theorem ZW {x:Str} {y:Str} (h:∃t,X.mg x=some (.str y t)) (hg:Gl X x:=by rfl) (hd:(x == ("__debug__":Str))=false:=by decide):ME X (.Name x pos) (mC (.str y)):=by
  obtain ⟨t,h⟩:=h
  exact Zjn (ZgT hg h (v:=.str y) ⟨t,rfl⟩ hd) fun _ _=>rfl
abbrev OM:=D→D→Sto→R D
def mOp (g:OM) (fa fb:EM):EM:=fun ρ θ=>(fa ρ θ).bind fun x θ=>(fb ρ θ).bind fun y θ=>g x y θ
def rM (X:Cx) (g:OM):R2:=fun x y H Q=>∃σ B θ d e,Good X.cl B θ H∧RepV B H d x∧RepV B H e y∧wpR X σ RepV B H (g d e θ) Q
theorem ZgL {g:OM} (σ:St) (H:Hp) (Q:VK) (h:tM X (mOp g fa fb) σ H Q):tOp (rM X g) (tM X fa) (tM X fb) σ H Q:=by
  obtain ⟨B,θ,ρ,F,w⟩:=h
  refine ZP (step F w) ?_
  rintro x' H1 ⟨B1,θ1,x,E1,F1,rx,w1⟩
  refine ZP (step F1 w1) ?_
  rintro y' H2 ⟨B2,θ2,y,E2,F2,ry,w2⟩
  exact ⟨σ,B2,θ2,x,y,F2.good,rx.ext E2.toExtS,ry,w2⟩
theorem Zm {op:Operator} {g:OM} (ho:OpR X (binaryOp op) (rM X g)) (ha:ME X a fa) (hb:ME X b fb):ME X (.BinOp a op b pos) (mOp g fa fb):=PE.imp (ZnJ ho ha hb) ZgL
theorem Zcn {op:CmpOp} {g:OM} (ho:OpR X (compareOp op) (rM X g)) (ha:ME X a fa) (hb:ME X b fb) (hm:behindInMarks op b=false:=by first | exact Zjf _ | rfl):ME X (.Compare a [op] [b] pos) (mOp g fa fb):=PE.imp (ZkB ho ha hb hm) ZgL
theorem za {g:OM} (hr:IxR X (rM X g)) (ha:ME X a fa) (hb:ME X b fb) (hs:Zhn b:=by intro _ _; rfl):ME X (.Subscript a b pos) (mOp g fa fb):=PE.imp (ZnK hr ha hb hs) ZgL
def ZM (f:EM):TMr:=fun ρ θ=>(f ρ θ).bind fun x θ=>match x with
  | .bl k=>.ok k θ
  | _=>.bad
theorem ZiK {f:EM} (σ:St) (H:Hp) (Q:Bool→Hp→Prop) (h:tMT X (ZM f) σ H Q):tM X f σ H (fun v H1=>∃k,v=.bl k∧Q k H1):=by
  obtain ⟨B,θ,ρ,F,w⟩:=h
  refine ZP (step F w) ?_
  rintro v H1 ⟨B1,θ1,x,E1,F1,rx,w1⟩
  cases x with
  | bl k=>exact ⟨k,rx,ZB (Rel:=EqB) F1.good rfl w1⟩
  | _=>exact w1.elim
theorem ZH {op:CmpOp} {g:OM} (ho:OpR X (compareOp op) (rM X g)) (ha:ME X a fa) (hb:ME X b fb) (hm:behindInMarks op b=false:=by first | exact Zjf _ | rfl):MT X (.Compare a [op] [b] pos) (ZM (mOp g fa fb)):=by
  refine PT.imp (Zkq ho ha hb hm) fun σ H Q h=>?_
  have q:=ZiK σ H Q h
  exact ZgL σ H _ q
def ZpZ (g g':OM) (fa fb fc:EM):EM:=fun ρ θ=>(fa ρ θ).bind fun x θ=>(fb ρ θ).bind fun y θ=>(g x y θ).bind fun z θ=>match z with
  | .bl true=>(fc ρ θ).bind fun w θ=>g' y w θ
  | .bl false=>.ok (.bl false) θ
  | _=>.bad
def ZeH (θ:Sto):D→Option Bool
  | .non=>some false
  | .bl b=>some b
  | .int i=>some (i != 0)
  | .str x=>if x.length≤BIG then some ((x.length:Int) != 0) else none
  | d=>(seqOf θ d).map fun xs=>!xs.isEmpty
def Zdg (f:EM):TMr:=fun ρ θ=>(f ρ θ).bind fun x θ=>match ZeH θ x with
  | some k=>.ok k θ
  | none=>.bad
theorem RepL.emp {B:Bx} {H:Hp} {xs:List D} {vs:List V} (r:RepL B H xs vs):vs.isEmpty=xs.isEmpty:=by
  cases xs with
  | nil=>cases (show vs=[] from r); rfl
  | cons _ _=>obtain ⟨v,q,rfl,_,_⟩:=r; rfl
theorem Zj8 {cl:Mo} {B:Bx} {θ:Sto} {H:Hp} (G:Good cl B θ H) {d:D} {v:V} {k:Bool} (r:RepV B H d v) (h:ZeH θ d=some k):TruV cl.K v H k:=by
  have sq:∀xs,seqOf θ d=some xs→((seqOf θ d).map fun xs=>!xs.isEmpty)=some k→TruV cl.K v H k:=fun xs e q=>by
    rw [e] at q
    cases q
    obtain ⟨a,vs,rfl,h1,h2⟩:=ZaA G r e
    show TruV cl.K (V.ref a) H (!xs.isEmpty)
    rw [←h2.emp]
    rcases h1 with h1 | h1
    · exact .inl ⟨vs,h1,rfl⟩
    · exact .inr (.inl ⟨vs,h1,rfl⟩)
  cases d with
  | non=>cases (show v=.non from r); cases h; rfl
  | bl b=>cases (show v=.bl b from r); cases h; rfl
  | int i=>cases (show v=.int i from r); cases h; rfl
  | str x=>
    cases (show v=.str x from r)
    simp only [ZeH] at h
    split at h
    · rename_i hz; cases h; exact ⟨zg hz,rfl⟩
    · cases h
  | ty n=>simp [ZeH,seqOf,zJ] at h
  | scr ns=>exact sq _ rfl h
  | tup xs=>exact sq _ rfl h
  | lst xs=>exact sq _ rfl h
  | ref l=>
    cases e:seqOf θ (.ref l) with
    | none=>simp only [ZeH,e] at h; cases h
    | some xs=>exact sq xs e h
theorem zQ (ha:ME X a fa) (he:∀whole,isTrue a X.env whole=(do let v ←whole; standAt a.pos; holding [v] (truthy v)):=by intro _; rfl):MT X a (Zdg fa):=by
  refine PT.imp (ZiS ha he) fun σ H Q h=>?_
  obtain ⟨B,θ,ρ,F,w⟩:=h
  refine ZP (step F w) ?_
  rintro v H1 ⟨B1,θ1,x,E1,F1,rx,w1⟩
  cases e:ZeH θ1 x with
  | none=>rw [e] at w1; exact w1.elim
  | some k=>rw [e] at w1; exact ⟨k,Zj8 F1.good rx e,ZB (Rel:=EqB) F1.good rfl w1⟩
def ZkQ (f g:TMr):TMr:=fun ρ θ=>(f ρ θ).bind fun k θ=>if k=true then g ρ θ else .ok false θ
def mOr (f g:TMr):TMr:=fun ρ θ=>(f ρ θ).bind fun k θ=>if k=true then .ok true θ else g ρ θ
def Zgu (f:TMr):TMr:=fun ρ θ=>(f ρ θ).bind fun k θ=>.ok (!k) θ
theorem ZdC (ha:MT X a ft):MW X (.BoolOp .And [a] pos) ft:=Zko ha
theorem ZbX (ha:MT X a ft):MW X (.BoolOp .Or [a] pos) ft:=Zl5 ha
theorem Zjh {rest:List Expr} (ha:MT X a ft) (hb:MW X (.BoolOp .And (b::rest) pos) fu):MW X (.BoolOp .And (a::b::rest) pos) (ZkQ ft fu):=by
  refine PW.imp (Zl6 ha hb) fun σ H Q h=>?_
  obtain ⟨B,θ,ρ,F,w⟩:=h
  refine ZaZ (ZgM F w) ?_
  rintro k H1 ⟨B1,θ1,E1,F1,w1⟩
  cases k with
  | true=>rw [if_pos rfl] at w1 ⊢; exact ⟨B1,θ1,ρ,F1,w1⟩
  | false=>rw [if_neg Bool.false_ne_true] at w1 ⊢; exact ZB (Rel:=EqB) F1.good rfl w1
theorem ZfZ {rest:List Expr} (ha:MT X a ft) (hb:MW X (.BoolOp .Or (b::rest) pos) fu):MW X (.BoolOp .Or (a::b::rest) pos) (mOr ft fu):=by
  refine PW.imp (ZnF ha hb) fun σ H Q h=>?_
  obtain ⟨B,θ,ρ,F,w⟩:=h
  refine ZaZ (ZgM F w) ?_
  rintro k H1 ⟨B1,θ1,E1,F1,w1⟩
  cases k with
  | true=>rw [if_pos rfl] at w1 ⊢; exact ZB (Rel:=EqB) F1.good rfl w1
  | false=>rw [if_neg Bool.false_ne_true] at w1 ⊢; exact ⟨B1,θ1,ρ,F1,w1⟩
theorem MW.mt {e:Expr} {f:TMr} (h:MW X e f):MT X e f:=PW.pt h
theorem ZdD (ha:MT X a ft):MT X (.UnaryOp .Not a pos) (Zgu ft):=by
  refine PT.imp (Zl8 ha) fun σ H Q h=>?_
  obtain ⟨B,θ,ρ,F,w⟩:=h
  refine ZaZ (ZgM F w) ?_
  rintro k H1 ⟨B1,θ1,E1,F1,w1⟩
  exact ZB (Rel:=EqB) F1.good rfl w1
def Zg8 (f g:EM):EM:=fun ρ θ=>(f ρ θ).bind fun x θ=>match x with
  | .bl true=>g ρ θ
  | .bl false=>.ok (.bl false) θ
  | _=>.bad
def Zmw (f g:EM):EM:=fun ρ θ=>(f ρ θ).bind fun x θ=>match x with
  | .bl true=>.ok (.bl true) θ
  | .bl false=>g ρ θ
  | _=>.bad
theorem Zgr {op} (h:ME X a fa):ME X (.BoolOp op [a] pos) fa:=Zmg h
theorem Zjo {rest:List Expr} (ha:ME X a fa) (hb:ME X (.BoolOp .And (b::rest) pos) fb):ME X (.BoolOp .And (a::b::rest) pos) (Zg8 fa fb):=by
  refine PE.imp (Zmk ha hb) fun σ H Q h=>?_
  obtain ⟨B,θ,ρ,F,w⟩:=h
  refine ZP (step F w) ?_
  rintro v H1 ⟨B1,θ1,x,E1,F1,rx,w1⟩
  cases x with
  | bl k=>
    refine ⟨k,rx,?_⟩
    cases k with
    | true=>rw [if_pos rfl]; exact ⟨B1,θ1,ρ,F1,w1⟩
    | false=>rw [if_neg Bool.false_ne_true]; exact ZB F1.good (show RepV B1 H1 (.bl false) (.bl false) from rfl) w1
  | _=>exact w1.elim
theorem ZnW {rest:List Expr} (ha:ME X a fa) (hb:ME X (.BoolOp .Or (b::rest) pos) fb):ME X (.BoolOp .Or (a::b::rest) pos) (Zmw fa fb):=by
  refine PE.imp (ZnI ha hb) fun σ H Q h=>?_
  obtain ⟨B,θ,ρ,F,w⟩:=h
  refine ZP (step F w) ?_
  rintro v H1 ⟨B1,θ1,x,E1,F1,rx,w1⟩
  cases x with
  | bl k=>
    refine ⟨k,rx,?_⟩
    cases k with
    | true=>rw [if_pos rfl]; exact ZB F1.good (show RepV B1 H1 (.bl true) (.bl true) from rfl) w1
    | false=>rw [if_neg Bool.false_ne_true]; exact ⟨B1,θ1,ρ,F1,w1⟩
  | _=>exact w1.elim
def ZdI (t:TMr) (f g:EM):EM:=fun ρ θ=>(t ρ θ).bind fun k θ=>if k=true then f ρ θ else g ρ θ
theorem Zbo {c:Expr} (hc:MT X c ft) (ha:ME X a fa) (hb:ME X b fb):ME X (.IfExp c a b pos) (ZdI ft fa fb):=by
  refine PE.imp (Zi1 hc ha hb) fun σ H Q h=>?_
  obtain ⟨B,θ,ρ,F,w⟩:=h
  refine ZaZ (ZgM F w) ?_
  rintro k H1 ⟨B1,θ1,E1,F1,w1⟩
  cases k with
  | true=>rw [if_pos rfl] at w1 ⊢; exact ⟨B1,θ1,ρ,F1,w1⟩
  | false=>rw [if_neg Bool.false_ne_true] at w1 ⊢; exact ⟨B1,θ1,ρ,F1,w1⟩
def Zk:AM:=fun _ θ=>.ok [] θ
def Zc (f:EM) (g:AM):AM:=fun ρ θ=>(f ρ θ).bind fun x θ=>(g ρ θ).bind fun xs θ=>.ok (x::xs) θ
theorem Zg:MA X [] Zk:=PA.imp Zgp fun σ H Q h=>by
  obtain ⟨B,θ,ρ,F,w⟩:=h
  exact ZB (Rel:=RepL) F.good (show RepL B H [] [] from rfl) w
theorem Zb {es:List Expr} {fs:AM} (ha:ME X e fa) (hr:MA X es fs) (hs:starEach (e::es) X.env=(false,eval e X.env)::starEach es X.env:=by rfl):MA X (e::es) (Zc fa fs):=by
  refine PA.imp (ZeO ha hr hs) fun σ H Q h=>?_
  obtain ⟨B,θ,ρ,F,w⟩:=h
  refine ZP (step F w) ?_
  rintro x' H1 ⟨B1,θ1,x,E1,F1,rx,w1⟩
  refine zN (Zcw F1 w1) ?_
  rintro xs' H2 ⟨B2,θ2,xs,E2,F2,rxs,w2⟩
  exact ZB (Rel:=RepL) F2.good (show RepL B2 H2 (x::xs) (x'::xs') from ⟨x',xs',rfl,rx.ext E2.toExtS,rxs⟩) w2
def Za4 (f:AM):EM:=fun ρ θ=>(f ρ θ).bind fun xs θ=>if xs.length≤BIG then .ok (.tup xs) θ else .bad
def ZaH (f:AM):EM:=fun ρ θ=>(f ρ θ).bind fun xs θ=>if xs.length≤BIG then .ok (.lst xs) θ else .bad
def Zlq (f:AM):EM:=fun ρ θ=>(f ρ θ).bind fun xs θ=>if xs.length≤BIG then .ok (.ref θ.length) (θ++[.lst xs]) else .bad
theorem Zdn {σ:St} {B:Bx} {θ:Sto} {H:Hp} {xs:List D} {vs:List V} {Q:VK} (G:Good X.cl B θ H) (r:RepL B H xs vs) (w:wpR X σ RepV B H (.ok (.tup xs) θ) Q):∀p,H p=none→Q (.ref p) (upd H p (.tup vs)):=
  fun p hp=>w B _ _ (ZaO G hp _) (ZcH G hp _) (Zkk G hp r)
theorem ZcP {σ:St} {B:Bx} {θ:Sto} {H:Hp} {xs:List D} {vs:List V} {Q:VK} (G:Good X.cl B θ H) (r:RepL B H xs vs) (w:wpR X σ RepV B H (.ok (.lst xs) θ) Q):∀p,H p=none→Q (.ref p) (upd H p (.lst vs)):=
  fun p hp=>w B _ _ (ZaO G hp _) (ZcH G hp _) (Zkl G hp r)
theorem Zj6 {σ:St} {B:Bx} {θ:Sto} {H:Hp} {xs:List D} {vs:List V} {Q:VK} (G:Good X.cl B θ H) (r:RepL B H xs vs) (w:wpR X σ RepV B H (.ok (.ref θ.length) (θ++[.lst xs])) Q):∀p,H p=none→Q (.ref p) (upd H p (.lst vs)):=
  fun p hp=>w (B.push p) _ _ (Za9 G hp _) (Zb2 G hp ⟨vs,Z3,r.ext (Za9 G hp _).toExtS⟩) ⟨by rw [G.len]; exact Nat.lt_succ_self _,by rw [G.len]; show V.ref p=V.ref (if B.n=B.n then p else B.m B.n); rw [if_pos rfl]⟩
theorem zG {es:List Expr} {fs:AM} {x1} (h:MA X es fs):ME X (.Tuple es x1 pos) (Za4 fs):=by
  refine PE.imp (Zmf h) fun σ H Q h=>?_
  obtain ⟨B,θ,ρ,F,w⟩:=h
  refine zN (Zcw F w) ?_
  rintro xs' H2 ⟨B2,θ2,xs,E2,F2,rxs,w2⟩
  split at w2
  · rename_i hz
    exact ⟨by rw [rxs.len]; exact zg hz,Zdn F2.good rxs w2⟩
  · exact w2.elim
theorem zu {es:List Expr} {fs:AM} (h:MA X es fs):ME X (.List es pos) (ZaH fs):=by
  refine PE.imp (Zgo h) fun σ H Q h=>?_
  obtain ⟨B,θ,ρ,F,w⟩:=h
  refine zN (Zcw F w) ?_
  rintro xs' H2 ⟨B2,θ2,xs,E2,F2,rxs,w2⟩
  split at w2
  · rename_i hz
    exact ⟨by rw [rxs.len]; exact zg hz,ZcP F2.good rxs w2⟩
  · exact w2.elim
theorem ZkM {es:List Expr} {fs:AM} (h:MA X es fs):ME X (.List es pos) (Zlq fs):=by
  refine PE.imp (Zgo h) fun σ H Q h=>?_
  obtain ⟨B,θ,ρ,F,w⟩:=h
  refine zN (Zcw F w) ?_
  rintro xs' H2 ⟨B2,θ2,xs,E2,F2,rxs,w2⟩
  split at w2
  · rename_i hz
    exact ⟨by rw [rxs.len]; exact zg hz,Zj6 F2.good rxs w2⟩
  · exact w2.elim
abbrev GM:=List D→Sto→R D
def mCB (g:GM) (f:AM):EM:=fun ρ θ=>(f ρ θ).bind fun xs θ=>g xs θ
def rC (X:Cx) (g:GM):List V→Hp→VK→Prop:=fun xs H Q=>∃σ B θ ds,Good X.cl B θ H∧RepL B H ds xs∧wpR X σ RepV B H (g ds θ) Q
theorem Zle {g:GM} {fs:AM} (σ:St) (H:Hp) (Q:VK) (h:tM X (mCB g fs) σ H Q):tCB (rC X g) (tMA X fs) σ H Q:=by
  obtain ⟨B,θ,ρ,F,w⟩:=h
  refine zN (Zcw F w) ?_
  rintro xs' H2 ⟨B2,θ2,xs,E2,F2,rxs,w2⟩
  exact ⟨σ,B2,θ2,xs,F2.good,rxs,w2⟩
theorem zx {x:Str} {id:String} {p:Pos} {es:List Expr} {fs:AM} {g:GM} (hc:CallR X (.builtin id) (rC X g)) (hm:X.mg x=none) (hv:bootBuiltins x=some (.builtin id)) (ha:MA X (e::es) fs) (hg:Gl X x:=by rfl) (hn:x≠"__name__":=by decide) (hdb:(x == ("__debug__":Str))=false:=by decide)
    (he:starEach (e::es) X.env=(false,eval e X.env)::starEach es X.env:=by rfl) (hpl:(backTo pos (starEach es X.env)).any (·.1)=false:=by rfl):ME X (.Call (.Name x p) (e::es) [] pos) (mCB g fs):=
  PE.imp (Zi6 hc hg hm hv ha hn hdb he hpl) Zle
theorem Zb0 {x:Str} {T:String} {p:Pos} {es:List Expr} {fs:AM} {g:GM} (hc:CallR X (.type T) (rC X g)) (hm:X.mg x=none) (hv:bootBuiltins x=some (.type T)) (ha:MA X (e::es) fs) (hg:Gl X x:=by rfl) (hn:x≠"__name__":=by decide) (hdb:(x == ("__debug__":Str))=false:=by decide)
    (he:starEach (e::es) X.env=(false,eval e X.env)::starEach es X.env:=by rfl) (hpl:(backTo pos (starEach es X.env)).any (·.1)=false:=by rfl):ME X (.Call (.Name x p) (e::es) [] pos) (mCB g fs):=
  PE.imp (Zhy hc hg hm hv ha hn hdb he hpl) Zle
end
end
end L2.MM
namespace L2.MM
open PySem PySem.Spec PyProof.Rows PySem.SeqAt
noncomputable section
variable {X:Cx}
section
open Classical in
def opI (C:Int→Int→Prop) (g:Int→Int→D):OM:=fun x y θ=>match x,y with
  | .int i,.int j=>if C i j then .ok (g i j) θ else .bad
  | _,_=>.bad
open Classical in
@[simp] theorem ZgV (C:Int→Int→Prop) (g:Int→Int→D) (i j:Int) (θ:Sto):opI C g (.int i) (.int j) θ=if C i j then .ok (g i j) θ else .bad:=nr rfl
open Classical in
theorem Zck {f:Value→Value→Sem Value} {C:Int→Int→Prop} {g:Int→Int→D} {gV:Int→Int→V} (h:OpR X f (rI C gV)) (r:∀B H i j,RepV B H (g i j) (gV i j)):OpR X f (rM X (opI C g)):=by
  refine OpR.imp h fun x y H Q q=>?_
  obtain ⟨σ,B,θ,d,e,G,rd,re,w⟩:=q
  unfold opI at w
  split at w
  · rename_i i j
    split at w
    · rename_i hc
      exact ⟨i,j,rd,re,hc,ZB G (r B H i j) w⟩
    · exact w.elim
  · exact w.elim
theorem ZfS {f:Value→Value→Sem Value} {g:Int→Int→V} (h:OpR X f (rI0 g)):OpR X f (rI (fun _ _=>True) g):=OpR.imp h fun x y H Q ⟨i,j,a,b,_,q⟩=>⟨i,j,a,b,q⟩
abbrev Zci:OM:=opI (fun _ _=>True) fun i j=>.int (i-j)
abbrev ZdQ:OM:=opI (fun _ j=>0<j∧j<18446744073709551616) fun i j=>.int (i/j)
abbrev zR:OM:=opI (fun _ j=>0<j) fun i j=>.int (i % j)
abbrev ltM:OM:=opI (fun _ _=>True) fun i j=>.bl (decide (i<j))
abbrev leM:OM:=opI (fun _ _=>True) fun i j=>.bl (decide (i≤j))
abbrev gtM:OM:=opI (fun _ _=>True) fun i j=>.bl (decide (j<i))
abbrev geM:OM:=opI (fun _ _=>True) fun i j=>.bl (decide (j≤i))
theorem ZbG:OpR X (binaryOp .Sub) (rM X Zci):=Zck (ZfS Zml) fun _ _ _ _=>rfl
theorem Zc7:OpR X (binaryOp .FloorDiv) (rM X ZdQ):=Zck (OpR.imp Zi7 fun x y H Q ⟨i,j,a,b,c,q⟩=>⟨i,j,a,b,⟨c.1,by
  have h:j.natAbs<2 ^ 64:=by have:=c.1; have:=c.2; omega
  have h0:j.natAbs≠0:=by have:=c.1; omega
  have:=(Nat.log2_lt h0).mpr h
  omega⟩,q⟩) fun _ _ _ _=>rfl
theorem zC:OpR X (binaryOp .Mod) (rM X zR):=Zck Zmo fun _ _ _ _=>rfl
theorem ZpV:OpR X (compareOp .Lt) (rM X ltM):=Zck (ZfS ZnN) fun _ _ i j=>by show _=V.bl _; congr
theorem ZpW:OpR X (compareOp .LtE) (rM X leM):=Zck (ZfS ZnO) fun _ _ i j=>by show _=V.bl _; congr
theorem Zgq:OpR X (compareOp .Gt) (rM X gtM):=Zck (ZfS ZnP) fun _ _ i j=>by show _=V.bl _; congr
theorem ZnT:OpR X (compareOp .GtE) (rM X geM):=Zck (ZfS ZnQ) fun _ _ i j=>by show _=V.bl _; congr
def ZN:OM:=fun x y θ=>match x,y with
  | .int i,.int j=>.ok (.int (i+j)) θ
  | .str i,.str j=>if i.length+j.length≤BIG then .ok (.str (i++j)) θ else .bad
  | .tup xs,.tup ys=>if xs.isEmpty=false∧xs.length+ys.length≤BIG then .ok (.tup (xs++ys)) θ else .bad
  | x,y=>match zJ θ x,zJ θ y with
    | some xs,some ys=>if xs.length+ys.length≤BIG then .ok (.lst (xs++ys)) θ else .bad
    | _,_=>.bad
@[simp] theorem ZjZ (i j:Int) (θ:Sto):ZN (.int i) (.int j) θ=.ok (.int (i+j)) θ:=nr rfl
@[simp] theorem ZjY (xs ys:List D) (θ:Sto):ZN (.lst xs) (.lst ys) θ=if xs.length+ys.length≤BIG then .ok (.lst (xs++ys)) θ else .bad:=nr rfl
theorem ZI:OpR X (binaryOp .Add) (rM X ZN):=by
  refine OpR.imp (op_add.or (op_add_str.or (op_catT.or Zmr))) fun x y H Q q=>?_
  obtain ⟨σ,B,θ,d,e,G,rd,re,w⟩:=q
  unfold ZN at w
  split at w
  · exact .inl ⟨_,_,rd,re,ZB G (show RepV B H (.int _) (.int _) from rfl) w⟩
  · split at w
    · rename_i hz
      exact .inr (.inl ⟨_,_,rd,re,zg hz,ZB G (show RepV B H (.str _) (.str _) from rfl) w⟩)
    · exact w.elim
  · split at w
    · rename_i xs ys hz
      obtain ⟨a,vs,rfl,h1,k1,l1⟩:=rd
      obtain ⟨b,us,rfl,h2,k2,l2⟩:=re
      refine .inr (.inr (.inl ⟨a,b,vs,us,rfl,rfl,SqT.of h1,SqT.of h2,?_,?_,fun z=>?_,fun _=>Zdn G (l1.app l2) w⟩))
      · intro z
        have:=l1.emp
        rw [z,hz.1] at this
        simp at this
      · rw [l1.len,l2.len]; exact zg hz.2
      · have e0:ys=[]:=by
          have:=l2.emp
          rw [z] at this
          cases ys with
          | nil=>rfl
          | cons _ _=>simp at this
        subst e0
        rw [List.append_nil] at w
        exact ZB G (show RepV B H (.tup xs) (.ref a) from ⟨a,vs,rfl,h1,k1,l1⟩) w
    · exact w.elim
  · split at w
    · rename_i xs ys e1 e2
      split at w
      · rename_i hz
        obtain ⟨a,vs,rfl,h1,l1⟩:=zp G rd e1
        obtain ⟨b,us,rfl,h2,l2⟩:=zp G re e2
        exact .inr (.inr (.inr ⟨a,b,vs,us,rfl,rfl,h1,h2,by rw [l1.len,l2.len]; exact zg hz,ZcP G (l1.app l2) w⟩))
      · exact w.elim
    · exact w.elim
def Zc5 (i j:Int):Prop:=(-18446744073709551616<i∧i<18446744073709551616)∨(-18446744073709551616<j∧j<18446744073709551616)
instance {i j:Int}:Decidable (Zc5 i j):=by unfold Zc5; infer_instance
def Zcm:OM:=fun x y θ=>match x,y with
  | .int i,.int j=>if Zc5 i j then .ok (.int (i*j)) θ else .bad
  | .tup xs,.int k=>if xs.isEmpty=false∧0≤k∧k<1000∧(xs.length:Int)*k≤1000 then .ok (.tup (List.replicate k.toNat xs).flatten) θ else .bad
  | x,.int k=>match zJ θ x with
    | some xs=>if -1000000≤k∧k≤1000000∧xs.length*k.toNat≤BIG then .ok (.lst (List.replicate k.toNat xs).flatten) θ else .bad
    | _=>.bad
  | _,_=>.bad
@[simp] theorem Zji (i j:Int) (θ:Sto):Zcm (.int i) (.int j) θ=if Zc5 i j then .ok (.int (i*j)) θ else .bad:=nr rfl
theorem RepL.rep {B:Bx} {H:Hp} {xs:List D} {vs:List V} (r:RepL B H xs vs):∀k:Nat,RepL B H (List.replicate k xs).flatten (List.replicate k vs).flatten
  | 0=>rfl
  | k+1=>by
    rw [List.replicate_succ,List.replicate_succ,List.flatten_cons,List.flatten_cons]
    exact r.app (RepL.rep r k)
theorem Zce:OpR X (binaryOp .Mult) (rM X Zcm):=by
  refine OpR.imp (op_mul.or (op_repT.or Zmm)) fun x y H Q q=>?_
  obtain ⟨σ,B,θ,d,e,G,rd,re,w⟩:=q
  unfold Zcm at w
  split at w
  · split at w
    · rename_i hc
      exact .inl ⟨_,_,rd,re,hc.imp (fun h=>⟨by have:=h.1; omega,by have:=h.2; omega⟩) (fun h=>⟨by have:=h.1; omega,by have:=h.2; omega⟩),ZB G (show RepV B H (.int _) (.int _) from rfl) w⟩
    · exact w.elim
  · split at w
    · rename_i xs k hz
      obtain ⟨a,vs,rfl,h1,k1,l1⟩:=rd
      obtain ⟨z1,z2,z3,z4⟩:=hz
      refine .inr (.inl ⟨a,k,vs,rfl,re,SqT.of h1,?_,z2,z3,by rw [l1.len]; exact z4,fun z=>?_,fun _=>Zdn G (l1.rep _) w⟩)
      · intro z
        have:=l1.emp
        rw [z,z1] at this
        simp at this
      · subst z
        have e0:(List.replicate (1:Int).toNat xs).flatten=xs:=by simp
        rw [e0] at w
        exact ZB G (show RepV B H (.tup xs) (.ref a) from ⟨a,vs,rfl,h1,k1,l1⟩) w
    · exact w.elim
  · split at w
    · rename_i xs e1
      split at w
      · rename_i hz
        obtain ⟨a,vs,rfl,h1,l1⟩:=zp G rd e1
        exact .inr (.inr ⟨a,_,vs,rfl,re,h1,by have:=hz.1; omega,by have:=hz.2.1; omega,by rw [l1.len]; exact zg hz.2.2,ZcP G (l1.rep _) w⟩)
      · exact w.elim
    · exact w.elim
  · exact w.elim
def ZpY (f:EM):EM:=fun ρ θ=>(f ρ θ).bind fun x θ=>match x with
  | .int i=>.ok (.int (-i)) θ
  | _=>.bad
mutual
def dat:D→PyData
  | .bl b=>.bool b
  | .int i=>.int i
  | .str x=>.str x
  | .tup xs=>.tuple (ZbL xs)
  | .lst xs=>.list (ZbL xs)
  | _=>.none
def ZbL:List D→List PyData
  | []=>[]
  | d::r=>dat d::ZbL r
end
mutual
def plain:D→Bool
  | .non=>true
  | .bl _=>true
  | .int _=>true
  | .str _=>true
  | .tup xs=>z6 xs
  | .lst xs=>z6 xs
  | _=>false
def z6:List D→Bool
  | []=>true
  | d::r=>plain d && z6 r
end
mutual
theorem rdv {B:Bx} {H:Hp} {K:PySem.W.Frag}:∀{d:D} {v:V},plain d=true→RepV B H d v→RdV K H v (dat d)
  | .non,_,_,r=>by cases (show _=V.non from r); exact .non
  | .bl b,_,_,r=>by cases (show _=V.bl b from r); exact .bl b
  | .int i,_,_,r=>by cases (show _=V.int i from r); exact .int i
  | .str x,_,_,r=>by cases (show _=V.str x from r); exact .str x
  | .tup xs,_,p,r=>by
    obtain ⟨a,vs,rfl,h,_,l⟩:=r
    exact .tup (SqT.of h) (Zkm p l)
  | .lst xs,_,p,r=>by
    obtain ⟨a,vs,rfl,h,_,l⟩:=r
    exact .lst (SqL.of h) (Zkm p l)
  | .ty _,_,p,_=>nomatch p
  | .scr _,_,p,_=>nomatch p
  | .ref _,_,p,_=>nomatch p
theorem Zkm {B:Bx} {H:Hp} {K:PySem.W.Frag}:∀{ds:List D} {vs:List V},z6 ds=true→RepL B H ds vs→RdVs K H vs (ZbL ds)
  | [],_,_,r=>by cases (show _=[] from r); exact .nil
  | d::ds,_,p,r=>by
    obtain ⟨v,q,rfl,hv,hq⟩:=r
    have p':plain d=true∧z6 ds=true:=by simpa [z6] using p
    exact .cons (rdv p'.1 hv) (Zkm p'.2 hq)
end
mutual
theorem ZfP:∀{d e:D},plain d=true→plain e=true→(same (dat d) (dat e)=true↔d=e):=fun {d e} p q=>by
  cases d with
  | ty _=>exact nomatch p
  | scr _=>exact nomatch p
  | ref _=>exact nomatch p
  | non=>cases e<;>simp_all [plain,dat,same]
  | bl _=>cases e<;>simp_all [plain,dat,same]
  | int _=>cases e<;>simp_all [plain,dat,same]
  | str _=>cases e<;>simp_all [plain,dat,same]
  | tup xs=>
    cases e with
    | tup ys=>
      simp only [dat,same,D.tup.injEq]
      exact ZcR p q
    | ty _=>exact nomatch q
    | scr _=>exact nomatch q
    | ref _=>exact nomatch q
    | _=>simp [dat,same]
  | lst xs=>
    cases e with
    | lst ys=>
      simp only [dat,same,D.lst.injEq]
      exact ZcR p q
    | ty _=>exact nomatch q
    | scr _=>exact nomatch q
    | ref _=>exact nomatch q
    | _=>simp [dat,same]
theorem ZcR:∀{ds es:List D},z6 ds=true→z6 es=true→(sameAll (ZbL ds) (ZbL es)=true↔ds=es)
  | [],[],_,_=>by simp [ZbL,sameAll]
  | [],_::_,_,_=>by simp [ZbL,sameAll]
  | _::_,[],_,_=>by simp [ZbL,sameAll]
  | d::ds,e::es,p,q=>by
    have p':plain d=true∧z6 ds=true:=by simpa [z6] using p
    have q':plain e=true∧z6 es=true:=by simpa [z6] using q
    simp only [ZbL,sameAll,Bool.and_eq_true,List.cons.injEq]
    rw [ZfP p'.1 q'.1,ZcR p'.2 q'.2]
end
def look (θ:Sto) (d:D):D:=match d with
  | .ref l=>match θ[l]? with
    | some (.lst xs)=>.lst xs
    | _=>.ref l
  | d=>d
theorem ZcE {B:Bx} {θ:Sto} {H:Hp} {K:PySem.W.Frag} (G:Good X.cl B θ H) {d:D} {v:V} (r:RepV B H d v) (p:plain (look θ d)=true):RdV K H v (dat (look θ d)):=by
  cases d with
  | ref l=>
    unfold look at p ⊢
    simp only at p ⊢
    split at p
    · rename_i xs e
      obtain ⟨hl,rfl⟩:=r
      obtain ⟨vs,h1,h2⟩:=G.cel l _ e
      exact .lst (SqL.of h1) (Zkm p h2)
    · exact nomatch p
  | _=>exact rdv p r
structure Zgh (x y:D):Prop where
  px:plain x=true
  py:plain y=true
  sx:shaped (dat x)=true
  sy:shaped (dat y)=true
  nm:noMix (dat x) (dat y)=true
open Classical in
def eqM:OM:=fun x y θ=>if Zgh (look θ x) (look θ y) then .ok (.bl (decide (look θ x=look θ y))) θ else .bad
open Classical in
def neM:OM:=fun x y θ=>if Zgh (look θ x) (look θ y) then .ok (.bl (!decide (look θ x=look θ y))) θ else .bad
open Classical in
theorem ZfQ {d e:D} (p:plain d=true) (q:plain e=true):same (dat d) (dat e)=decide (d=e):=by
  rw [Bool.eq_iff_iff,ZfP p q,decide_eq_true_iff]
open Classical in
theorem ZcT (hu:X.A.units+64<cLine):OpR X (compareOp .Eq) (rM X eqM):=by
  refine OpR.imp (Zmq hu) fun x y H Q q=>?_
  obtain ⟨σ,B,θ,d,e,G,rd,re,w⟩:=q
  unfold eqM at w
  split at w
  · rename_i c
    refine ⟨_,_,ZcE G rd c.px,ZcE G re c.py,c.sx,c.sy,c.nm,?_⟩
    rw [ZfQ c.px c.py]
    exact ZB G (show RepV B H (.bl _) (.bl _) from rfl) w
  · exact w.elim
open Classical in
theorem ZfW (hu:X.A.units+64<cLine):OpR X (compareOp .NotEq) (rM X neM):=by
  refine OpR.imp (Zmn hu) fun x y H Q q=>?_
  obtain ⟨σ,B,θ,d,e,G,rd,re,w⟩:=q
  unfold neM at w
  split at w
  · rename_i c
    refine ⟨_,_,ZcE G rd c.px,ZcE G re c.py,c.sx,c.sy,c.nm,?_⟩
    rw [ZfQ c.px c.py]
    exact ZB G (show RepV B H (.bl _) (.bl _) from rfl) w
  · exact w.elim
def Ze7:List D→Bool
  | []=>true
  | .int _::r=>Ze7 r
  | _=>false
def Zd4:List D→Bool
  | []=>true
  | .str _::r=>Zd4 r
  | _=>false
def memI (i:Int):List D→Bool
  | .int j::r=>decide (j=i) || memI i r
  | _=>false
def memS (x:Str):List D→Bool
  | .str y::r=>decide (y=x) || memS x r
  | _=>false
def inD (θ:Sto) (x y:D):Option Bool:=match seqOf θ y with
  | none=>none
  | some ys=>match x with
    | .int i=>if Ze7 ys=true then some (memI i ys) else none
    | .str z=>if Zd4 ys=true then some (memS z ys) else none
    | _=>none
def inM:OM:=fun x y θ=>match inD θ x y with
  | some k=>.ok (.bl k) θ
  | none=>.bad
theorem Zdf {B:Bx} {H:Hp}:∀{ys:List D} {vs:List V},Ze7 ys=true→RepL B H ys vs→vs.all ZaN=true∧∀i:Int,inV (.int i) vs=memI i ys
  | [],_,_,r=>by cases (show _=[] from r); exact ⟨rfl,fun _=>rfl⟩
  | d::ys,_,h,r=>by
    cases d with
    | int j=>
      obtain ⟨v,q,rfl,hv,hq⟩:=r
      cases (show v=V.int j from hv)
      obtain ⟨h1,h2⟩:=Zdf (show Ze7 ys=true from h) hq
      refine ⟨by simp [ZaN] at h1 ⊢; exact h1,fun i=>?_⟩
      have:=h2 i
      unfold inV at this ⊢
      rw [List.any_cons,this]
      show (j == i || memI i ys)=(decide (j=i) || memI i ys)
      rw [Bool.beq_eq_decide_eq]
    | _=>exact nomatch h
theorem Zde {B:Bx} {H:Hp}:∀{ys:List D} {vs:List V},Zd4 ys=true→RepL B H ys vs→vs.all ZaN=true∧∀i:Str,inV (.str i) vs=memS i ys
  | [],_,_,r=>by cases (show _=[] from r); exact ⟨rfl,fun _=>rfl⟩
  | d::ys,_,h,r=>by
    cases d with
    | str j=>
      obtain ⟨v,q,rfl,hv,hq⟩:=r
      cases (show v=V.str j from hv)
      obtain ⟨h1,h2⟩:=Zde (show Zd4 ys=true from h) hq
      refine ⟨by simp [ZaN] at h1 ⊢; exact h1,fun i=>?_⟩
      have:=h2 i
      unfold inV at this ⊢
      rw [List.any_cons,this]
      show (j == i || memS i ys)=(decide (j=i) || memS i ys)
      rw [Bool.beq_eq_decide_eq]
    | _=>exact nomatch h
theorem ZmE {cl:Mo} {B:Bx} {θ:Sto} {H:Hp} (G:Good cl B θ H) {d e:D} {x y:V} {k:Bool} (rd:RepV B H d x) (re:RepV B H e y) (h:inD θ d e=some k) :
    ∃p xs,y=.ref p∧(SqL cl.K H p xs∨SqT cl.K H p xs)∧ZaN x=true∧xs.all ZaN=true∧inV x xs=k:=by
  unfold inD at h
  split at h
  · cases h
  · rename_i ys e1
    obtain ⟨a,vs,rfl,h1,h2⟩:=ZaA G re e1
    split at h
    · split at h
      · rename_i i hz
        cases h
        cases (show x=V.int i from rd)
        obtain ⟨q1,q2⟩:=Zdf hz h2
        exact ⟨a,vs,rfl,h1,rfl,q1,q2 i⟩
      · cases h
    · split at h
      · rename_i i hz
        cases h
        cases (show x=V.str i from rd)
        obtain ⟨q1,q2⟩:=Zde hz h2
        exact ⟨a,vs,rfl,h1,rfl,q1,q2 i⟩
      · cases h
    · cases h
theorem Zjc:OpR X (compareOp .In) (rM X inM):=by
  refine OpR.imp Zhz fun x y H Q q=>?_
  obtain ⟨σ,B,θ,d,e,G,rd,re,w⟩:=q
  unfold inM at w
  split at w
  · rename_i k e1
    obtain ⟨p,xs,h1,h2,h3,h4,h5⟩:=ZmE G rd re e1
    exact ⟨p,xs,h1,h2,h3,h4,by rw [h5]; exact ZB G (show RepV B H (.bl _) (.bl _) from rfl) w⟩
  · exact w.elim
def z8:D→Bool
  | .non=>true
  | _=>false
theorem Zf8 {B:Bx} {H:Hp} {d:D} {v:V} (r:RepV B H d v):z8 d=decide (v=.non):=by
  cases d with
  | non=>cases (show v=.non from r); simp [z8]
  | bl b=>cases (show v=.bl b from r); simp [z8]
  | int i=>cases (show v=.int i from r); simp [z8]
  | str x=>cases (show v=.str x from r); simp [z8]
  | ty n=>cases (show v=.ty n from r); simp [z8]
  | scr ns=>obtain ⟨a,rfl,_⟩:=r; simp [z8]
  | tup xs=>obtain ⟨a,o,rfl,_⟩:=r; simp [z8]
  | lst xs=>obtain ⟨a,o,rfl,_⟩:=r; simp [z8]
  | ref l=>obtain ⟨_,rfl⟩:=r; simp [z8]
def isM:OM:=fun x y θ=>match y with
  | .non=>.ok (.bl (z8 x)) θ
  | .bl c=>match x with
    | .bl b=>.ok (.bl (b == c)) θ
    | _=>.bad
  | _=>.bad
def ZcY:OM:=fun x y θ=>match y with
  | .non=>.ok (.bl (!z8 x)) θ
  | .bl c=>match x with
    | .bl b=>.ok (.bl (!(b == c))) θ
    | _=>.bad
  | _=>.bad
theorem Zmp:OpR X (compareOp .Is) (fun x y H Q=>∃b c:Bool,x=.bl b∧y=.bl c∧Q (.bl (b == c)) H):=by
  intro pins s σ H x y v u Q I rx ry h
  obtain ⟨b,c,rfl,rfl,q⟩:=h
  cases rx
  cases ry
  have e:(Value.bool b == Value.bool c)=(b == c):=by cases b<;>cases c<;>rfl
  exact wpAny_is_plain rfl ⟨.bl _,H,I,rfl,by rw [e]; exact q⟩
theorem ZkH:OpR X (compareOp .Is) (rM X isM):=by
  refine OpR.imp (op_isN.or Zmp) fun x y H Q q=>?_
  obtain ⟨σ,B,θ,d,e,G,rd,re,w⟩:=q
  unfold isM at w
  split at w
  · refine .inl ⟨re,?_⟩
    have q:=ZB G (show RepV B H (.bl _) (.bl _) from rfl) w
    rw [Zf8 rd] at q
    exact q
  · split at w
    · exact .inr ⟨_,_,rd,re,ZB G (show RepV B H (.bl _) (.bl _) from rfl) w⟩
    · exact w.elim
  · exact w.elim
theorem ZeP:OpR X (compareOp .IsNot) (rM X ZcY):=by
  refine OpR.imp (op_notN.or ZkD) fun x y H Q q=>?_
  obtain ⟨σ,B,θ,d,e,G,rd,re,w⟩:=q
  unfold ZcY at w
  split at w
  · refine .inl ⟨re,?_⟩
    have q:=ZB G (show RepV B H (.bl _) (.bl _) from rfl) w
    rw [Zf8 rd] at q
    exact q
  · split at w
    · exact .inr ⟨_,_,rd,re,ZB G (show RepV B H (.bl _) (.bl _) from rfl) w⟩
    · exact w.elim
  · exact w.elim
end
end
end L2.MM
namespace L2.MM
open PySem PySem.Spec PyProof.Rows PySem.SeqAt
noncomputable section
variable {X:Cx}
section
def ixD (θ:Sto) (x:D) (i:Int):Option D:=match x with
  | .str z=>if z.length≤BIG then (atI z.cps.toList i).map fun c=>.str ⟨#[c]⟩ else none
  | x=>(seqOf θ x).bind (atI · i)
def ixM:OM:=fun x y θ=>match y with
  | .int i=>match ixD θ x i with
    | some d=>.ok d θ
    | none=>.bad
  | _=>.bad
theorem RepL.atI {B:Bx} {H:Hp} {xs:List D} {vs:List V} {i:Int} {d:D} (r:RepL B H xs vs) (h:atI xs i=some d):∃v,atI vs i=some v∧RepV B H d v:=by
  unfold L2.atI at h ⊢
  rw [r.len]
  cases e:ixN xs.length i with
  | none=>rw [e] at h; cases h
  | some j=>
    rw [e] at h
    exact r.get h
theorem zc:IxR X (rM X ixM):=by
  refine IxR.imp ZmC fun x y H Q q=>?_
  obtain ⟨σ,B,θ,d,e,G,rd,re,w⟩:=q
  unfold ixM at w
  split at w
  · rename_i i
    split at w
    · rename_i r e1
      have sq:(seqOf θ d).bind (L2.atI · i)=some r→rIx X.K x y H Q:=fun h=>by
        cases e2:seqOf θ d with
        | none=>rw [e2] at h; cases h
        | some xs=>
          rw [e2] at h
          obtain ⟨a,vs,rfl,h1,h2⟩:=ZaA G rd e2
          obtain ⟨v,h3,h4⟩:=h2.atI h
          have q:=ZB G h4 w
          rcases h1 with h1 | h1
          · exact .inl ⟨a,vs,i,v,rfl,re,h1,h3,q⟩
          · exact .inr (.inl ⟨a,vs,i,v,rfl,re,h1,h3,q⟩)
      cases d with
      | str z=>
        simp only [ixD] at e1
        split at e1
        · rename_i hz
          cases e2:L2.atI z.cps.toList i with
          | none=>rw [e2] at e1; cases e1
          | some c=>
            rw [e2] at e1
            cases e1
            exact .inr (.inr ⟨z,i,c,rd,re,zg hz,e2,ZB G (show RepV B H (.str _) (.str _) from rfl) w⟩)
        · cases e1
      | non=>exact sq e1
      | bl _=>exact sq e1
      | int _=>exact sq e1
      | ty _=>exact sq e1
      | scr _=>exact sq e1
      | tup _=>exact sq e1
      | lst _=>exact sq e1
      | ref _=>exact sq e1
    · exact w.elim
  · exact w.elim
abbrev PM:=List Sl→Sto→R (Option Int)
def EqO (_:Bx) (_:Hp) (a b:Option Int):Prop:=a=b
def tMO (X:Cx) (f:PM):TO:=fun σ H Q=>∃B θ ρ,Frm X.cl B θ ρ σ H∧wpR X σ EqO B H (f ρ θ) Q
def MO (X:Cx) (e:Option Expr) (f:PM):Prop:=PO X e (tMO X f)
theorem ZbB {f:PM} {σ:St} {H:Hp} {Q Q':Option Int→Hp→Prop} (h:tMO X f σ H Q) (hQ:∀v H',Q v H'→Q' v H'):tMO X f σ H Q':=let ⟨B,θ,ρ,F,w⟩:=h; ⟨B,θ,ρ,F,w.mono hQ⟩
theorem ZfO {σ:St} {H:Hp} {γ δ:Type} {Rel':Bx→Hp→γ→δ→Prop} {B:Bx} {θ:Sto} {ρ:List Sl} {f:PM} {k:Option Int→Sto→R γ} {Q:δ→Hp→Prop} (F:Frm X.cl B θ ρ σ H) (h:wpR X σ Rel' B H ((f ρ θ).bind k) Q) :
    tMO X f σ H (fun c H1=>∃B1 θ1,ExtE B B1 H H1∧Frm X.cl B1 θ1 ρ σ H1∧wpR X σ Rel' B1 H1 (k c θ1) Q):=
  ⟨B,θ,ρ,F,(wpR.bind (Rel:=EqO) h).mono fun v H1 ⟨B1,θ1,d,E,G,r,w⟩=>by cases (show d=v from r); exact ⟨B1,θ1,E,F.ext E G,w⟩⟩
def Zam:PM:=fun _ θ=>.ok none θ
def ZaK (f:EM):PM:=fun ρ θ=>(f ρ θ).bind fun x θ=>match x with
  | .int i=>.ok (some i) θ
  | _=>.bad
theorem PO.imp {e:Option Expr} {t t':TO} (h:PO X e t) (hi:∀σ H Q,t' σ H Q→t σ H Q):PO X e t':=fun pins s σ H Q I q=>h pins s σ H Q I (hi σ H Q q)
theorem ZbZ:MO X none Zam:=PO.imp Zkw fun σ H Q h=>by
  obtain ⟨B,θ,ρ,F,w⟩:=h
  exact ZB (Rel:=EqO) F.good rfl w
theorem Zal {e:Expr} {f:EM} (h:ME X e f):MO X (some e) (ZaK f):=PO.imp (Zkv h) fun σ H Q h=>by
  obtain ⟨B,θ,ρ,F,w⟩:=h
  refine ZP (step F w) ?_
  rintro v H1 ⟨B1,θ1,x,E1,F1,rx,w1⟩
  cases x with
  | int i=>exact ⟨i,rx,ZB (Rel:=EqO) F1.good rfl w1⟩
  | _=>exact w1.elim
def Zbr {α:Type} (xs:List α) (lo hi:Option Int):List α:=(xs.drop (HT.sIx xs.length 0 lo)).take (HT.sIx xs.length xs.length hi-HT.sIx xs.length 0 lo)
theorem RepL.cut {B:Bx} {H:Hp} {xs:List D} {vs:List V} (r:RepL B H xs vs) (lo hi:Option Int):RepL B H (Zbr xs lo hi) (Zgc vs lo hi):=by
  unfold Zbr Zgc
  rw [r.len]
  exact (r.drop _).take _
def Zcj (θ:Sto) (x:D) (lo hi:Option Int):Option D:=match x with
  | .tup xs=>if HT.sIx xs.length 0 lo=0∧HT.sIx xs.length xs.length hi=xs.length then none else some (.tup (Zbr xs lo hi))
  | x=>(zJ θ x).map fun xs=>.lst (Zbr xs lo hi)
def mSl (f:EM) (lo hi:PM):EM:=fun ρ θ=>(f ρ θ).bind fun x θ=>(lo ρ θ).bind fun l θ=>(hi ρ θ).bind fun h θ=>match Zcj θ x l h with
  | some d=>.ok d θ
  | none=>.bad
theorem ZbJ {e:Expr} {lo hi:Option Expr} {f:EM} {fl fh:PM} {pos p2:Pos} (he:ME X e f) (hl:MO X lo fl) (hh:MO X hi fh):ME X (.Subscript e (.Slice lo hi none p2) pos) (mSl f fl fh):=by
  refine PE.imp (ZiZ (sl_list.or ZlV) he hl hh) fun σ H Q h=>?_
  obtain ⟨B,θ,ρ,F,w⟩:=h
  refine ZP (step F w) ?_
  rintro v H1 ⟨B1,θ1,x,E1,F1,rx,w1⟩
  refine ZbB (ZfO F1 w1) ?_
  rintro l H2 ⟨B2,θ2,E2,F2,w2⟩
  refine ZbB (ZfO F2 w2) ?_
  rintro u H3 ⟨B3,θ3,E3,F3,w3⟩
  have rx3:=rx.ext (E2.trans E3).toExtS
  have lst:∀d,(zJ θ3 x).map (fun xs=>D.lst (Zbr xs l u))=some d→wpR X σ RepV B3 H3 (R.ok d θ3) Q→Znz X.K v l u H3 Q:=fun d h w=>by
    cases e2:zJ θ3 x with
    | none=>rw [e2] at h; cases h
    | some xs=>
      rw [e2] at h
      cases h
      obtain ⟨a,vs,rfl,h1,h2⟩:=zp F3.good rx3 e2
      exact ⟨a,vs,rfl,SqL.of h1,ZcP F3.good (h2.cut l u) w⟩
  split at w3
  · rename_i d e1
    cases x with
    | tup xs=>
      simp only [Zcj] at e1
      split at e1
      · cases e1
      · rename_i hw
        cases e1
        obtain ⟨a,vs,rfl,h1,k1,l1⟩:=rx3
        exact .inr ⟨a,vs,rfl,SqT.of h1,by rw [l1.len]; exact hw,Zdn F3.good (l1.cut l u) w3⟩
    | non=>exact .inl (lst d e1 w3)
    | bl _=>exact .inl (lst d e1 w3)
    | int _=>exact .inl (lst d e1 w3)
    | str _=>exact .inl (lst d e1 w3)
    | ty _=>exact .inl (lst d e1 w3)
    | scr _=>exact .inl (lst d e1 w3)
    | lst _=>exact .inl (lst d e1 w3)
    | ref _=>exact .inl (lst d e1 w3)
  · exact w3.elim
def Za2 {α:Type} (xs:List α) (lo hi st:Option Int):List α:=(sliceRange (sliceBounds lo hi st xs.length).1 (sliceBounds lo hi st xs.length).2.1 (sliceBounds lo hi st xs.length).2.2).filterMap (xs[·]?)
theorem RepL.none_of:∀{B:Bx} {H:Hp} {xs:List D} {vs:List V} {i:Nat},RepL B H xs vs→xs[i]?=none→vs[i]?=none:=fun {B H xs vs i} r e=>by
  have h1:=r.len
  have h2:xs.length≤i:=List.getElem?_eq_none_iff.mp e
  exact List.getElem?_eq_none_iff.mpr (by omega)
theorem RepL.pick {B:Bx} {H:Hp} {xs:List D} {vs:List V} (r:RepL B H xs vs):∀ks:List Nat,RepL B H (ks.filterMap (xs[·]?)) (ks.filterMap (vs[·]?))
  | []=>rfl
  | k::ks=>by
    cases e:xs[k]? with
    | none=>rw [List.filterMap_cons_none e,List.filterMap_cons_none (r.none_of e)]; exact r.pick ks
    | some x=>
      obtain ⟨u,e',q⟩:=r.get e
      rw [List.filterMap_cons_some e,List.filterMap_cons_some e']
      exact ⟨_,_,rfl,q,r.pick ks⟩
def ZkO (f:EM) (lo hi st:PM):EM:=fun ρ θ=>(f ρ θ).bind fun x θ=>(lo ρ θ).bind fun l θ=>(hi ρ θ).bind fun h θ=>(st ρ θ).bind fun s θ=>match zJ θ x with
  | some xs=>if s≠some 0∧(Za2 xs l h s).length≤BIG then .ok (.lst (Za2 xs l h s)) θ else .bad
  | none=>.bad
theorem Zeo {e sp:Expr} {lo hi:Option Expr} {f:EM} {fl fh fs:PM} {pos p2:Pos} (he:ME X e f) (hl:MO X lo fl) (hh:MO X hi fh) (hs:MO X (some sp) fs):ME X (.Subscript e (.Slice lo hi (some sp) p2) pos) (ZkO f fl fh fs):=by
  refine PE.imp (Zhx he hl hh hs) fun σ H Q h=>?_
  obtain ⟨B,θ,ρ,F,w⟩:=h
  refine ZP (step F w) ?_
  rintro v H1 ⟨B1,θ1,x,E1,F1,rx,w1⟩
  refine ZbB (ZfO F1 w1) ?_
  rintro l H2 ⟨B2,θ2,E2,F2,w2⟩
  refine ZbB (ZfO F2 w2) ?_
  rintro u H3 ⟨B3,θ3,E3,F3,w3⟩
  refine ZbB (ZfO F3 w3) ?_
  rintro s H4 ⟨B4,θ4,E4,F4,w4⟩
  split at w4
  · rename_i xs e1
    split at w4
    · rename_i hz
      obtain ⟨a,vs,rfl,h1,h2⟩:=zp F4.good (rx.ext ((E2.trans E3).trans E4).toExtS) e1
      have p:RepL B4 H4 (Za2 xs l u s) (ZbC vs l u s):=by
        unfold Za2 ZbC
        rw [h2.len]
        exact h2.pick _
      exact ⟨a,vs,rfl,SqL.of h1,hz.1,by rw [p.len]; exact zg hz.2,ZcP F4.good p w4⟩
    · exact w4.elim
  · exact w4.elim
def Zdh:GM:=fun ds θ=>match ds with
  | [.str z]=>if z.length≤BIG then .ok (.int z.length) θ else .bad
  | [d]=>match seqOf θ d with
    | some xs=>.ok (.int xs.length) θ
    | none=>.bad
  | _=>.bad
theorem RepL.one {B:Bx} {H:Hp} {d:D} {vs:List V} (r:RepL B H [d] vs):∃v,vs=[v]∧RepV B H d v:=by
  obtain ⟨v,q,rfl,hv,hq⟩:=r
  cases (show q=[] from hq)
  exact ⟨v,rfl,hv⟩
theorem RepL.two {B:Bx} {H:Hp} {d e:D} {vs:List V} (r:RepL B H [d,e] vs):∃v u,vs=[v,u]∧RepV B H d v∧RepV B H e u:=by
  obtain ⟨v,q,rfl,hv,hq⟩:=r
  obtain ⟨u,rfl,hu⟩:=hq.one
  exact ⟨v,u,rfl,hv,hu⟩
theorem Zeu:CallR X (.builtin "len") (rC X Zdh):=by
  refine CallR.imp (call_len_str.or Ze4) fun vs H Q q=>?_
  obtain ⟨σ,B,θ,ds,G,r,w⟩:=q
  unfold Zdh at w
  split at w
  · split at w
    · rename_i z hz
      obtain ⟨v,rfl,rv⟩:=r.one
      cases (show v=V.str z from rv)
      exact .inl ⟨z,rfl,zg hz,ZB G (show RepV B H (.int _) (.int _) from rfl) w⟩
    · exact w.elim
  · split at w
    · rename_i xs e1
      obtain ⟨v,rfl,rv⟩:=r.one
      obtain ⟨a,us,rfl,h1,h2⟩:=ZaA G rv e1
      exact .inr ⟨a,us,rfl,h1,by rw [h2.len]; exact ZB G (show RepV B H (.int _) (.int _) from rfl) w⟩
    · exact w.elim
  · exact w.elim
def ZcF:List D→Option (List Int)
  | []=>some []
  | .int i::r=>(ZcF r).map (i::·)
  | _=>none
@[simp] theorem Zjv (ns:List Int):ZcF (ns.map D.int)=some ns:=by
  induction ns with
  | nil=>rfl
  | cons n r ih=>simp [ZcF,ih]
theorem Zhd:∀{ds:List D} {ns:List Int},ZcF ds=some ns→ds=ns.map D.int
  | [],_,h=>by cases h; rfl
  | d::r,ns,h=>by
    cases d with
    | int i=>
      simp only [ZcF] at h
      cases e:ZcF r with
      | none=>rw [e] at h; cases h
      | some ms=>rw [e] at h; cases h; rw [Zhd e]; rfl
    | _=>cases h
theorem Zf9 {B:Bx} {H:Hp}:∀{ns:List Int} {vs:List V},RepL B H (ns.map D.int) vs→vs=ns.map V.int
  | [],_,r=>r
  | n::ns,_,r=>by
    obtain ⟨v,q,rfl,hv,hq⟩:=r
    cases (show v=V.int n from hv)
    rw [Zf9 hq]; rfl
def Zhq:GM:=fun ds θ=>match ds with
  | [d]=>match (zJ θ d).bind ZcF with
    | some ns=>.ok (.int ns.sum) θ
    | none=>.bad
  | _=>.bad
theorem Zlx (hc:X.calm=true:=by rfl):CallR X (.builtin "sum") (rC X Zhq):=by
  refine CallR.imp (ZjU hc) fun vs H Q q=>?_
  obtain ⟨σ,B,θ,ds,G,r,w⟩:=q
  unfold Zhq at w
  split at w
  · rename_i d
    split at w
    · rename_i ns e1
      obtain ⟨v,rfl,rv⟩:=r.one
      cases e2:zJ θ d with
      | none=>rw [e2] at e1; cases e1
      | some xs=>
        rw [e2] at e1
        obtain ⟨a,us,rfl,h1,h2⟩:=zp G rv e2
        rw [Zhd (show ZcF xs=some ns from e1)] at h2
        rw [Zf9 h2] at h1
        exact ⟨a,ns,rfl,SqL.of h1,ZB G (show RepV B H (.int _) (.int _) from rfl) w⟩
    · exact w.elim
  · exact w.elim
def Zf3:GM:=fun ds θ=>match ds with
  | [.int i,.int j]=>.ok (.int (if j<i then j else i)) θ
  | [.int i,.int j,.int k]=>.ok (.int (if j<i then (if k<j then k else j) else (if k<i then k else i))) θ
  | _=>.bad
theorem RepL.three {B:Bx} {H:Hp} {d e f:D} {vs:List V} (r:RepL B H [d,e,f] vs):∃v u w,vs=[v,u,w]∧RepV B H d v∧RepV B H e u∧RepV B H f w:=by
  obtain ⟨v,q,rfl,hv,hq⟩:=r
  obtain ⟨u,w,rfl,hu,hw⟩:=hq.two
  exact ⟨v,u,w,rfl,hv,hu,hw⟩
theorem ZhP (hc:X.calm=true):CallR X (.builtin "min") (fun xs H Q=>∃i j k,xs=[.int i,.int j,.int k]∧Q (.int (if j<i then (if k<j then k else j) else (if k<i then k else i))) H):=by
  intro pins s σ H xs us Q I r h
  obtain ⟨i,j,k,rfl,q⟩:=h
  cases r with
  | cons r1 rr=>
    obtain ⟨u2,u3,e,r2,r3⟩:=Zla rr
    subst e
    obtain ⟨t1,rfl⟩:=r1
    obtain ⟨t2,rfl⟩:=r2
    obtain ⟨t3,rfl⟩:=r3
    refine min_three_ints (I.ok.hd hc) fun h' tk kk=>⟨_,H,I.kept kk,?_,q⟩
    by_cases c1:j<i
    · by_cases c2:k<j
      · simp only [c1,c2,if_true]; exact ⟨_,rfl⟩
      · simp only [c1,c2,if_true,if_false]; exact ⟨_,rfl⟩
    · by_cases c2:k<i
      · simp only [c1,c2,if_true,if_false]; exact ⟨_,rfl⟩
      · simp only [c1,c2,if_false]; exact ⟨_,rfl⟩
theorem Zhi (hc:X.calm=true:=by rfl):CallR X (.builtin "min") (rC X Zf3):=by
  refine CallR.imp ((ZhQ hc).or (ZhP hc)) fun vs H Q q=>?_
  obtain ⟨σ,B,θ,ds,G,r,w⟩:=q
  unfold Zf3 at w
  split at w
  · rename_i i j
    obtain ⟨v,u,rfl,rv,ru⟩:=r.two
    cases (show v=V.int i from rv)
    cases (show u=V.int j from ru)
    exact .inl ⟨i,j,rfl,ZB G (show RepV B H (.int _) (.int _) from rfl) w⟩
  · rename_i i j k
    obtain ⟨v,u,z,rfl,rv,ru,rz⟩:=r.three
    cases (show v=V.int i from rv)
    cases (show u=V.int j from ru)
    cases (show z=V.int k from rz)
    exact .inr ⟨i,j,k,rfl,ZB G (show RepV B H (.int _) (.int _) from rfl) w⟩
  · exact w.elim
def ZkU:GM:=fun ds θ=>match ds with
  | [.int i]=>.ok (.int i) θ
  | [.bl k]=>.ok (.int (if k then 1 else 0)) θ
  | _=>.bad
theorem Zoi:CallR X (.type "int") (rC X ZkU):=by
  refine CallR.imp ZhR fun vs H Q q=>?_
  obtain ⟨σ,B,θ,ds,G,r,w⟩:=q
  unfold ZkU at w
  split at w
  · rename_i i
    obtain ⟨v,rfl,rv⟩:=r.one
    cases (show v=V.int i from rv)
    exact .inl ⟨i,rfl,ZB G (show RepV B H (.int _) (.int _) from rfl) w⟩
  · rename_i k
    obtain ⟨v,rfl,rv⟩:=r.one
    cases (show v=V.bl k from rv)
    exact .inr ⟨k,rfl,ZB G (show RepV B H (.int _) (.int _) from rfl) w⟩
  · exact w.elim
def Zf7:GM:=fun ds θ=>match ds with
  | [d]=>match seqOf θ d with
    | some xs=>.ok (.lst xs) θ
    | none=>.bad
  | _=>.bad
theorem ZjV:CallR X (.type "list") (rC X Zf7):=by
  refine CallR.imp Ze3 fun vs H Q q=>?_
  obtain ⟨σ,B,θ,ds,G,r,w⟩:=q
  unfold Zf7 at w
  split at w
  · split at w
    · rename_i xs e1
      obtain ⟨v,rfl,rv⟩:=r.one
      obtain ⟨a,us,rfl,h1,h2⟩:=ZaA G rv e1
      exact ⟨a,us,rfl,h1,ZcP G h2 w⟩
    · exact w.elim
  · exact w.elim
def ZeG:GM:=fun ds θ=>match ds with
  | [.tup xs]=>.ok (.tup xs) θ
  | [d]=>match zJ θ d with
    | some xs=>.ok (.tup xs) θ
    | none=>.bad
  | _=>.bad
theorem Zk0:CallR X (.type "tuple") (rC X ZeG):=by
  refine CallR.imp Zeb fun vs H Q q=>?_
  obtain ⟨σ,B,θ,ds,G,r,w⟩:=q
  unfold ZeG at w
  split at w
  · rename_i xs
    obtain ⟨v,rfl,rv⟩:=r.one
    obtain ⟨a,us,rfl,h1,k1,l1⟩:=id rv
    exact ⟨a,us,rfl,.inr ⟨SqT.of h1,ZB G rv w⟩⟩
  · split at w
    · rename_i xs e1
      obtain ⟨v,rfl,rv⟩:=r.one
      obtain ⟨a,us,rfl,h1,h2⟩:=zp G rv e1
      exact ⟨a,us,rfl,.inl ⟨SqL.of h1,Zdn G h2 w⟩⟩
    · exact w.elim
  · exact w.elim
inductive Ty | non | bl | int | str | lst | tup
end
end
end L2.MM
namespace L2.MM
open PySem PySem.Spec PyProof.Rows PySem.SeqAt
noncomputable section
variable {X:Cx}
inductive Src where
  | seq (d:D) | rng (lo:Int) (n:Nat)
def Src.items (θ:Sto):Src→Option (List D)
  | .seq d=>seqOf θ d
  | .rng lo n=>some ((List.range n).map fun (i:Nat)=>D.int (lo+(i:Int)))
def SrcRep (K:PySem.W.Frag) (B:Bx) (H:Hp):Src→It→Prop
  | .seq d,J=>∃a,RepV B H d (.ref a)∧J=(match d with | .tup _=>Itt K a | _=>Itl K a)
  | .rng lo n,J=>J=Itr lo n
abbrev IM:=List Sl→Sto→R Src
section
def tMI (X:Cx) (f:IM):TI:=fun σ H Q=>∃B θ ρ,Frm X.cl B θ ρ σ H∧wpR X σ (SrcRep X.K) B H (f ρ θ) Q
def MI (X:Cx) (tg iter:Expr) (f:IM):Prop:=PI X tg iter (tMI X f)
theorem PI.imp {tg iter:Expr} {t t':TI} (h:PI X tg iter t) (hi:∀σ H Q,t' σ H Q→t σ H Q):PI X tg iter t':=fun pins s σ H Q I q=>h pins s σ H Q I (hi σ H Q q)
theorem SrcRep.ext {K:PySem.W.Frag} {B B':Bx} {H H':Hp} {S:Src} {J:It} (r:SrcRep K B H S J) (E:ExtS B B' H H'):SrcRep K B' H' S J:=by
  cases S with
  | seq d=>obtain ⟨a,h,e⟩:=r; exact ⟨a,h.ext E,e⟩
  | rng lo n=>exact r
theorem ZiN {cl:Mo} {B:Bx} {θ:Sto} {H:Hp} {S:Src} {J:It} {xs:List D} (G:Good cl B θ H) (r:SrcRep cl.K B H S J) (h:S.items θ=some xs) :
    (∀i d,xs[i]?=some d→J.go i H∧∀x H',J.yld i H x H'→H'=H∧RepV B H d x)∧J.stop xs.length H:=by
  cases S with
  | rng lo n=>
    cases (show J=Itr lo n from r)
    cases h
    refine ⟨fun i d e=>?_,by show n≤_; simp⟩
    rw [List.getElem?_map] at e
    by_cases hi:i<n
    · rw [List.getElem?_range hi] at e
      cases e
      exact ⟨hi,fun x H' y=>⟨y.1,y.2⟩⟩
    · rw [List.getElem?_eq_none (by simpa using hi)] at e
      cases e
  | seq d=>
    obtain ⟨a,rv,e⟩:=r
    cases d with
    | tup ys=>
      obtain ⟨a',vs,e1,h1,_,h2⟩:=rv
      cases e1
      cases h
      simp only at e
      subst e
      refine ⟨fun i d e=>?_,⟨vs,SqT.of h1,by rw [h2.len]; exact Nat.le_refl _⟩⟩
      obtain ⟨v,q1,q2⟩:=h2.get e
      refine ⟨⟨vs,v,SqT.of h1,q1⟩,fun x H' y=>⟨y.1,?_⟩⟩
      have:=y.2 vs (SqT.of h1)
      rw [q1] at this
      cases this
      exact q2
    | scr ns=>
      cases h
      obtain ⟨a',vs',e1,h1,_⟩:=ZaA G rv (show seqOf θ (.scr ns)=some (ns.map D.int) from rfl)
      cases e1
      simp only at e
      subst e
      have hS:SqL cl.K H a (ns.map V.int):=by
        obtain ⟨a',e1,h1⟩:=rv
        cases e1
        rcases h1 with ⟨o,h1,_⟩ | h1
        · exact .inl (.inr ⟨o,h1⟩)
        · exact .inr (G.kc a ns h1)
      have h2:RepL B H (ns.map D.int) (ns.map V.int):=RepL.map (f:=D.int) (g:=V.int) (fun _=>rfl) ns
      refine ⟨fun i d e=>?_,⟨ns.map V.int,hS,by simp⟩⟩
      obtain ⟨v,q1,q2⟩:=h2.get e
      refine ⟨⟨_,v,hS,q1⟩,fun x H' y=>⟨y.1,?_⟩⟩
      have:=y.2 _ hS
      rw [q1] at this
      cases this
      exact q2
    | lst ys=>
      obtain ⟨a',vs,e1,h1,h2⟩:=zp G rv (show zJ θ (.lst ys)=some xs from h)
      cases e1
      simp only at e
      subst e
      refine ⟨fun i d e=>?_,⟨vs,SqL.of h1,by rw [h2.len]; exact Nat.le_refl _⟩⟩
      obtain ⟨v,q1,q2⟩:=h2.get e
      refine ⟨⟨vs,v,SqL.of h1,q1⟩,fun x H' y=>⟨y.1,?_⟩⟩
      have:=y.2 vs (SqL.of h1)
      rw [q1] at this
      cases this
      exact q2
    | ref l=>
      obtain ⟨a',vs,e1,h1,h2⟩:=zp G rv (show zJ θ (.ref l)=some xs from h)
      cases e1
      simp only at e
      subst e
      refine ⟨fun i d e=>?_,⟨vs,SqL.of h1,by rw [h2.len]; exact Nat.le_refl _⟩⟩
      obtain ⟨v,q1,q2⟩:=h2.get e
      refine ⟨⟨vs,v,SqL.of h1,q1⟩,fun x H' y=>⟨y.1,?_⟩⟩
      have:=y.2 vs (SqL.of h1)
      rw [q1] at this
      cases this
      exact q2
    | non=>cases h
    | bl _=>cases h
    | int _=>cases h
    | str _=>cases h
    | ty _=>cases h
def Zp6 (K:PySem.W.Frag) (tl:TE):TI:=fun σ H R=>tl σ H fun x H1=>∃a,x=.ref a∧(((∃xs,SqL K H1 a xs)∧R (Itl K a) H1)∨((∃xs,SqT K H1 a xs)∧R (Itt K a) H1))
theorem Zme {tg l:Expr} {tl:TE} (hl:PE X l tl):PI X tg l (Zp6 X.K tl):=by
  intro pins s σ H R I h
  refine thn (hl pins s σ H _ I h) fun v s1 ⟨x,H1,I1,r1,q1⟩=>?_
  obtain ⟨a,e,q1⟩:=q1
  subst e
  cases r1
  rcases q1 with ⟨⟨xs,hq⟩,q⟩ | ⟨⟨xs,hq⟩,q⟩
  · obtain ⟨its,rv,p,hz⟩:=I1.list hq
    refine wpAny_pyIter_list p.isList ?_
    refine ⟨s1.heap.objs.size,[s1.heap.objs.size],_,_,H1,rfl,I1.kept (t':=s1.toks) fun b o e=>Heap.get?_push_of_some _ e,Zho a _,⟨_,Heap.get?_push_size _ rfl,rfl,rfl⟩,fun b hb=>?_,q⟩
    have e:b=s1.heap.objs.size:=by simpa using hb
    subst e
    exact I1.fpOk (Nat.le_refl _) (I1.hok.fresh (Nat.le_refl _))
  · obtain ⟨its,rv,p,hz⟩:=I1.tuple hq
    refine wpAny_pyIter_tuple (show s1.heap.IsTuple a its.toArray from p) ?_
    refine ⟨s1.heap.objs.size,[s1.heap.objs.size],_,_,H1,rfl,I1.kept (t':=s1.toks) fun b o e=>Heap.get?_push_of_some _ e,Zgi a _,⟨_,Heap.get?_push_size _ rfl,rfl,rfl⟩,fun b hb=>?_,q⟩
    have e:b=s1.heap.objs.size:=by simpa using hb
    subst e
    exact I1.fpOk (Nat.le_refl _) (I1.hok.fresh (Nat.le_refl _))
def mIn (f:EM):IM:=fun ρ θ=>(f ρ θ).bind fun d θ=>match seqOf θ d with
  | some _=>.ok (.seq d) θ
  | none=>.bad
theorem Zmu {tg l:Expr} {f:EM} (h:ME X l f):MI X tg l (mIn f):=by
  refine PI.imp (Zme h) fun σ H R q=>?_
  obtain ⟨B,θ,ρ,F,w⟩:=q
  refine ZP (step F w) ?_
  rintro v H1 ⟨B1,θ1,d,E1,F1,rd,w1⟩
  split at w1
  · rename_i xs e
    obtain ⟨a,vs,rfl,h1,h2⟩:=ZaA F1.good rd e
    refine ⟨a,rfl,?_⟩
    have fin:=fun J (hJ:SrcRep X.K B1 H1 (.seq d) J)=>ZB (Rel:=SrcRep X.K) F1.good hJ w1
    cases d with
    | tup ys=>
      obtain ⟨a',us,e1,g1,_,_⟩:=id rd
      cases e1
      exact .inr ⟨⟨us,SqT.of g1⟩,fin _ ⟨a,rd,rfl⟩⟩
    | scr ns=>
      have hS:SqL X.K H1 a (ns.map V.int):=by
        obtain ⟨a',e1,g1⟩:=id rd
        cases e1
        rcases g1 with ⟨o,g1,_⟩ | g1
        · exact .inl (.inr ⟨o,g1⟩)
        · exact .inr (F1.good.kc a ns g1)
      exact .inl ⟨⟨_,hS⟩,fin _ ⟨a,rd,rfl⟩⟩
    | lst ys=>
      obtain ⟨a',us,e1,g1,_⟩:=zp F1.good rd (show zJ θ1 (.lst ys)=some xs from e)
      cases e1
      exact .inl ⟨⟨us,SqL.of g1⟩,fin _ ⟨a,rd,rfl⟩⟩
    | ref l=>
      obtain ⟨a',us,e1,g1,_⟩:=zp F1.good rd (show zJ θ1 (.ref l)=some xs from e)
      cases e1
      exact .inl ⟨⟨us,SqL.of g1⟩,fin _ ⟨a,rd,rfl⟩⟩
    | non=>cases e
    | bl _=>cases e
    | int _=>cases e
    | str _=>cases e
    | ty _=>cases e
  · exact w1.elim
def zX (f:AM):IM:=fun ρ θ=>(f ρ θ).bind fun ds θ=>match ds with
  | [.int j]=>if -1000000≤j∧j≤1000000 then .ok (.rng 0 j.toNat) θ else .bad
  | _=>.bad
theorem Zah {tg a:Expr} {f:AM} {p pos:Pos} (hm:X.mg "range"=none) (ha:MA X [a] f) (hg:Gl X "range":=by rfl) (hs:starEach [a] X.env=[(false,eval a X.env)]:=by rfl):MI X tg (.Call (.Name "range" p) [a] [] pos) (zX f):=by
  refine PI.imp (Zhw hg hm ha hs) fun σ H R q=>?_
  obtain ⟨B,θ,ρ,F,w⟩:=q
  refine zN (Zcw F w) ?_
  rintro vs H1 ⟨B1,θ1,ds,E1,F1,rd,w1⟩
  split at w1
  · rename_i j
    split at w1
    · rename_i hj
      obtain ⟨v,rfl,rv⟩:=rd.one
      cases (show v=V.int j from rv)
      exact ⟨j,rfl,by have:=hj.1; omega,by have:=hj.2; omega,ZB (Rel:=SrcRep X.K) F1.good (show SrcRep X.K B1 H1 (.rng 0 j.toNat) _ from rfl) w1⟩
    · exact w1.elim
  · exact w1.elim
inductive Fl where
  | nx | rt (d:D) | bk | ct
abbrev SM:=List Sl→Sto→R (Fl×List Sl)
def Zlv (Dn:Zcc) (B:Bx) (σ:St) (H:Hp):Fl→Prop
  | .nx=>Dn.nx σ H
  | .bk=>Dn.bk σ H
  | .ct=>Dn.ct σ H
  | .rt d=>∀v,RepV B H d v→Dn.rt v H
def wpS (X:Cx) (σ:St) (B:Bx) (H:Hp) (r:R (Fl×List Sl)) (Dn:Zcc):Prop:=match r with
  | .ok (fl,ρ') θ'=>∀B' H' σ',ExtS B B' H H'→Frm X.cl B' θ' ρ' σ' H'→Zlv Dn B' σ' H' fl
  | .ex c θ'=>XE X σ B H c θ'
  | .bad=>False
def tMS (X:Cx) (f:SM):TS:=fun Dn σ H=>∃B θ ρ,Frm X.cl B θ ρ σ H∧wpS X σ B H (f ρ θ) Dn
def MS (X:Cx) (st:Stmt) (f:SM):Prop:=PS X st (tMS X f)
def MSs (X:Cx) (sts:List Stmt) (f:SM):Prop:=PSs X sts (tMS X f)
theorem PS.imp {st:Stmt} {t t':TS} (h:PS X st t) (hi:∀D σ H,t' D σ H→t D σ H):PS X st t':=fun pins s σ H D I q=>h pins s σ H D I (hi D σ H q)
theorem PSs.imp {st:List Stmt} {t t':TS} (h:PSs X st t) (hi:∀D σ H,t' D σ H→t D σ H):PSs X st t':=fun pins s σ H D I q=>h pins s σ H D I (hi D σ H q)
theorem wpS.trans {σ σ':St} {B B':Bx} {H H':Hp} {r:R (Fl×List Sl)} {Dn:Zcc} (h:wpS X σ B H r Dn) (E:ExtS B B' H H'):wpS X σ' B' H' r Dn:=by
  cases r with
  | ok a θ'=>exact fun B2 H2 σ2 e g=>h B2 H2 σ2 (E.trans e) g
  | ex c θ'=>exact h
  | bad=>exact h
theorem wpS.bind {α β:Type} {Rel:Bx→Hp→α→β→Prop} {σ:St} {B:Bx} {H:Hp} {r:R α} {k:α→Sto→R (Fl×List Sl)} {Dn:Zcc} (h:wpS X σ B H (r.bind k) Dn) :
    wpR X σ Rel B H r (fun b H1=>∃B1 θ1 a,ExtE B B1 H H1∧Good X.cl B1 θ1 H1∧Rel B1 H1 a b∧wpS X σ B1 H1 (k a θ1) Dn):=by
  cases r with
  | ok a θ'=>exact fun B1 H1 b E g q=>⟨B1,θ',a,E,g,q,wpS.trans h E.toExtS⟩
  | ex c θ'=>exact h
  | bad=>exact h
theorem Zcv {σ:St} {H:Hp} {B:Bx} {θ:Sto} {ρ:List Sl} {f:EM} {k:D→Sto→R (Fl×List Sl)} {Dn:Zcc} (F:Frm X.cl B θ ρ σ H) (h:wpS X σ B H ((f ρ θ).bind k) Dn) :
    tM X f σ H (fun v H1=>∃B1 θ1 d,ExtE B B1 H H1∧Frm X.cl B1 θ1 ρ σ H1∧RepV B1 H1 d v∧wpS X σ B1 H1 (k d θ1) Dn):=
  ⟨B,θ,ρ,F,(wpS.bind (Rel:=RepV) h).mono fun v H1 ⟨B1,θ1,d,E,G,r,w⟩=>⟨B1,θ1,d,E,F.ext E G,r,w⟩⟩
theorem ZiM {σ:St} {H:Hp} {B:Bx} {θ:Sto} {ρ:List Sl} {f:TMr} {k:Bool→Sto→R (Fl×List Sl)} {Dn:Zcc} (F:Frm X.cl B θ ρ σ H) (h:wpS X σ B H ((f ρ θ).bind k) Dn) :
    tMT X f σ H (fun c H1=>∃B1 θ1,ExtE B B1 H H1∧Frm X.cl B1 θ1 ρ σ H1∧wpS X σ B1 H1 (k c θ1) Dn):=
  ⟨B,θ,ρ,F,(wpS.bind (Rel:=EqB) h).mono fun v H1 ⟨B1,θ1,d,E,G,r,w⟩=>by cases (show d=v from r); exact ⟨B1,θ1,E,F.ext E G,w⟩⟩
theorem Zct {σ:St} {B:Bx} {H:Hp} {θ:Sto} {ρ:List Sl} {fl:Fl} {Dn:Zcc} (F:Frm X.cl B θ ρ σ H) (h:wpS X σ B H (.ok (fl,ρ) θ) Dn):Zlv Dn B σ H fl:=h B H σ (ExtS.refl B H) F
def zb:SM:=fun ρ θ=>.ok (.nx,ρ) θ
def Zdt (r:R (Fl×List Sl)) (k:SM):R (Fl×List Sl):=r.bind fun p θ=>match p with
  | (.nx,ρ)=>k ρ θ
  | p=>.ok p θ
def Zq (f g:SM):SM:=fun ρ θ=>Zdt (f ρ θ) g
theorem ZJ:MSs X [] zb:=PSs.imp Zks fun D σ H h=>by
  obtain ⟨B,θ,ρ,F,w⟩:=h
  exact Zct F w
theorem wpS.seq {σ:St} {B:Bx} {H:Hp} {r:R (Fl×List Sl)} {g:SM} {Dn:Zcc} (w:wpS X σ B H (Zdt r g) Dn):wpS X σ B H r { Dn with nx:=tMS X g Dn }:=by
  cases r with
  | ex c θ'=>exact w
  | bad=>exact w
  | ok p θ'=>
    obtain ⟨fl,ρ'⟩:=p
    intro B' H' σ' E F
    cases fl with
    | nx=>exact ⟨B',θ',ρ',F,wpS.trans w E⟩
    | bk=>exact w B' H' σ' E F
    | ct=>exact w B' H' σ' E F
    | rt d=>exact w B' H' σ' E F
theorem Ze {st:Stmt} {rest:List Stmt} {f g:SM} (h1:MS X st f) (h2:MSs X rest g):MSs X (st::rest) (Zq f g):=PSs.imp (ZiT h1 h2) fun D σ H h=>by
  obtain ⟨B,θ,ρ,F,w⟩:=h
  exact ⟨B,θ,ρ,F,wpS.seq w⟩
theorem Zi {st:Stmt} {f:SM} (h1:MS X st f):MSs X [st] f:=Zkr h1
def ZkP:SM:=fun _ _=>.bad
theorem Zjj {st:Stmt}:MS X st ZkP:=fun _ _ _ _ _ _ h=>by obtain ⟨_,_,_,_,w⟩:=h; exact w.elim
def Zc8 (f:EM):SM:=fun ρ θ=>(f ρ θ).bind fun _ θ=>.ok (.nx,ρ) θ
theorem ZcC {e:Expr} {f:EM} {pos:Pos} (he:ME X e f) (hs:swapsWith e none pos.line X.env=pure false:=by rfl):MS X (.Expr e pos) (Zc8 f):=PS.imp (ZgQ he hs) fun D σ H h=>by
  obtain ⟨B,θ,ρ,F,w⟩:=h
  refine ZP (Zcv F w) ?_
  rintro v H1 ⟨B1,θ1,d,E1,F1,rd,w1⟩
  exact Zct F1 w1
def ZO (f:EM):SM:=fun ρ θ=>(f ρ θ).bind fun d θ=>.ok (.rt d,ρ) θ
theorem Zt {e:Expr} {f:EM} {pos:Pos} (he:ME X e f):MS X (.Return (some e) pos) (ZO f):=PS.imp (Zl9 he) fun D σ H h=>by
  obtain ⟨B,θ,ρ,F,w⟩:=h
  refine ZP (Zcv F w) ?_
  rintro v H1 ⟨B1,θ1,d,E1,F1,rd,w1⟩
  exact Zct F1 w1 v rd
def mIf (t:TMr) (f g:SM):SM:=fun ρ θ=>(t ρ θ).bind fun k θ=>if k=true then f ρ θ else g ρ θ
theorem zi {c:Expr} {a b:List Stmt} {t:TMr} {f g:SM} {pos:Pos} (hc:MT X c t) (ha:MSs X a f) (hb:MSs X b g):MS X (.If c a b pos) (mIf t f g):=PS.imp (ZnG hc ha hb) fun D σ H h=>by
  obtain ⟨B,θ,ρ,F,w⟩:=h
  refine ZaZ (ZiM F w) ?_
  rintro k H1 ⟨B1,θ1,E1,F1,w1⟩
  cases k with
  | true=>rw [if_pos rfl] at w1 ⊢; exact ⟨B1,θ1,ρ,F1,w1⟩
  | false=>rw [if_neg Bool.false_ne_true] at w1 ⊢; exact ⟨B1,θ1,ρ,F1,w1⟩
theorem Frm.set {B:Bx} {θ:Sto} {ρ:List Sl} {σ:St} {H:Hp} (F:Frm X.cl B θ ρ σ H) (i:Nat) {d:D} {v:V} (r:RepV B H d v):Frm X.cl B θ (ρ.set i (.val d)) (σ.set i (some v)) H:=by
  have oth:∀(j:Nat) (s:Sl),(ρ.set i (Sl.val d))[j]?=some s→(j=i∧s=.val d∧j < σ.length)∨(j≠i∧ρ[j]?=some s):=fun j s e=>by
    by_cases q:j=i
    · subst q
      have hl:j < ρ.length:=by
        have:=(List.getElem?_eq_some_iff.mp e).1
        simpa using this
      rw [List.getElem?_set_self hl] at e
      cases e
      exact .inl ⟨rfl,rfl,by rw [←F.len]; exact hl⟩
    · rw [List.getElem?_set_ne (Ne.symm q)] at e
      exact .inr ⟨q,e⟩
  refine ⟨F.good,by simp [F.len],fun j e h=>?_,fun j xs h=>?_,fun j k xs ys a hne h1 h2 h3=>?_⟩
  · rcases oth j _ h with ⟨rfl,z,hl⟩ | ⟨q,z⟩
    · cases z; exact ⟨v,by rw [List.getElem?_set_self hl],r⟩
    · rw [List.getElem?_set_ne (Ne.symm q)]; exact F.val j e z
  · rcases oth j _ h with ⟨rfl,z,hl⟩ | ⟨q,z⟩
    · cases z
    · rw [List.getElem?_set_ne (Ne.symm q)]; exact F.own j xs z
  · rcases oth j _ h1 with ⟨_,z,_⟩ | ⟨q1,z1⟩
    · cases z
    · rcases oth k _ h2 with ⟨_,z,_⟩ | ⟨q2,z2⟩
      · cases z
      · rw [List.getElem?_set_ne (Ne.symm q1)] at h3
        rw [List.getElem?_set_ne (Ne.symm q2)]
        exact F.ne j k xs ys a hne z1 z2 h3
def Z7 (i:Nat) (f:EM):SM:=fun ρ θ=>(f ρ θ).bind fun d θ=>.ok (.nx,ρ.set i (.val d)) θ
theorem ZD (i:Nat) {x:Str} {e:Expr} {f:EM} {pos pos':Pos} (hN:X.N.Nodup) (he:ME X e f) (hi:X.N[i]?=some x:=by rfl) (hx:Loc X.env.scope x:=by first | exact Or.inl rfl | exact Or.inr rfl)
    (hs:swapsWith e (some (.Name x pos')) pos.line X.env=pure false:=by rfl) (hf:X.fn x=true∨X.env.scope.names.lookup x=some .local:=by first | exact .inl rfl | exact .inr rfl):MS X (.Assign [.Name x pos'] e pos) (Z7 i f):=
  PS.imp (ZiV hN hi hx he hs hf) fun D σ H h=>by
  obtain ⟨B,θ,ρ,F,w⟩:=h
  refine ZP (Zcv F w) ?_
  rintro v H1 ⟨B1,θ1,d,E1,F1,rd,w1⟩
  exact w1 B1 H1 _ (ExtS.refl _ _) (F1.set i rd)
end
end
end L2.MM
namespace L2.MM
open PySem PySem.Spec PyProof.Rows PySem.SeqAt
noncomputable section
variable {X:Cx}
def Zf6 (k:SM):Fl×List Sl→Sto→R (Fl×List Sl)
  | (.nx,ρ),θ=>k ρ θ
  | (.ct,ρ),θ=>k ρ θ
  | (.bk,ρ),θ=>.ok (.nx,ρ) θ
  | (.rt d,ρ),θ=>.ok (.rt d,ρ) θ
theorem wpS.loop {σ:St} {B:Bx} {H:Hp} {r:R (Fl×List Sl)} {k:SM} {Dn:Zcc} (w:wpS X σ B H (r.bind (Zf6 k)) Dn) :
    wpS X σ B H r { Dn with nx:=fun σ' H'=>∃B' θ' ρ',ExtS B B' H H'∧Frm X.cl B' θ' ρ' σ' H'∧wpS X σ' B' H' (k ρ' θ') Dn,ct:=fun σ' H'=>∃B' θ' ρ',ExtS B B' H H'∧Frm X.cl B' θ' ρ' σ' H'∧wpS X σ' B' H' (k ρ' θ') Dn,bk:=Dn.nx }:=by
  cases r with
  | ex c θ'=>exact w
  | bad=>exact w
  | ok p θ'=>
    obtain ⟨fl,ρ'⟩:=p
    intro B' H' σ' E F
    cases fl with
    | nx=>exact ⟨B',θ',ρ',E,F,wpS.trans w E⟩
    | ct=>exact ⟨B',θ',ρ',E,F,wpS.trans w E⟩
    | bk=>exact w B' H' σ' E F
    | rt d=>exact w B' H' σ' E F
abbrev TgM:=D→List Sl→Option (List Sl)
def tMG (X:Cx) (g:TgM):TG:=fun v σ H Q=>∃B θ ρ d ρ',Frm X.cl B θ ρ σ H∧RepV B H d v∧g d ρ=some ρ'∧∀σ',Frm X.cl B θ ρ' σ' H→Q σ' H
def MG (X:Cx) (tg:Expr) (g:TgM):Prop:=PG X tg (tMG X g)
theorem PG.imp {tg:Expr} {t t':TG} (h:PG X tg t) (hi:∀v σ H Q,t' v σ H Q→t v σ H Q):PG X tg t':=fun pins s σ H v u Q I r q=>h pins s σ H v u Q I r (hi v σ H Q q)
def gNm (i:Nat):TgM:=fun d ρ=>some (ρ.set i (.val d))
theorem ZaJ (i:Nat) {x:Str} {pos:Pos} (hN:X.N.Nodup) (hi:X.N[i]?=some x:=by rfl) (hx:Loc X.env.scope x:=by first | exact Or.inl rfl | exact Or.inr rfl) (hf:X.fn x=true∨X.env.scope.names.lookup x=some .local:=by first | exact .inl rfl | exact .inr rfl):MG X (.Name x pos) (gNm i):=
  PG.imp (Zkx hN hi hx hf) fun v σ H Q h=>by
  obtain ⟨B,θ,ρ,d,ρ',F,r,e,q⟩:=h
  cases e
  exact q _ (F.set i r)
open Classical in
def Za8 (S:Src) (all:List D) (tg:TgM) (body:SM):List D→SM
  | []=>fun ρ θ=>if S.items θ=some all then .ok (.nx,ρ) θ else .bad
  | x::r=>fun ρ θ=>if S.items θ=some all then (match tg x ρ with
    | none=>.bad
    | some ρ1=>(body ρ1 θ).bind (Zf6 (Za8 S all tg body r))) else .bad
def ZaU (fi:IM) (tg:TgM) (body:SM):SM:=fun ρ θ=>(fi ρ θ).bind fun S θ=>match S.items θ with
  | some xs=>Za8 S xs tg body xs ρ θ
  | none=>.bad
open Classical in
theorem ZbH {tg iter:Expr} {body:List Stmt} {fi:IM} {g:TgM} {fb:SM} {pos:Pos} (hp:PassesOwn (model X.prog X.w) X.A X.env X.xe) (hi:MI X tg iter fi) (hg:MG X tg g) (hb:MSs X body fb) (hc:X.calm=true:=by rfl)
    (hs:∀x,foldedSetIterable iter X.env x=pure x:=by intro _; rfl):MS X (.For tg iter body [] pos) (ZaU fi g fb):=
  PS.imp (Zma hp hc hi hg hb hs) fun Dn σ H h=>by
  obtain ⟨B,θ,ρ,F,w⟩:=h
  refine ⟨B,θ,ρ,F,(wpS.bind (Rel:=SrcRep X.K) w).mono ?_⟩
  rintro J H1 ⟨B1,θ1,S,E1,G1,rJ,w1⟩
  split at w1
  · rename_i xs e1
    refine ⟨fun i m σ H=>∃B θ ρ,Frm X.cl B θ ρ σ H∧SrcRep X.K B H S J∧m=xs.length-i∧i≤xs.length∧wpS X σ B H (Za8 S xs g fb (xs.drop i) ρ θ) Dn,⟨xs.length,B1,θ1,ρ,F.ext E1 G1,rJ,rfl,Nat.zero_le _,w1⟩,?_⟩
    rintro i m σ2 H2 ⟨B2,θ2,ρ2,F2,rJ2,rfl,hi2,w2⟩
    by_cases hlt:i<xs.length
    · rw [List.drop_eq_getElem_cons hlt] at w2
      unfold Za8 at w2
      split at w2
      · rename_i e2
        obtain ⟨g1,g2⟩:=(ZiN F2.good rJ2 e2).1 i xs[i] (List.getElem?_eq_getElem hlt)
        split at w2
        · exact w2.elim
        · rename_i ρ3 e3
          refine .inr ⟨g1,fun σ' H'=>∃B' θ' ρ',ExtS B2 B' H2 H'∧Frm X.cl B' θ' ρ' σ' H'∧wpS X σ' B' H' (Za8 S xs g fb (xs.drop (i+1)) ρ' θ') Dn,?_,fun x H' hy=>?_⟩
          · rintro σ' H' ⟨B',θ',ρ',E',F',w'⟩
            exact ⟨xs.length-(i+1),by omega,B',θ',ρ',F',rJ2.ext E',rfl,hlt,w'⟩
          · obtain ⟨rfl,rx⟩:=g2 x H' hy
            refine ⟨B2,θ2,ρ2,xs[i],ρ3,F2,rx,e3,fun σ' F'=>⟨B2,θ2,ρ3,F',?_⟩⟩
            have w3:=wpS.loop w2
            exact wpS.trans w3 (ExtS.refl _ _)
      · exact w2.elim
    · have e:i=xs.length:=by omega
      subst e
      rw [List.drop_length] at w2
      unfold Za8 at w2
      split at w2
      · rename_i e2
        exact .inl ⟨(ZiN F2.good rJ2 e2).2,Zct F2 w2⟩
      · exact w2.elim
  · exact w1.elim
def Zbh (t:TMr) (body:SM):Nat→SM
  | 0=>ZkP
  | n+1=>fun ρ θ=>(t ρ θ).bind fun k θ=>if k=true then (body ρ θ).bind (Zf6 (Zbh t body n)) else .ok (.nx,ρ) θ
theorem Zf0 (n:Nat) {c:Expr} {body:List Stmt} {t:TMr} {fb:SM} {pos:Pos} (hp:PassesOwn (model X.prog X.w) X.A X.env X.xe) (hc:MT X c t) (hb:MSs X body fb):MS X (.While c body [] pos) (Zbh t fb n):=
  PS.imp (ZiU hp hc hb) fun Dn σ H h=>by
  obtain ⟨B,θ,ρ,F,w⟩:=h
  refine ⟨fun m σ H=>∃B θ ρ,Frm X.cl B θ ρ σ H∧wpS X σ B H (Zbh t fb m ρ θ) Dn,⟨n,B,θ,ρ,F,w⟩,?_⟩
  rintro m σ2 H2 ⟨B2,θ2,ρ2,F2,w2⟩
  cases m with
  | zero=>exact w2.elim
  | succ m=>
    refine ZaZ (ZiM F2 w2) ?_
    rintro k H3 ⟨B3,θ3,E3,F3,w3⟩
    cases k with
    | true=>
      rw [if_pos rfl] at w3 ⊢
      refine ⟨_,?_,⟨B3,θ3,ρ2,F3,wpS.loop w3⟩⟩
      rintro σ' H' ⟨B',θ',ρ',E',F',w'⟩
      exact ⟨m,Nat.lt_succ_self _,B',θ',ρ',F',w'⟩
    | false=>
      rw [if_neg Bool.false_ne_true] at w3 ⊢
      exact Zct F3 w3
theorem Frm.setOwn {cl:Mo} {B:Bx} {θ:Sto} {ρ:List Sl} {σ:St} {H:Hp} (F:Frm cl B θ ρ σ H) (i:Nat) {p:Addr} (hp:H p=none) {xs:List D} {vs:List V} (r:RepL B H xs vs) :
    ExtS B { B with os:=p::B.os } H (upd H p (.lst vs))∧Frm cl { B with os:=p::B.os } θ (ρ.set i (.own xs)) (σ.set i (some (.ref p))) (upd H p (.lst vs)):=by
  have E0:=ZaO F.good hp (.lst vs)
  have G0:=ZcH F.good hp (.lst vs)
  have ok:=F.good.okNone hp
  have E:ExtS B { B with os:=p::B.os } H (upd H p (.lst vs)):=⟨E0.n,E0.m,E0.fr,E0.keep,E0.sm,fun a h=>by
    rcases List.mem_cons.mp h with rfl | h
    · exact .inr hp
    · exact .inl h,rfl,rfl⟩
  refine ⟨E,?_⟩
  have E1:ExtS B { B with os:=p::B.os } H (upd H p (.lst vs)):=E
  have G:Good cl { B with os:=p::B.os } θ (upd H p (.lst vs)):=⟨G0.len,G0.inj,fun j c e=>(F.good.cel j c e).ext E fun u q=>by rw [ZT (zm q hp)]; exact q,fun j hj=>⟨(G0.cF j hj).1,fun z=>by
      rcases List.mem_cons.mp z with z | z
      · exact ok.1 j hj z
      · exact (G0.cF j hj).2 z⟩,G0.Fs,fun a z=>by
      rcases List.mem_cons.mp z with rfl | z
      · rw [Z3]; simp
      · exact G0.oS a z,fun a z=>by
      rcases List.mem_cons.mp z with rfl | z
      · exact ok.2.1
      · exact G0.oF a z,G0.kc⟩
  have oth:∀(j:Nat) (s:Sl),(ρ.set i (Sl.own xs))[j]?=some s→(j=i∧s=.own xs∧j < σ.length)∨(j≠i∧ρ[j]?=some s):=fun j s e=>by
    by_cases q:j=i
    · subst q
      have hl:j < ρ.length:=by
        have:=(List.getElem?_eq_some_iff.mp e).1
        simpa using this
      rw [List.getElem?_set_self hl] at e
      cases e
      exact .inl ⟨rfl,rfl,by rw [←F.len]; exact hl⟩
    · rw [List.getElem?_set_ne (Ne.symm q)] at e
      exact .inr ⟨q,e⟩
  have old:∀j ys,ρ[j]?=some (Sl.own ys)→∀a,σ[j]?=some (some (V.ref a))→a≠p:=fun j ys h a e z=>by
    obtain ⟨a',us,q1,q2,q3,q4⟩:=F.own j ys h
    rw [e] at q1
    cases q1
    rw [z,hp] at q3
    cases q3
  refine ⟨G,by simp [F.len],fun j d h=>?_,fun j ys h=>?_,fun j k ys zs a hne h1 h2 h3=>?_⟩
  · rcases oth j _ h with ⟨_,z,_⟩ | ⟨q,z⟩
    · cases z
    · rw [List.getElem?_set_ne (Ne.symm q)]
      obtain ⟨v,q1,q2⟩:=F.val j d z
      exact ⟨v,q1,q2.ext E⟩
  · rcases oth j _ h with ⟨rfl,z,hl⟩ | ⟨q,z⟩
    · cases z
      exact ⟨p,vs,by rw [List.getElem?_set_self hl],List.mem_cons_self,Z3,r.ext E⟩
    · rw [List.getElem?_set_ne (Ne.symm q)]
      obtain ⟨a,us,q1,q2,q3,q4⟩:=F.own j ys z
      exact ⟨a,us,q1,List.mem_cons_of_mem _ q2,by rw [ZT (zm q3 hp)]; exact q3,q4.ext E⟩
  · rcases oth j _ h1 with ⟨rfl,z1,hl⟩ | ⟨q1,z1⟩
    · rcases oth k _ h2 with ⟨rfl,z2,_⟩ | ⟨q2,z2⟩
      · exact absurd rfl hne
      · rw [List.getElem?_set_self hl] at h3
        cases h3
        rw [List.getElem?_set_ne (Ne.symm q2)]
        exact fun z=>old k zs z2 _ z rfl
    · rw [List.getElem?_set_ne (Ne.symm q1)] at h3
      rcases oth k _ h2 with ⟨rfl,z2,hl⟩ | ⟨q2,z2⟩
      · rw [List.getElem?_set_self hl]
        intro z
        cases z
        exact old j ys z1 _ h3 rfl
      · rw [List.getElem?_set_ne (Ne.symm q2)]
        exact F.ne j k ys zs a hne z1 z2 h3
def ZeR (i:Nat) (f:AM):SM:=fun ρ θ=>(f ρ θ).bind fun xs θ=>if xs.length≤BIG then .ok (.nx,ρ.set i (.own xs)) θ else .bad
theorem ZlU {σ:St} {H:Hp} {B:Bx} {θ:Sto} {ρ:List Sl} {f:AM} {k:List D→Sto→R (Fl×List Sl)} {Dn:Zcc} (F:Frm X.cl B θ ρ σ H) (h:wpS X σ B H ((f ρ θ).bind k) Dn) :
    tMA X f σ H (fun v H1=>∃B1 θ1 d,ExtE B B1 H H1∧Frm X.cl B1 θ1 ρ σ H1∧RepL B1 H1 d v∧wpS X σ B1 H1 (k d θ1) Dn):=
  ⟨B,θ,ρ,F,(wpS.bind (Rel:=RepL) h).mono fun v H1 ⟨B1,θ1,d,E,G,r,w⟩=>⟨B1,θ1,d,E,F.ext E G,r,w⟩⟩
theorem ZhB (i:Nat) {x:Str} {es:List Expr} {f:AM} {pos pos' lpos:Pos} (hN:X.N.Nodup) (he:MA X es f) (hi:X.N[i]?=some x:=by rfl) (hx:Loc X.env.scope x:=by first | exact Or.inl rfl | exact Or.inr rfl)
    (hs:swapsWith (.List es lpos) (some (.Name x pos')) pos.line X.env=pure false:=by rfl) (hf:X.fn x=true∨X.env.scope.names.lookup x=some .local:=by first | exact .inl rfl | exact .inr rfl):MS X (.Assign [.Name x pos'] (.List es lpos) pos) (ZeR i f):=
  PS.imp (ZiV hN hi hx (Zgo he) hs hf) fun D σ H h=>by
  obtain ⟨B,θ,ρ,F,w⟩:=h
  refine zN (ZlU F w) ?_
  rintro vs H1 ⟨B1,θ1,xs,E1,F1,rd,w1⟩
  split at w1
  · rename_i hz
    refine ⟨by rw [rd.len]; exact zg hz,fun p hp=>?_⟩
    obtain ⟨E2,F2⟩:=F1.setOwn i hp rd
    exact w1 _ _ _ E2 F2
  · exact w1.elim
theorem Frm.updOwn {cl:Mo} {B:Bx} {θ:Sto} {ρ:List Sl} {σ:St} {H:Hp} (F:Frm cl B θ ρ σ H) {i:Nat} {xs ys:List D} {us:List V} {a:Addr} (h:ρ[i]?=some (Sl.own xs)) (ha:σ[i]?=some (some (.ref a))) (r:RepL B H ys us) :
    ExtS B B H (upd H a (.lst us))∧Frm cl B θ (ρ.set i (.own ys)) σ (upd H a (.lst us)):=by
  obtain ⟨a',vs,q1,q2,q3,q4⟩:=F.own i xs h
  rw [ha] at q1
  cases q1
  have hc:∀j,j<B.n→B.m j≠a:=fun j hj z=>(F.good.cF j hj).2 (by rw [z]; exact q2)
  have E:ExtS B B H (upd H a (.lst us)):=⟨Nat.le_refl _,fun _ _=>rfl,fun i h h'=>absurd h' (Nat.not_lt.mpr h),fun b o e _ hb=>by rw [ZT (fun z=>hb (by rw [z]; exact q2))]; exact e,fun b e=>by
    by_cases q:b=a
    · rw [q,Z3]; simp
    · rw [ZT q]; exact e,fun _ h=>.inl h,rfl,rfl⟩
  have hl:i < ρ.length:=(List.getElem?_eq_some_iff.mp h).1
  have oth:∀(j:Nat) (s:Sl),(ρ.set i (Sl.own ys))[j]?=some s→(j=i∧s=.own ys)∨(j≠i∧ρ[j]?=some s):=fun j s e=>by
    by_cases q:j=i
    · subst q
      rw [List.getElem?_set_self hl] at e
      cases e
      exact .inl ⟨rfl,rfl⟩
    · rw [List.getElem?_set_ne (Ne.symm q)] at e
      exact .inr ⟨q,e⟩
  refine ⟨E,⟨⟨F.good.len,F.good.inj,fun j c e=>(F.good.cel j c e).ext E fun u q=>by
      have hj:j<B.n:=by rw [←F.good.len]; exact (List.getElem?_eq_some_iff.mp e).1
      rw [ZT (hc j hj)]; exact q,F.good.cF,fun b z=>E.sm b (F.good.Fs b z),fun b z=>E.sm b (F.good.oS b z),F.good.oF,F.good.kc⟩,by simp [F.len],fun j d e=>?_,fun j zs e=>?_,fun j k zs ws b hne h1 h2 h3=>?_⟩⟩
  · rcases oth j _ e with ⟨_,z⟩ | ⟨_,z⟩
    · cases z
    · obtain ⟨v,p1,p2⟩:=F.val j d z
      exact ⟨v,p1,p2.ext E⟩
  · rcases oth j _ e with ⟨rfl,z⟩ | ⟨q,z⟩
    · cases z
      exact ⟨a,us,ha,q2,Z3,r.ext E⟩
    · obtain ⟨b,ws,p1,p2,p3,p4⟩:=F.own j zs z
      refine ⟨b,ws,p1,p2,?_,p4.ext E⟩
      rw [ZT (fun z'=>F.ne i j xs zs a (Ne.symm q) h z ha (by rw [←z']; exact p1))]
      exact p3
  · have o1:∃zs',ρ[j]?=some (Sl.own zs'):=by
      rcases oth j _ h1 with ⟨rfl,_⟩ | ⟨_,z⟩
      · exact ⟨xs,h⟩
      · exact ⟨_,z⟩
    have o2:∃ws',ρ[k]?=some (Sl.own ws'):=by
      rcases oth k _ h2 with ⟨rfl,_⟩ | ⟨_,z⟩
      · exact ⟨xs,h⟩
      · exact ⟨_,z⟩
    obtain ⟨zs',o1⟩:=o1
    obtain ⟨ws',o2⟩:=o2
    exact F.ne j k zs' ws' b hne o1 o2 h3
def ZcD (i:Nat) (f:EM):SM:=fun ρ θ=>(f ρ θ).bind fun d θ=>match ρ[i]? with
  | some (Sl.own xs)=>if xs.length<BIG then .ok (.nx,ρ.set i (.own (xs++[d]))) θ else .bad
  | _=>.bad
theorem ZhC (i:Nat) {x:Str} {e:Expr} {f:EM} {p apos pos pos':Pos} (he:ME X e f) (hN:X.N[i]?=some x:=by rfl) (hv:Vis X.env.scope x:=by first | exact Or.inl rfl | exact Or.inr (Or.inl rfl) | exact Or.inr (Or.inr rfl))
    (hd:(x == ("__debug__":Str))=false:=by decide) (hcd:(x == ("__classdict__":Str))=false:=by decide)
    (hpe:∀{to:TE},PE X (.Name x p) to→PE X (.Call (.Attribute (.Name x p) "append" apos) [e] [] pos) (tBM X.K "list" ZeM to (ZiL (tM X f) Zkh)))
    (hs:swapsWith (.Call (.Attribute (.Name x p) "append" apos) [e] [] pos) none pos'.line X.env=pure false:=by rfl):MS X (.Expr (.Call (.Attribute (.Name x p) "append" apos) [e] [] pos) pos') (ZcD i f):=
  PS.imp (ZgQ (hpe (ZiY hN hv hd hcd)) hs) fun D σ H h=>by
  obtain ⟨B,θ,ρ,F,w⟩:=h
  have own:∃xs,ρ[i]?=some (Sl.own xs):=by
    unfold ZcD at w
    cases q:f ρ θ with
    | bad=>rw [q] at w; exact w.elim
    | ex c θ'=>rw [q] at w; exact False.elim w
    | ok d θ'=>
      rw [q] at w
      simp only [R.bind_ok] at w
      split at w
      · rename_i xs e; exact ⟨xs,e⟩
      · exact w.elim
  obtain ⟨xs,hx⟩:=own
  obtain ⟨a,vs,q1,q2,q3,q4⟩:=F.own i xs hx
  refine ⟨.ref a,q1,.inl ⟨rfl,vs,SqL.of q3⟩,?_⟩
  refine ZP (Zcv F w) ?_
  rintro y H1 ⟨B1,θ1,d,E1,F1,rd,w1⟩
  rw [hx] at w1
  simp only at w1
  split at w1
  · rename_i hz
    obtain ⟨a',us,p1,p2,p3,p4⟩:=F1.own i xs hx
    rw [q1] at p1
    cases p1
    refine ⟨a,us,y,rfl,rfl,p3,by rw [p4.len]; exact Nat.lt_of_lt_of_le hz (zg (Nat.le_refl _)),?_⟩
    obtain ⟨E2,F2⟩:=F1.updOwn hx q1 (p4.app (show RepL B1 H1 [d] [y] from ⟨y,[],rfl,rd,rfl⟩))
    exact w1 _ _ _ E2 F2
  · exact w1.elim
def zD (i:Nat) (f:SM):SM:=fun ρ θ=>match ρ[i]? with
  | some (Sl.own xs)=>f (ρ.set i (.val (.lst xs))) θ
  | _=>f ρ θ
theorem Zgk {i:Nat} {f:SM} {D:Zcc} {σ:St} {H:Hp} (h:tMS X (zD i f) D σ H):tMS X f D σ H:=by
  obtain ⟨B,θ,ρ,F,w⟩:=h
  unfold zD at w
  split at w
  · rename_i xs hx
    obtain ⟨a,vs,q1,q2,q3,q4⟩:=F.own i xs hx
    let B':Bx:={ B with os:=B.os.filter fun b=>decide (b≠a) }
    have sub:∀b,b∈B'.os→b∈B.os∧b≠a:=fun b hb=>by
      have:=List.mem_filter.mp hb
      exact ⟨this.1,of_decide_eq_true this.2⟩
    have E:ExtS B B' H H:=⟨Nat.le_refl _,fun _ _=>rfl,fun i h h'=>absurd h' (Nat.not_lt.mpr h),fun _ _ e _ _=>e,fun _ e=>e,fun b hb=>.inl (sub b hb).1,rfl,rfl⟩
    have hc:∀j,j<B.n→B.m j≠a:=fun j hj z=>(F.good.cF j hj).2 (by rw [z]; exact q2)
    have G:Good X.cl B' θ H:=⟨F.good.len,F.good.inj,fun j c e=>(F.good.cel j c e).ext E fun _ q=>q,fun j hj=>⟨(F.good.cF j hj).1,fun z=>(F.good.cF j hj).2 (sub _ z).1⟩,F.good.Fs,fun b z=>F.good.oS b (sub b z).1,fun b z=>F.good.oF b (sub b z).1,F.good.kc⟩
    have rv:RepV B' H (.lst xs) (.ref a):=⟨a,vs,rfl,q3,⟨hc,F.good.oF a q2,fun z=>(sub a z).2 rfl⟩,q4.ext E⟩
    have hl:i < ρ.length:=(List.getElem?_eq_some_iff.mp hx).1
    have oth:∀(j:Nat) (s:Sl),(ρ.set i (Sl.val (.lst xs)))[j]?=some s→(j=i∧s=.val (.lst xs))∨(j≠i∧ρ[j]?=some s):=fun j s e=>by
      by_cases q:j=i
      · subst q
        rw [List.getElem?_set_self hl] at e
        cases e
        exact .inl ⟨rfl,rfl⟩
      · rw [List.getElem?_set_ne (Ne.symm q)] at e
        exact .inr ⟨q,e⟩
    refine ⟨B',θ,_,⟨G,by simp [F.len],fun j d e=>?_,fun j ys e=>?_,fun j k ys zs b hne h1 h2 h3=>?_⟩,wpS.trans w E⟩
    · rcases oth j _ e with ⟨rfl,z⟩ | ⟨_,z⟩
      · cases z; exact ⟨_,q1,rv⟩
      · obtain ⟨v,p1,p2⟩:=F.val j d z
        exact ⟨v,p1,p2.ext E⟩
    · rcases oth j _ e with ⟨_,z⟩ | ⟨q,z⟩
      · cases z
      · obtain ⟨b,ws,p1,p2,p3,p4⟩:=F.own j ys z
        refine ⟨b,ws,p1,List.mem_filter.mpr ⟨p2,decide_eq_true fun z'=>?_⟩,p3,p4.ext E⟩
        subst z'
        exact F.ne i j xs ys b (Ne.symm q) hx z q1 p1
    · rcases oth j _ h1 with ⟨_,z⟩ | ⟨_,z1⟩
      · cases z
      · rcases oth k _ h2 with ⟨_,z⟩ | ⟨_,z2⟩
        · cases z
        · exact F.ne j k ys zs b hne z1 z2 h3
  · exact ⟨B,θ,ρ,F,w⟩
theorem ZbY (i:Nat) {st:Stmt} {f:SM} (h:MS X st f):MS X st (zD i f):=PS.imp h fun _ _ _ q=>Zgk q
def Zbi (n:Nat) (ds:List D):List Sl:=ds.map Sl.val++List.replicate (n-ds.length) Sl.no
def Z0 (np nn:Nat) (fb:SM):GM:=fun ds θ=>if ds.length=np then (fb (Zbi nn ds) θ).bind fun p θ=>match p.1 with
  | .nx=>.ok .non θ
  | .rt d=>.ok d θ
  | _=>.bad
  else .bad
def spM (X:Mo) (f:GM):Sp:=fun vs H Q E=>∃B θ ds,B.os=[]∧Good X B θ H∧RepL B H ds vs∧(match f ds θ with
  | .ok d θ'=>∀B' H' v,ExtE B B' H H'→Good X B' θ' H'→RepV B' H' d v→Q v H'
  | .ex c θ'=>False
  | .bad=>False)
def Zx (P:Program) (w:World) (K:PySem.W.Frag) (mg:Str→Option Value) (base:Heap) (k:Nat) (x:Str) (f:GM):Prop:=∃ps,Def P w K mg base k x ps (spM ⟨ZU mg,K⟩ f)
theorem Zhs {cl:Mo} {B:Bx} {θ:Sto} {H:Hp} {ds:List D} {vs:List V} {N:List Str} {nn:Nat} (G:Good cl B θ H) (r:RepL B H ds vs) (hn:N.length=nn):Frm cl B θ (Zbi nn ds) (Zbu N vs) H:=by
  subst hn
  have hl:=r.len
  have key:∀(i:Nat) (s:Sl),(Zbi N.length ds)[i]?=some s→s=.no∨∃d,s=.val d∧∃v,(Zbu N vs)[i]?=some (some v)∧RepV B H d v:=fun i s e=>by
    unfold Zbi at e
    by_cases q:i<ds.length
    · rw [List.getElem?_append_left (by simpa using q),List.getElem?_map,List.getElem?_eq_getElem q] at e
      cases e
      obtain ⟨v,h1,h2⟩:=r.get (List.getElem?_eq_getElem q)
      refine .inr ⟨_,rfl,v,?_,h2⟩
      unfold Zbu
      rw [List.getElem?_append_left (by simpa [hl] using q),List.getElem?_map,h1]
      rfl
    · rw [List.getElem?_append_right (by simpa using q)] at e
      exact .inl (List.eq_of_mem_replicate (List.mem_of_getElem? e))
  refine ⟨G,by simp [Zbi,Zbu,hl],fun i d e=>?_,fun i xs e=>?_,fun i j xs ys a _ e _=>?_⟩
  · rcases key i _ e with z | ⟨d',z,v',h1,h2⟩
    · cases z
    · cases z; exact ⟨v',h1,h2⟩
  · rcases key i _ e with z | ⟨d',z,_⟩<;>cases z
  · rcases key i _ e with z | ⟨d',z,_⟩<;>cases z
theorem mfn {P:Program} {w:World} {K:PySem.W.Frag} {mg:Str→Option Value} {base:Heap} {x qual:Str} {st:Stmt} {N ps:List Str} {k:Nat} {fb:SM} {f:Addr} {fd:FuncData} (F:Fun K x qual st f fd) (S:Zp N ps (Zf st)) (np nn:Nat) (hp:ps.length=np) (hn:N.length=nn)
    (hbody:∀(cdv:Value) (A:Around) (outer:List Env) (s:Shared) (H:Hp) (E:XK),Room k (A.deeper (envOfC qual (Zf st) s.heap.objs.size f cdv))→MSs (Zc1 CX0 P w K mg base N qual (Zf st) f cdv A outer s H E).nox (Zn st) fb) :
    FnOk P w K mg base CX0 (k+1) f fd ps (spM ⟨ZU mg,K⟩ (Z0 np nn fb)):=by
  refine F.ok S ?_ ?_
  · rintro vs H Q E ⟨B,θ,ds,_,_,r,q⟩
    unfold Z0 at q
    split at q
    · rename_i h
      split at h
      · rename_i hl; rw [r.len,hl,hp]
      · cases h
    · exact q.elim
    · exact q.elim
  · intro cdv A outer s H vs Q E hr h
    obtain ⟨B,θ,ds,hos,G,r,q⟩:=h
    refine ⟨tMS (Zc1 CX0 P w K mg base N qual (Zf st) f cdv A outer s H E).nox fb,hbody cdv A outer s H E hr,B,θ,Zbi nn ds,Zhs G r hn,?_⟩
    unfold Z0 at q
    by_cases hl:ds.length=np
    · rw [if_pos hl] at q
      cases e:fb (Zbi nn ds) θ with
      | bad=>rw [e] at q; exact q.elim
      | ex c θ'=>rw [e] at q; exact q.elim
      | ok p θ'=>
        rw [e] at q
        obtain ⟨fl,ρ'⟩:=p
        intro B' H' σ' E' F'
        have hos':∀a,a∈B.os→False:=fun a ha=>by rw [hos] at ha; cases ha
        let B2:Bx:={ B' with os:=[] }
        have E2:ExtE B B2 H H':=⟨⟨E'.n,E'.m,E'.fr,E'.keep,E'.sm,fun a ha=>(nomatch ha),E'.F,E'.ks⟩,hos.symm,fun a o ha=>(hos' a ha).elim⟩
        have E3:ExtS B' B2 H' H':=⟨Nat.le_refl _,fun _ _=>rfl,fun i h h'=>absurd h' (Nat.not_lt.mpr h),fun _ _ e _ _=>e,fun _ e=>e,fun b hb=>(nomatch hb),rfl,rfl⟩
        have G2:Good ⟨ZU mg,K⟩ B2 θ' H':=⟨F'.good.len,F'.good.inj,fun j c e=>(F'.good.cel j c e).ext E3 fun _ q=>q,fun j hj=>⟨(F'.good.cF j hj).1,fun z=>nomatch z⟩,F'.good.Fs,fun b z=>(nomatch z),fun b z=>(nomatch z),F'.good.kc⟩
        cases fl with
        | nx=>exact q B2 H' .non E2 G2 rfl
        | rt d=>exact fun v rv=>q B2 H' v E2 G2 (rv.ext E3)
        | bk=>exact q.elim
        | ct=>exact q.elim
    · rw [if_neg hl] at q
      exact q.elim
theorem zq {P:Program} {w:World} {K:PySem.W.Frag} {mg:Str→Option Value} {base:Heap} {x:Str} {st:Stmt} {N ps:List Str} {k:Nat} {fb:SM} (D0:Zu K mg x st ps) (S:Zp N ps (Zf st)) (np nn:Nat) (hp:ps.length=np) (hn:N.length=nn)
    (hbody:∀(f:Addr) (cdv:Value) (A:Around) (outer:List Env) (s:Shared) (H:Hp) (E:XK),Room k (A.deeper (envOfC x (Zf st) s.heap.objs.size f cdv))→MSs (Zc1 CX0 P w K mg base N x (Zf st) f cdv A outer s H E).nox (Zn st) fb):Zx P w K mg base (k+1) x (Z0 np nn fb):=by
  obtain ⟨f,fd,F,b,m⟩:=D0
  exact ⟨ps,f,fd,mfn F S np nn hp hn (hbody f),b,F.kp,m⟩
def Bx.inC (B:Bx):Bx:={ B with F:=fun a=>B.F a∨a∈B.os,os:=[] }
theorem inC_ok {B:Bx} {a:Addr}:B.inC.ok a↔B.ok a:=by
  constructor
  · rintro ⟨h1,h2,h3⟩
    exact ⟨h1,fun z=>h2 (.inl z),fun z=>h2 (.inr z)⟩
  · rintro ⟨h1,h2,h3⟩
    exact ⟨h1,fun z=>z.elim h2 h3,fun z=>nomatch z⟩
mutual
theorem RepV.same {B B':Bx} {H:Hp} (hn:B'.n=B.n) (hm:B'.m=B.m) (hk:B'.ks=B.ks) (ho:∀a,B.ok a→B'.ok a):∀{d:D} {v:V},RepV B H d v→RepV B' H d v
  | .non,_,h=>h
  | .bl _,_,h=>h
  | .int _,_,h=>h
  | .str _,_,h=>h
  | .ty _,_,h=>h
  | .scr _,_,h=>by
    obtain ⟨a,e,h⟩:=h
    refine ⟨a,e,?_⟩
    rcases h with ⟨o,h,k⟩ | h
    · exact .inl ⟨o,h,ho a k⟩
    · exact .inr (by rw [hk]; exact h)
  | .tup _,_,h=>by obtain ⟨a,vs,e,h,k,l⟩:=h; exact ⟨a,vs,e,h,ho a k,RepL.same hn hm hk ho l⟩
  | .lst _,_,h=>by obtain ⟨a,vs,e,h,k,l⟩:=h; exact ⟨a,vs,e,h,ho a k,RepL.same hn hm hk ho l⟩
  | .ref l,_,h=>⟨by rw [hn]; exact h.1,by rw [hm]; exact h.2⟩
theorem RepL.same {B B':Bx} {H:Hp} (hn:B'.n=B.n) (hm:B'.m=B.m) (hk:B'.ks=B.ks) (ho:∀a,B.ok a→B'.ok a):∀{ds:List D} {vs:List V},RepL B H ds vs→RepL B' H ds vs
  | [],_,h=>h
  | _::_,_,h=>by obtain ⟨v,r,e,hv,hr⟩:=h; exact ⟨v,r,e,RepV.same hn hm hk ho hv,RepL.same hn hm hk ho hr⟩
end
theorem RepKV.same {κ:Type} {B B':Bx} {H:Hp} (hn:B'.n=B.n) (hm:B'.m=B.m) (hk:B'.ks=B.ks) (ho:∀a,B.ok a→B'.ok a):∀{ks:List (κ×D)} {vs:List (κ×V)},RepKV B H ks vs→RepKV B' H ks vs
  | _,_,.nil=>.nil
  | _,_,.cons h t=>.cons ⟨h.1,RepV.same hn hm hk ho h.2⟩ (RepKV.same hn hm hk ho t)
theorem CellOk.same {cl:Mo} {B B':Bx} {H:Hp} {a:Addr} {c:Cell} (hn:B'.n=B.n) (hm:B'.m=B.m) (hk:B'.ks=B.ks) (ho:∀a,B.ok a→B'.ok a) (k:CellOk cl B H a c):CellOk cl B' H a c:=by
  cases c with
  | lst xs=>obtain ⟨vs,e,r⟩:=k; exact ⟨vs,e,r.same hn hm hk ho⟩
  | dK kvs=>obtain ⟨vs,e,r⟩:=k; exact ⟨vs,e,r.same hn hm hk ho⟩
  | dT kvs=>obtain ⟨vs,e,r⟩:=k; exact ⟨vs,e,r.same hn hm hk ho⟩
  | ins C fs=>obtain ⟨dx,vs,e,r⟩:=k; exact ⟨dx,vs,e,r.same hn hm hk ho⟩
theorem ZjC {cl:Mo} {B:Bx} {θ:Sto} {H:Hp} (G:Good cl B θ H):Good cl B.inC θ H:=
  ⟨G.len,G.inj,fun i c e=>CellOk.same (B:=B) (B':=B.inC) rfl rfl rfl (fun a=>inC_ok.mpr) (G.cel i c e),fun i hi=>⟨fun z=>z.elim (G.cF i hi).1 (G.cF i hi).2,fun z=>nomatch z⟩,fun a z=>z.elim (G.Fs a) (G.oS a),fun a z=>(nomatch z),fun a z=>(nomatch z),G.kc⟩
theorem ZnM {cl:Mo} {B B':Bx} {θ θ':Sto} {H H':Hp} (G:Good cl B θ H) (E:ExtE B.inC B' H H') (G':Good cl B' θ' H') :
    ExtE B { B' with F:=B.F,os:=B.os } H H'∧Good cl { B' with F:=B.F,os:=B.os } θ' H'∧∀d v,RepV B' H' d v→RepV { B' with F:=B.F,os:=B.os } H' d v:=by
  have hF:B'.F=fun a=>B.F a∨a∈B.os:=E.F
  have ho:∀a,B'.ok a→Bx.ok { B' with F:=B.F,os:=B.os } a:=fun a ⟨h1,h2,h3⟩=>by
    rw [hF] at h2
    exact ⟨h1,fun z=>h2 (.inl z),fun z=>h2 (.inr z)⟩
  have keep:∀a o,H a=some o→(∀i,i<B.n→B.m i≠a)→H' a=some o:=fun a o h k=>E.keep a o h k (fun z=>nomatch z)
  refine ⟨⟨⟨E.n,E.m,E.fr,fun a o h k _=>keep a o h k,E.sm,fun a h=>.inl h,rfl,E.ks⟩,rfl,fun a o _ k h=>keep a o h k⟩,⟨G'.len,G'.inj,fun i c e=>CellOk.same (B:=B') (B':={ B' with F:=B.F,os:=B.os }) rfl rfl rfl ho (G'.cel i c e),fun i hi=>?_,fun a z=>E.sm a (G.Fs a z),fun a z=>E.sm a (G.oS a z),G.oF,G'.kc⟩,fun d v r=>RepV.same (B:=B') (B':={ B' with F:=B.F,os:=B.os }) rfl rfl rfl ho r⟩
  have:=(G'.cF i hi).1
  rw [hF] at this
  exact ⟨fun z=>this (.inl z),fun z=>this (.inr z)⟩
theorem Ze2 {f:GM} {σ:St} {B:Bx} {θ:Sto} {H:Hp} {ds:List D} {vs:List V} {Q:VK} {E:XK} (G:Good X.cl B θ H) (r:RepL B H ds vs) (w:wpR X σ RepV B H (f ds θ) Q):spM X.cl f vs H Q E:=by
  refine ⟨B.inC,θ,ds,rfl,ZjC G,RepL.same (B:=B) (B':=B.inC) rfl rfl rfl (fun a=>inC_ok.mpr) r,?_⟩
  cases e:f ds θ with
  | bad=>rw [e] at w; exact w
  | ex c θ'=>rw [e] at w; exact w
  | ok d θ'=>
    rw [e] at w
    intro B' H' v E' G' rv
    obtain ⟨h1,h2,h3⟩:=ZnM G E' G'
    exact w _ H' v h1 h2 (h3 d v rv)
theorem Zj {k j:Nat} {x:Str} {f:GM} {p pos:Pos} {e:Expr} {es:List Expr} {fs:AM} (D0:Zx X.prog X.w X.K X.mg X.base k x f) (hr:Room j X.A) (hj:k≤j) (ha:MA X (e::es) fs) (hg:Gl X x:=by rfl) (hdb:(x == ("__debug__":Str))=false:=by decide)
    (he:starEach (e::es) X.env=(false,eval e X.env)::starEach es X.env:=by rfl) (hpl:(backTo pos (starEach es X.env)).any (·.1)=false:=by rfl):ME X (.Call (.Name x p) (e::es) [] pos) (mCB f fs):=by
  obtain ⟨ps,D0⟩:=D0
  refine PE.imp (Zi5 D0 hr hj ha hg hdb he hpl) fun σ H Q h=>?_
  obtain ⟨B,θ,ρ,F,w⟩:=h
  refine zN (Zcw F w) ?_
  rintro vs H1 ⟨B1,θ1,ds,E1,F1,rd,w1⟩
  rw [List.append_nil]
  exact Ze2 F1.good rd w1
end
end L2.MM
namespace L2.MM
open PySem PySem.Spec PyProof.Rows PySem.SeqAt
noncomputable section
def ZgN (K:PySem.W.Frag):Sp:=fun vs H Q _=>∃(a:Addr) (ns:List Int),vs=[.ref a]∧Zk6 H∧SqL K H a (ns.map V.int)∧ns.length≤63∧∀H',Q (.bl true) H'
theorem ZkR {P:Program} {w:World} {K:PySem.W.Frag} {mg:Str→Option Value} {base:Heap} {k:Nat} {f:Addr} {fd:FuncData} {ps:List Str} {g:GM} (h:∀ns:List Int,ns.length≤63→∃θ',g [.scr ns] []=.ok (.bl true) θ')
    (F:FnOk P w K mg base CX0 k f fd ps (spM ⟨ZU mg,K⟩ g)):FnOk P w K mg base CX0 k f fd ps (ZgN K):=by
  refine F.imp ?_
  rintro vs H Q E ⟨a,ns,rfl,hO,hS,hl,q⟩
  obtain ⟨θ',e⟩:=h ns hl
  refine ⟨⟨0,fun _=>0,fun _=>False,[],KL K⟩,[],[.scr ns],rfl,⟨rfl,fun i j hi=>absurd hi (Nat.not_lt_zero _),fun i c h=>by simp at h,fun i hi=>absurd hi (Nat.not_lt_zero _),fun a h=>h.elim,fun a h=>(nomatch h),fun a h=>(nomatch h),fun a ns h=>h⟩,?_,?_⟩
  · refine ⟨.ref a,[],rfl,⟨a,rfl,?_⟩,rfl⟩
    rcases hS with (h1 | ⟨o,h1⟩) | h1
    · rcases hO a with z | ⟨o,xs,z⟩
      · rw [z] at h1; cases h1
      · rw [z] at h1; cases h1
    · exact .inl ⟨o,h1,fun i hi=>absurd hi (Nat.not_lt_zero _),fun z=>z,fun z=>(nomatch z)⟩
    · exact .inr h1
  · rw [e]
    intro B' H' v _ _ rv
    cases (show v=V.bl true from rv)
    exact q H'
end
end L2.MM
namespace L2.MM
open PySem PySem.Spec PyProof.Rows PySem.SeqAt
noncomputable section
section
variable {i j k:Nat} {ρ:List Sl} {θ:Sto} {f g h:EM} {fs:AM} {t u:TMr}
@[simp] theorem Zk7:Zd i ρ θ=match ρ[i]? with | some (Sl.val d)=>.ok d θ | _=>.bad:=nr rfl
@[simp] theorem x_c {d:D}:mC d ρ θ=.ok d θ:=nr rfl
@[simp] theorem Znc {o:OM}:mOp o f g ρ θ=(f ρ θ).bind fun x θ=>(g ρ θ).bind fun y θ=>o x y θ:=nr rfl
@[simp] theorem Zpj:ZM f ρ θ=(f ρ θ).bind fun x θ=>match x with | .bl k=>.ok k θ | _=>.bad:=nr rfl
@[simp] theorem Zqn:Zdg f ρ θ=(f ρ θ).bind fun x θ=>match ZeH θ x with | some k=>.ok k θ | none=>.bad:=nr rfl
@[simp] theorem Zqz:ZkQ t u ρ θ=(t ρ θ).bind fun k θ=>if k=true then u ρ θ else .ok false θ:=nr rfl
@[simp] theorem ZqP:mOr t u ρ θ=(t ρ θ).bind fun k θ=>if k=true then .ok true θ else u ρ θ:=nr rfl
@[simp] theorem Zqr:Zgu t ρ θ=(t ρ θ).bind fun k θ=>.ok (!k) θ:=nr rfl
def Zol (g:Sto→R D):D→Sto→R D
  | .bl true,θ=>g θ
  | .bl false,θ=>.ok (.bl false) θ
  | _,_=>.bad
def orK (g:Sto→R D):D→Sto→R D
  | .bl true,θ=>.ok (.bl true) θ
  | .bl false,θ=>g θ
  | _,_=>.bad
@[simp] theorem ZoG {g:Sto→R D} {k:Bool}:Zol g (.bl k) θ=if k=true then g θ else .ok (.bl false) θ:=by cases k<;>rfl
@[simp] theorem ZpU {g:Sto→R D} {k:Bool}:orK g (.bl k) θ=if k=true then .ok (.bl true) θ else g θ:=by cases k<;>rfl
@[simp] theorem Zpr:Zg8 f g ρ θ=(f ρ θ).bind (Zol (g ρ)):=by
  show (f ρ θ).bind _=_
  congr 1
  funext x θ
  cases x<;>first | rfl | (rename_i b; cases b<;>rfl)
@[simp] theorem Zqq:Zmw f g ρ θ=(f ρ θ).bind (orK (g ρ)):=by
  show (f ρ θ).bind _=_
  congr 1
  funext x θ
  cases x<;>first | rfl | (rename_i b; cases b<;>rfl)
@[simp] theorem Zn4 {p:Prop} [Decidable p] {m:Bool}:(if p then R.ok (D.bl m) θ else R.ok (D.bl false) θ)=R.ok (D.bl (decide p && m)) θ:=by by_cases h:p<;>simp [h]
@[simp] theorem Zoz {p:Prop} [Decidable p] {m:Bool}:(if p then R.ok (D.bl true) θ else R.ok (D.bl m) θ)=R.ok (D.bl (decide p || m)) θ:=by by_cases h:p<;>simp [h]
@[simp] theorem Zm4 {p:Prop} [Decidable p] {m:Bool}:(if p then R.ok m θ else R.ok false θ)=R.ok (decide p && m) θ:=by by_cases h:p<;>simp [h]
@[simp] theorem Zn3 {p:Prop} [Decidable p] {m:Bool}:(if p then R.ok true θ else R.ok m θ)=R.ok (decide p || m) θ:=by by_cases h:p<;>simp [h]
@[simp] theorem Zqs:ZpY f ρ θ=(f ρ θ).bind fun x θ=>match x with | .int i=>.ok (.int (-i)) θ | _=>.bad:=nr rfl
@[simp] theorem Zqu:ZdI t f g ρ θ=(t ρ θ).bind fun k θ=>if k=true then f ρ θ else g ρ θ:=nr rfl
@[simp] theorem Zk8:Zk ρ θ=.ok [] θ:=nr rfl
@[simp] theorem Ziz:Zc f fs ρ θ=(f ρ θ).bind fun x θ=>(fs ρ θ).bind fun xs θ=>.ok (x::xs) θ:=nr rfl
@[simp] theorem Zqm:Za4 fs ρ θ=(fs ρ θ).bind fun xs θ=>if xs.length≤BIG then .ok (.tup xs) θ else .bad:=nr rfl
@[simp] theorem Znd:ZaH fs ρ θ=(fs ρ θ).bind fun xs θ=>if xs.length≤BIG then .ok (.lst xs) θ else .bad:=nr rfl
@[simp] theorem Zps {o:GM}:mCB o fs ρ θ=(fs ρ θ).bind fun xs θ=>o xs θ:=nr rfl
@[simp] theorem Ziy:Zam ρ θ=.ok none θ:=nr rfl
@[simp] theorem ZlD:ZaK f ρ θ=(f ρ θ).bind fun x θ=>match x with | .int i=>.ok (some i) θ | _=>.bad:=nr rfl
@[simp] theorem Zpk {lo hi:PM}:mSl f lo hi ρ θ=(f ρ θ).bind fun x θ=>(lo ρ θ).bind fun l θ=>(hi ρ θ).bind fun h θ=>match Zcj θ x l h with
  | some d=>.ok d θ
  | none=>.bad:=nr rfl
@[simp] theorem Zqo {lo hi st:PM}:ZkO f lo hi st ρ θ=(f ρ θ).bind fun x θ=>(lo ρ θ).bind fun l θ=>(hi ρ θ).bind fun h θ=>(st ρ θ).bind fun s θ=>match zJ θ x with
  | some xs=>if s≠some 0∧(Za2 xs l h s).length≤BIG then .ok (.lst (Za2 xs l h s)) θ else .bad
  | none=>.bad:=nr rfl
@[simp] theorem ZqR:mIn f ρ θ=(f ρ θ).bind fun d θ=>match seqOf θ d with | some _=>.ok (.seq d) θ | none=>.bad:=nr rfl
@[simp] theorem Zpm:zX fs ρ θ=(fs ρ θ).bind fun ds θ=>match ds with
  | [.int j]=>if -1000000≤j∧j≤1000000 then .ok (.rng 0 j.toNat) θ else .bad
  | _=>.bad:=by
  unfold zX; exact nr rfl
variable {a b:SM} {Fl':Fl×List Sl}
@[simp] theorem ZlC:zb ρ θ=.ok (.nx,ρ) θ:=nr rfl
@[simp] theorem Zqy:ZkP ρ θ=.bad:=nr rfl
@[simp] theorem ZmQ {ρ':List Sl}:Zdt (.ok (.nx,ρ') θ) a=a ρ' θ:=nr rfl
@[simp] theorem ZmP {ρ':List Sl} {d:D}:Zdt (.ok (.rt d,ρ') θ) a=.ok (.rt d,ρ') θ:=nr rfl
@[simp] theorem Zqp:Zq a b ρ θ=Zdt (a ρ θ) b:=nr rfl
@[simp] theorem Zpp:Zc8 f ρ θ=(f ρ θ).bind fun _ θ=>.ok (.nx,ρ) θ:=nr rfl
@[simp] theorem Zix:ZO f ρ θ=(f ρ θ).bind fun d θ=>.ok (.rt d,ρ) θ:=nr rfl
@[simp] theorem Zng:mIf t a b ρ θ=(t ρ θ).bind fun k θ=>if k=true then a ρ θ else b ρ θ:=nr rfl
@[simp] theorem Znb:Z7 i f ρ θ=(f ρ θ).bind fun d θ=>.ok (.nx,ρ.set i (.val d)) θ:=nr rfl
@[simp] theorem Zna:ZeR i fs ρ θ=(fs ρ θ).bind fun xs θ=>if xs.length≤BIG then .ok (.nx,ρ.set i (.own xs)) θ else .bad:=nr rfl
@[simp] theorem Zni:ZcD i f ρ θ=(f ρ θ).bind fun d θ=>match ρ[i]? with
  | some (Sl.own xs)=>if xs.length<BIG then .ok (.nx,ρ.set i (.own (xs++[d]))) θ else .bad
  | _=>.bad:=nr rfl
@[simp] theorem Znh:zD i a ρ θ=match ρ[i]? with | some (Sl.own xs)=>a (ρ.set i (.val (.lst xs))) θ | _=>a ρ θ:=nr rfl
@[simp] theorem ZaX {ρ':List Sl}:Zf6 a (.nx,ρ') θ=a ρ' θ:=nr rfl
@[simp] theorem Zqv {d:D}:gNm i d ρ=some (ρ.set i (.val d)):=nr rfl
@[simp] theorem Zqx {np nn:Nat} {ds:List D}:Z0 np nn a ds θ=if ds.length=np then (a (Zbi nn ds) θ).bind fun p θ=>match p.1 with | .nx=>.ok .non θ | .rt d=>.ok d θ | _=>.bad else .bad:=nr rfl
@[simp] theorem Zon {n:Nat} {ds:List D}:Zbi n ds=ds.map Sl.val++List.replicate (n-ds.length) Sl.no:=nr rfl
@[simp] theorem ZfH {xs:List D}:seqOf θ (.tup xs)=some xs:=nr rfl
@[simp] theorem ZmO {b:Bool}:ZeH θ (.bl b)=some b:=nr rfl
@[simp] theorem ZlB {ns:List Int}:ZeH θ (.scr ns)=some (!(ns.map D.int).isEmpty):=nr rfl
@[simp] theorem ZlF {xs:List D}:look θ (.lst xs)=.lst xs:=nr rfl
@[simp] theorem ZlG {n:Int}:look θ (.int n)=.int n:=nr rfl
@[simp] theorem ZlE {n:Str}:look θ (.str n)=.str n:=nr rfl
@[simp] theorem ZfJ {xs:List D} {n:Int}:ixM (.lst xs) (.int n) θ=match atI xs n with | some d=>.ok d θ | none=>.bad:=nr rfl
@[simp] theorem ZfI {xs:List D} {n:Int}:ixM (.tup xs) (.int n) θ=match atI xs n with | some d=>.ok d θ | none=>.bad:=nr rfl
@[simp] theorem Znf {xs:List Int} {n:Int}:ixM (.scr xs) (.int n) θ=match atI (xs.map D.int) n with | some d=>.ok d θ | none=>.bad:=nr rfl
@[simp] theorem Zne {xs:List D}:Zdh [.lst xs] θ=.ok (.int xs.length) θ:=nr rfl
@[simp] theorem ZmR {xs:List Int}:Zdh [.scr xs] θ=.ok (.int (xs.map D.int).length) θ:=nr rfl
@[simp] theorem Zm9 {xs:List D}:Zhq [.lst xs] θ=match ZcF xs with | some ns=>.ok (.int ns.sum) θ | none=>.bad:=nr rfl
@[simp] theorem Zqt {m n:Int}:Zf3 [.int m,.int n] θ=.ok (.int (if n<m then n else m)) θ:=nr rfl
@[simp] theorem Zpn {m n k:Int}:Zf3 [.int m,.int n,.int k] θ=.ok (.int (if n<m then (if k<n then k else n) else (if k<m then k else m))) θ:=nr rfl
@[simp] theorem Zpo {k:Bool}:ZkU [.bl k] θ=.ok (.int (if k then 1 else 0)) θ:=nr rfl
@[simp] theorem Ziw {xs:List D} {lo hi:Option Int}:Zcj θ (.lst xs) lo hi=some (.lst (Zbr xs lo hi)):=nr rfl
@[simp] theorem ZqQ {x:D}:isM x .non θ=.ok (.bl (z8 x)) θ:=nr rfl
@[simp] theorem Zoo {x:D}:ZcY x .non θ=.ok (.bl (!z8 x)) θ:=nr rfl
end
mutual
def pl:Nat→D→Bool
  | _,.non=>true
  | _,.bl _=>true
  | _,.int _=>true
  | _,.str x=>PyData.strOk x
  | k+1,.tup xs=>pls k xs
  | k+1,.lst xs=>pls k xs
  | _,_=>false
def pls:Nat→List D→Bool
  | _,[]=>true
  | k,d::r=>pl k d && pls k r
end
mutual
def noB:D→Bool
  | .bl _=>false
  | .tup xs=>ZdB xs
  | .lst xs=>ZdB xs
  | _=>true
def ZdB:List D→Bool
  | []=>true
  | d::r=>noB d && ZdB r
end
mutual
theorem ZgS:∀(k:Nat) (d:D),pl k d=true→plain d=true∧(dat d).canLay0=true∧(dat d).depth≤k
  | _,.non,_=>⟨rfl,rfl,Nat.zero_le _⟩
  | _,.bl _,_=>⟨rfl,rfl,Nat.zero_le _⟩
  | _,.int _,_=>⟨rfl,rfl,Nat.zero_le _⟩
  | k,.str x,h=>⟨rfl,by cases k<;>simpa [pl,dat,PyData.canLay0] using h,Nat.zero_le _⟩
  | k+1,.tup xs,h=>by
    obtain ⟨a,b,c⟩:=Zgm k xs (by simpa [pl] using h)
    exact ⟨a,b,by simp only [dat,PyData.depth]; omega⟩
  | k+1,.lst xs,h=>by
    obtain ⟨a,b,c⟩:=Zgm k xs (by simpa [pl] using h)
    exact ⟨a,b,by simp only [dat,PyData.depth]; omega⟩
  | 0,.tup xs,h=>by simp [pl] at h
  | 0,.lst xs,h=>by simp [pl] at h
  | 0,.ty _,h=>by simp [pl] at h
  | 0,.scr _,h=>by simp [pl] at h
  | 0,.ref _,h=>by simp [pl] at h
  | _+1,.ty _,h=>by simp [pl] at h
  | _+1,.scr _,h=>by simp [pl] at h
  | _+1,.ref _,h=>by simp [pl] at h
theorem Zgm:∀(k:Nat) (ds:List D),pls k ds=true→z6 ds=true∧PyData.canLayAll0 (ZbL ds)=true∧PyData.depthAll (ZbL ds)≤k
  | _,[],_=>⟨rfl,rfl,Nat.zero_le _⟩
  | k,d::r,h=>by
    have h':pl k d=true∧pls k r=true:=by simpa [pls] using h
    obtain ⟨a,b,c⟩:=ZgS k d h'.1
    obtain ⟨a',b',c'⟩:=Zgm k r h'.2
    exact ⟨by simp [z6,a,a'],by simp [ZbL,PyData.canLayAll0,b,b'],by simp only [ZbL,PyData.depthAll]; omega⟩
end
mutual
theorem Zg3:∀(d e:D),noB d=true→noB e=true→noMix (dat d) (dat e)=true:=fun d e p q=>by
  cases d with
  | bl _=>simp [noB] at p
  | tup xs=>
    cases e with
    | bl _=>simp [noB] at q
    | tup ys=>simp only [dat,noMix]; exact ZdA xs ys p q
    | _=>simp [dat,noMix]
  | lst xs=>
    cases e with
    | bl _=>simp [noB] at q
    | lst ys=>simp only [dat,noMix]; exact ZdA xs ys p q
    | _=>simp [dat,noMix]
  | _=>cases e<;>simp_all [noB,dat,noMix]
theorem ZdA:∀(ds es:List D),ZdB ds=true→ZdB es=true→noMixAll (ZbL ds) (ZbL es)=true
  | [],[],_,_=>rfl
  | [],_::_,_,_=>rfl
  | _::_,[],_,_=>rfl
  | d::ds,e::es,p,q=>by
    have p':noB d=true∧ZdB ds=true:=by simpa [ZdB] using p
    have q':noB e=true∧ZdB es=true:=by simpa [ZdB] using q
    simp only [ZbL,noMixAll,Bool.and_eq_true]
    exact ⟨Zg3 d e p'.1 q'.1,ZdA ds es p'.2 q'.2⟩
end
theorem Zeg {k:Nat} {d:D} (h:pl k d=true) (hk:k≤64):shaped (dat d)=true:=by
  obtain ⟨_,b,c⟩:=ZgS k d h
  unfold shaped
  rw [b,decide_eq_true (by omega)]
  rfl
theorem ZdR {x y:D} (h1:pl 9 x=true) (h2:pl 9 y=true) (h3:noB x=true) (h4:noB y=true):Zgh x y:=
  ⟨(ZgS _ _ h1).1,(ZgS _ _ h2).1,Zeg h1 (by decide),Zeg h2 (by decide),Zg3 x y h3 h4⟩
section
open Classical
theorem ZgD {x y:D} {θ:Sto} (h:Zgh (look θ x) (look θ y)):eqM x y θ=.ok (.bl (decide (look θ x=look θ y))) θ:=if_pos h
theorem Zjg {x y:D} {θ:Sto} (h:Zgh (look θ x) (look θ y)):neM x y θ=.ok (.bl (!decide (look θ x=look θ y))) θ:=if_pos h
end
@[simp] theorem ZnH (k:Nat) (ns:List Int):pls k (ns.map D.int)=true:=by
  induction ns with
  | nil=>rfl
  | cons n r ih=>simp only [List.map_cons,pls,ih,Bool.and_true]; cases k<;>rfl
@[simp] theorem Zm2 (ns:List Int):ZdB (ns.map D.int)=true:=by
  induction ns with
  | nil=>rfl
  | cons n r ih=>simp only [List.map_cons,ZdB,ih,Bool.and_true]; rfl
@[simp] theorem Zlp (ns ms:List Int):(ns.map D.int=ms.map D.int)↔ns=ms:=by
  constructor
  · intro h
    have:∀(ns ms:List Int),ns.map D.int=ms.map D.int→ns=ms:=fun ns=>by
      induction ns with
      | nil=>intro ms h; cases ms with
        | nil=>rfl
        | cons _ _=>cases h
      | cons n r ih=>intro ms h; cases ms with
        | nil=>cases h
        | cons m s=>simp at h; rw [h.1,ih s h.2]
    exact this ns ms h
  · intro h; rw [h]
@[simp] theorem Zqf (a b:Int) (θ:Sto):eqM (.int a) (.int b) θ=.ok (.bl (decide (a=b))) θ:=by
  rw [ZgD (ZdR rfl rfl rfl rfl)]
  simp
@[simp] theorem ZpX (a b:Int) (θ:Sto):neM (.int a) (.int b) θ=.ok (.bl (!decide (a=b))) θ:=by
  rw [Zjg (ZdR rfl rfl rfl rfl)]
  simp
@[simp] theorem ZkY (a b:List Int) (θ:Sto):eqM (.lst (a.map D.int)) (.lst (b.map D.int)) θ=.ok (.bl (decide (a=b))) θ:=by
  rw [ZgD (ZdR (by simp [pl]) (by simp [pl]) (by simp [noB]) (by simp [noB]))]
  simp
@[simp] theorem ZkJ (a b:List Int) (θ:Sto):neM (.lst (a.map D.int)) (.lst (b.map D.int)) θ=.ok (.bl (!decide (a=b))) θ:=by
  rw [Zjg (ZdR (by simp [pl]) (by simp [pl]) (by simp [noB]) (by simp [noB]))]
  simp
end
end L2.MM
namespace L2.MM
open PySem PySem.Spec PyProof.Rows PySem.SeqAt My
noncomputable section
@[simp] theorem ZmN:BIG=100000:=nr rfl
def il (ns:List Int):D:=.lst (ns.map D.int)
def itp (ns:List Int):D:=.tup (ns.map D.int)
section
variable {θ:Sto} {a b ns ms:List Int} {i j:Int}
@[simp] theorem ZqM:D.lst (ns.map D.int)=il ns:=nr rfl
theorem ZbK:D.lst []=il []:=rfl
@[simp] theorem Zoe (x y:Int):D.lst [.int x,.int y]=il [x,y]:=nr rfl
@[simp] theorem ZqL (x y z w:Int):D.lst [.int x,.int y,.int z,.int w]=il [x,y,z,w]:=nr rfl
@[simp] theorem Zn6:zJ θ (il a)=some (a.map D.int):=nr rfl
@[simp] theorem Zjw:ZN (il a) (il b) θ=if a.length+b.length≤BIG then .ok (il (a++b)) θ else .bad:=by
  unfold il
  rw [ZjY]
  simp [il]
theorem ZeW (h:a.length+b.length≤100000):ZN (il a) (il b) θ=.ok (il (a++b)) θ:=by
  rw [Zjw,if_pos h]
@[simp] theorem Zp3:Zdh [il a] θ=.ok (.int a.length) θ:=by
  unfold il; rw [Zne]; simp
theorem Zk3 {α β:Type} (f:α→β) (xs:List α) (n:Int):atI (xs.map f) n=(atI xs n).map f:=by
  unfold L2.atI
  rw [List.length_map]
  cases ixN xs.length n with
  | none=>rfl
  | some k=>simp
theorem Zn7:ixM (il a) (.int i) θ=match atI a i with | some z=>.ok (.int z) θ | none=>.bad:=by
  unfold il
  rw [ZfJ,Zk3]
  cases atI a i<;>rfl
theorem ZjX {xs:List Int} {i:Int} (h0:0≤i) (h:i<xs.length):atI xs i=some (xs.getD i.toNat 0):=by
  have c:i=((i.toNat:Nat):Int):=by omega
  rw [c]
  refine Zb9 ?_
  have d:i.toNat<xs.length:=by omega
  rw [List.getD_eq_getElem?_getD,Int.toNat_natCast,List.getElem?_eq_getElem d]
  rfl
def gt (a:List Int) (i:Nat):Int:=a.getD i 0
theorem ZeV (h0:0≤i) (h:i<a.length):ixM (il a) (.int i) θ=.ok (.int (gt a i.toNat)) θ:=by rw [Zn7,ZjX h0 h]; rfl
@[simp] theorem Zp5 {x:Int} {r:List Int}:ixM (il (x::r)) (.int 0) θ=.ok (.int x) θ:=ZeV (a:=x::r) (i:=0) (by decide) (by rw [List.length_cons]; omega)
@[simp] theorem Zp4 {x y:Int} {r:List Int}:ixM (il (x::y::r)) (.int 1) θ=.ok (.int y) θ:=ZeV (a:=x::y::r) (i:=1) (by decide) (by rw [List.length_cons,List.length_cons]; omega)
@[simp high] theorem ZqT {x:D} {r:List D}:ixM (.tup (x::r)) (.int 0) θ=.ok x θ:=by
  rw [ZfI,show (0:Int)=((0:Nat):Int) from rfl,Zb9 (j:=0) (v:=x) rfl]
@[simp high] theorem ZqS {x y:D} {r:List D}:ixM (.tup (x::y::r)) (.int 1) θ=.ok y θ:=by
  rw [ZfI,show (1:Int)=((1:Nat):Int) from rfl,Zb9 (j:=1) (v:=y) rfl]
theorem ZjS {α β:Type} (f:α→β) (xs:List α) (lo hi:Option Int):Zbr (xs.map f) lo hi=(Zbr xs lo hi).map f:=by
  unfold Zbr
  rw [List.length_map,List.map_take,List.map_drop]
@[simp] theorem Zhe {lo hi:Option Int}:Zcj θ (il a) lo hi=some (il (Zbr a lo hi)):=by
  unfold il; rw [Ziw,ZjS]
@[simp] theorem ZoA:Zf7 [itp a] θ=.ok (il a) θ:=nr rfl
@[simp] theorem Zn5:ZeG [il a] θ=.ok (itp a) θ:=nr rfl
@[simp] theorem Zp2:Zhq [il a] θ=.ok (.int a.sum) θ:=by unfold il; rw [Zm9,Zjv]
@[simp] theorem ZqG:eqM (il a) (il b) θ=.ok (.bl (decide (a=b))) θ:=ZkY a b θ
@[simp] theorem ZqF:neM (il a) (il b) θ=.ok (.bl (!decide (a=b))) θ:=ZkJ a b θ
theorem ZcS {α β:Type} (f:α→β) (xs:List α) (lo hi st:Option Int):Za2 (xs.map f) lo hi st=(Za2 xs lo hi st).map f:=by
  unfold Za2
  rw [List.length_map,List.map_filterMap]
  congr
  funext k
  simp
theorem ZdH:∀{ns ms:List Int},ns.map V.int=ms.map V.int→ns=ms
  | [],[],_=>rfl
  | [],_::_,h=>by cases h
  | _::_,[],h=>by cases h
  | _::_,_::_,h=>by simp at h; rw [h.1,ZdH h.2]
@[simp] theorem Zli (ns:List Int):Za2 ns none none (some 2)=Zby ns:=ZdH (by
  have:=ZhO ns
  rw [show ZbC (ns.map V.int) none none (some 2)=Za2 (ns.map V.int) none none (some 2) from rfl,ZcS] at this
  exact this)
@[simp] theorem Zmd (ns:List Int):Za2 ns (some 1) none (some 2)=Zdy ns:=ZdH (by
  have:=ZjQ ns
  rw [show ZbC (ns.map V.int) (some 1) none (some 2)=Za2 (ns.map V.int) (some 1) none (some 2) from rfl,ZcS] at this
  exact this)
end
theorem ZiP {n d:Nat} {k:Int} (h:0≤k):HT.sIx n d (some k)=min k.toNat n:=by
  have c:k=((k.toNat:Nat):Int):=by omega
  rw [c]
  exact HT.sIx_nat n d k.toNat
theorem ZmK {α:Type} (xs:List α) {k:Int} (h:0≤k):Zbr xs none (some k)=xs.take k.toNat:=by
  unfold Zbr
  rw [HT.sIx_none,ZiP h,List.drop_zero,Nat.sub_zero,←List.take_take,List.take_length]
theorem ZjR {α:Type} (xs:List α) {k:Int} (h:0≤k):Zbr xs (some k) none=xs.drop k.toNat:=by
  unfold Zbr
  rw [HT.sIx_none,ZiP h]
  by_cases q:k.toNat≤xs.length
  · rw [Nat.min_eq_left q,List.take_of_length_le]
    rw [List.length_drop]
    exact Nat.le_refl _
  · rw [Nat.min_eq_right (by omega),List.drop_length,List.drop_eq_nil_of_le (by omega)]
    simp
section
variable {θ:Sto} {ρ:List Sl}
@[simp] theorem Zax {lo:Int} {n:Nat}:(Src.rng lo n).items θ=some ((List.range n).map fun (i:Nat)=>D.int (lo+(i:Int))):=nr rfl
@[simp] theorem ZmZ {d:D}:(Src.seq d).items θ=seqOf θ d:=nr rfl
open Classical in
theorem for_rng {lo:Int} {n:Nat} {all:List D} {tg:TgM} {body:SM} (st:Nat→List Sl) (hs:∀i ρ1,i<n→tg (.int (lo+i)) (st i)=some ρ1→body ρ1 θ=.ok (.nx,st (i+1)) θ) (ht:∀i,i<n→∃ρ1,tg (.int (lo+i)) (st i)=some ρ1) (hall:all=(List.range n).map fun (i:Nat)=>D.int (lo+(i:Int))) :
    Za8 (.rng lo n) all tg body all (st 0) θ=.ok (.nx,st n) θ:=by
  subst hall
  have key:∀m,m≤n→Za8 (.rng lo n) ((List.range n).map fun (i:Nat)=>D.int (lo+(i:Int))) tg body (((List.range n).map fun (i:Nat)=>D.int (lo+(i:Int))).drop (n-m)) (st (n-m)) θ=.ok (.nx,st n) θ:=fun m=>by
    induction m with
    | zero=>
      intro _
      rw [Nat.sub_zero,List.drop_eq_nil_of_le (by simp)]
      simp [Za8]
    | succ m ih=>
      intro hm
      have hlt:n-(m+1)<n:=by omega
      rw [List.drop_eq_getElem_cons (by simpa using hlt)]
      obtain ⟨ρ1,h1⟩:=ht (n-(m+1)) hlt
      have h2:=hs (n-(m+1)) ρ1 hlt h1
      have e:n-(m+1)+1=n-m:=by omega
      simp only [List.getElem_map,List.getElem_range,Za8,Zax,if_true,h1]
      rw [h2,R.bind_ok,ZaX,e]
      exact ih (by omega)
  have:=key n (Nat.le_refl _)
  rw [Nat.sub_self,List.drop_zero] at this
  exact this
end
end
end L2.MM
namespace L2.MM
open PySem PySem.Spec PyProof.Rows PySem.SeqAt
noncomputable section
variable {X:Cx}
def Zao (f:Str) (v:D):List (Str×D)→List (Str×D)
  | []=>[(f,v)]
  | (g,x)::r=>if g=f then (g,v)::r else (g,x)::Zao f v r
theorem RepKV.put {B:Bx} {H:Hp} {f:Str} {d:D} {v:V} (q:RepV B H d v):∀{fs:List (Str×D)} {vs:List (Str×V)},RepKV B H fs vs→RepKV B H (Zao f d fs) (Za0 f v vs)
  | _,_,.nil=>.cons ⟨rfl,q⟩ .nil
  | (g,x)::fs,(g',y)::vs,.cons h t=>by
    obtain ⟨h1,h2⟩:=h
    cases (show g=g' from h1)
    unfold Zao Za0
    by_cases e:g=f
    · rw [if_pos e,if_pos e]; exact .cons ⟨rfl,q⟩ t
    · rw [if_neg e,if_neg e]; exact .cons ⟨rfl,h2⟩ (RepKV.put q t)
theorem RepKV.len {κ:Type} {B:Bx} {H:Hp}:∀{fs:List (κ×D)} {vs:List (κ×V)},RepKV B H fs vs→vs.length=fs.length
  | _,_,.nil=>rfl
  | _,_,.cons _ t=>by rw [List.length_cons,List.length_cons,RepKV.len t]
theorem RepKV.get {B:Bx} {H:Hp} {f:Str} {d:D}:∀{fs:List (Str×D)} {vs:List (Str×V)},RepKV B H fs vs→fs.lookup f=some d→∃v,vs.lookup f=some v∧RepV B H d v
  | _,_,.nil,h=>by cases h
  | (g,x)::fs,(g',y)::vs,.cons h t,e=>by
    obtain ⟨h1,h2⟩:=h
    cases (show g=g' from h1)
    rw [List.lookup_cons] at e ⊢
    cases q:f == g with
    | true=>rw [q] at e; cases e; exact ⟨y,rfl,h2⟩
    | false=>rw [q] at e; exact RepKV.get t e
theorem RepKV.none {B:Bx} {H:Hp} {f:Str}:∀{fs:List (Str×D)} {vs:List (Str×V)},RepKV B H fs vs→fs.lookup f=none→vs.lookup f=none
  | _,_,.nil,h=>rfl
  | (g,x)::fs,(g',y)::vs,.cons h t,e=>by
    obtain ⟨h1,h2⟩:=h
    cases (show g=g' from h1)
    rw [List.lookup_cons] at e ⊢
    cases q:f == g with
    | true=>rw [q] at e; cases e
    | false=>rw [q] at e; exact RepKV.none t e
def Zbx (θ:Sto):D→Option (Nat×Str×List (Str×D))
  | .ref l=>match θ[l]? with
    | some (.ins C fs)=>some (l,C,fs)
    | _=>none
  | _=>none
theorem ZdL {cl:Mo} {B:Bx} {θ:Sto} {H:Hp} (G:Good cl B θ H) {d:D} {v:V} {l:Nat} {C:Str} {fs:List (Str×D)} (r:RepV B H d v) (h:Zbx θ d=some (l,C,fs)) :
    l<B.n∧v=.ref (B.m l)∧∃dx vs,H (B.m l)=some (.ins (cl.cl C) dx vs)∧RepKV B H fs vs:=by
  cases d with
  | ref k=>
    simp only [Zbx] at h
    split at h
    · rename_i C' fs' e
      cases h
      obtain ⟨hl,rfl⟩:=r
      obtain ⟨dx,vs,h1,h2⟩:=G.cel _ _ e
      exact ⟨hl,rfl,dx,vs,h1,h2⟩
    · cases h
  | _=>cases h
def Z9 (cs:List Str) (f:Str):D→Sto→R D:=fun d θ=>match Zbx θ d with
  | some (_,C,fs)=>if cs.contains C=true then (match fs.lookup f with
    | some v=>.ok v θ
    | none=>.bad) else .bad
  | none=>.bad
def ZK (cs:List Str) (f:Str) (fe:EM):EM:=fun ρ θ=>(fe ρ θ).bind (Z9 cs f)
def ZlA (X:Cx) (f:Str) (C:Str):Prop:=Cls X.K (X.cl.cl C)∧NoAttr X.K (X.cl.cl C) f
theorem Zs {P:Str→Prop} {a:Str} (h:P a):∀C,[a].contains C=true→P C:=fun C hc=>by
  have:C=a:=by simpa using hc
  rw [this]; exact h
theorem Zo {cs:List Str} {f:Str} {e:Expr} {fe:EM} {pos:Pos} (hc:∀C,cs.contains C=true→ZlA X f C) (he:ME X e fe) (hb:attributeBase e f X.env (eval e X.env)=eval e X.env:=by rfl):ME X (.Attribute e f pos) (ZK cs f fe):=by
  refine PE.imp (Zmj he hb) fun σ H Q h=>?_
  obtain ⟨B,θ,ρ,F,w⟩:=h
  refine ZP (step F w) ?_
  rintro v H1 ⟨B1,θ1,d,E1,F1,rd,w1⟩
  unfold Z9 at w1
  split at w1
  · rename_i l C fs e1
    split at w1
    · rename_i hC
      split at w1
      · rename_i y ey
        obtain ⟨hl,rfl,dx,vs,h1,h2⟩:=ZdL F1.good rd e1
        obtain ⟨u,h3,h4⟩:=h2.get ey
        exact ⟨_,_,dx,vs,u,rfl,h1,(hc C hC).1,(hc C hC).2,h3,ZB F1.good h4 w1⟩
      · exact w1.elim
    · exact w1.elim
  · exact w1.elim
def Z4 (cs:List Str) (f:Str) (y d:D) (θ:Sto):Option Sto:=match Zbx θ d with
  | some (l,C,fs)=>if cs.contains C=true∧fs.length<1000 then some (θ.set l (.ins C (Zao f y fs))) else none
  | none=>none
def ZA (cs:List Str) (f:Str) (fe fv:EM):SM:=fun ρ θ=>(fv ρ θ).bind fun y θ=>(fe ρ θ).bind fun d θ=>match Z4 cs f y d θ with
  | some θ'=>.ok (.nx,ρ) θ'
  | none=>.bad
theorem Zw {cs:List Str} {f:Str} {o value:Expr} {fe fv:EM} {pos pos':Pos} (hc:∀C,cs.contains C=true→ZlA X f C) (he:ME X o fe) (hv:ME X value fv) (hs:swapsWith value (some (.Attribute o f pos')) pos.line X.env=pure false:=by rfl) :
    MS X (.Assign [.Attribute o f pos'] value pos) (ZA cs f fe fv):=
  PS.imp (Zmb he hv hs) fun D σ H h=>by
  obtain ⟨B,θ,ρ,F,w⟩:=h
  refine ZP (Zcv F w) ?_
  rintro y H1 ⟨B1,θ1,dy,E1,F1,ry,w1⟩
  refine ZP (Zcv F1 w1) ?_
  rintro v H2 ⟨B2,θ2,d,E2,F2,rd,w2⟩
  unfold Z4 at w2
  cases e1:Zbx θ2 d with
  | none=>rw [e1] at w2; exact w2.elim
  | some q=>
    obtain ⟨l,C,fs⟩:=q
    rw [e1] at w2
    simp only at w2
    by_cases hC:cs.contains C=true∧fs.length<1000
    · rw [if_pos hC] at w2
      obtain ⟨hl,rfl,dx,vs,h1,h2⟩:=ZdL F2.good rd e1
      refine ⟨_,_,dx,vs,rfl,h1,(hc C hC.1).1,(hc C hC.1).2,by rw [h2.len]; exact hC.2,?_⟩
      have E3:=Zdl F2.good hl (.ins (X.cl.cl C) dx (Za0 f y vs))
      have G3:=ZdN F2.good hl (o:=.ins (X.cl.cl C) dx (Za0 f y vs)) (c:=.ins C (Zao f dy fs)) ⟨dx,_,Z3,(h2.put (ry.ext E2.toExtS)).ext E3.toExtS⟩
      exact w2 _ _ _ E3.toExtS (F2.ext E3 G3)
    · rw [if_neg hC] at w2
      exact w2.elim
structure MMk (P:Program) (w:World) (K:PySem.W.Frag) (mg:Str→Option Value) (base:Heap) (k:Nat) (C:Str) (f:GM):Prop where
  ex:∃(fI:Addr) (fd:FuncData) (ps:List Str),Mk K (ZU mg C) fI∧FnOk P w K mg base CX0 k fI fd ps (spM ⟨ZU mg,K⟩ f)∧Binds K fd ps []
  mg:mg C=some (.ref (ZU mg C))
def mkG (C:Str) (f:GM):GM:=fun vs θ=>(f (.ref θ.length::vs) (θ++[.ins C []])).bind fun v θ'=>match v with
  | .non=>.ok (.ref θ.length) θ'
  | _=>.bad
theorem wpR.made {σ:St} {B:Bx} {θ:Sto} {H:Hp} {C:Str} {f:GM} {ds:List D} {vs:List V} {Q:VK} {E:XK} (G:Good X.cl B θ H) (r:RepL B H ds vs) (w:wpR X σ RepV B H (mkG C f ds θ) Q) :
    ∀x dx,H x=none→H dx=none→dx≠x→spM X.cl f (.ref x::(vs++[])) (upd (upd H dx (.own x)) x (.ins (X.cl.cl C) dx [])) (fun v H2=>v=.non∧Q (.ref x) H2) E:=by
  intro x dx hx hdx ne
  have E1:=ZaO G hdx (.own x)
  have G1:=ZcH G hdx (.own x)
  have hx1:upd H dx (.own x) x=none:=by rw [ZT (Ne.symm ne)]; exact hx
  have E2:=Za9 G1 hx1 (.ins (X.cl.cl C) dx [])
  have G2:Good X.cl (B.push x) (θ++[.ins C []]) _:=Zb2 G1 hx1 (o:=.ins (X.cl.cl C) dx []) (c:=.ins C []) ⟨dx,[],Z3,.nil⟩
  have rx:RepV (B.push x) (upd (upd H dx (.own x)) x (.ins (X.cl.cl C) dx [])) (.ref θ.length) (.ref x):=⟨by rw [G.len]; exact Nat.lt_succ_self _,by rw [G.len]; show V.ref x=V.ref (if B.n=B.n then x else B.m B.n); rw [if_pos rfl]⟩
  rw [List.append_nil]
  refine Ze2 (σ:=σ) G2 (show RepL _ _ (.ref θ.length::ds) (.ref x::vs) from ⟨_,_,rfl,rx,r.ext (E1.trans E2).toExtS⟩) ?_
  have w1:=wpR.trans w (E1.trans E2)
  refine (wpR.bind (Rel:=RepV) w1).mono ?_
  rintro v H3 ⟨B3,θ3,d,E3,G3,rd,w3⟩
  cases d with
  | non=>exact ⟨rd,ZB G3 (rx.ext E3.toExtS) w3⟩
  | _=>exact w3.elim
theorem Zg6 {k j:Nat} {x:Str} {f:GM} {p pos:Pos} {e:Expr} {es:List Expr} {fs:AM} (M:MMk X.prog X.w X.K X.mg X.base k x f) (hr:Room j X.A) (hj:k+1≤j) (ha:MA X (e::es) fs) (hg:Gl X x:=by rfl) (hdb:(x == ("__debug__":Str))=false:=by decide)
    (he:starEach (e::es) X.env=(false,eval e X.env)::starEach es X.env:=by rfl) (hpl:(backTo pos (starEach es X.env)).any (·.1)=false:=by rfl):ME X (.Call (.Name x p) (e::es) [] pos) (mCB (mkG x f) fs):=by
  obtain ⟨fI,fd,ps,m,F0,b⟩:=M.ex
  refine PE.imp (Zkz m F0 (hr.mono hj) hg M.mg b .nil ZgU ha hdb he hpl) fun σ H Q h=>?_
  obtain ⟨B,θ,ρ,F,w⟩:=h
  refine zN (Zcw F w) ?_
  rintro vs H1 ⟨B1,θ1,ds,E1,F1,rd,w1⟩
  exact wpR.made F1.good rd w1
theorem Zf4 {k j:Nat} {x:Str} {f:GM} {p pos:Pos} (M:MMk X.prog X.w X.K X.mg X.base k x f) (hr:Room j X.A) (hj:k+1≤j) (hg:Gl X x:=by rfl) (hdb:(x == ("__debug__":Str))=false:=by decide):ME X (.Call (.Name x p) [] [] pos) (mCB (mkG x f) Zk):=by
  obtain ⟨fI,fd,ps,m,F0,b⟩:=M.ex
  refine PE.imp (Zi0 m F0 (hr.mono hj) hg M.mg b .nil ZgU hdb) fun σ H Q h=>?_
  obtain ⟨B,θ,ρ,F,w⟩:=h
  exact wpR.made (ds:=[]) (vs:=[]) F.good (show RepL B H [] [] from rfl) w
structure Zd6 (P:Program) (w:World) (K:PySem.W.Frag) (mg:Str→Option Value) (base:Heap) (k:Nat) (C m:Str) (f:GM):Prop where
  ex:∃(fa:Addr) (fd:FuncData) (ps:List Str),ZhT K (ZU mg C) m fa∧FnOk P w K mg base CX0 k fa fd ps (spM ⟨ZU mg,K⟩ f)∧Binds K fd ps []
  cl:Cls K (ZU mg C)
def ZaE (C m:Str) (f:GM) (fo:EM) (fs:AM):EM:=fun ρ θ=>(fo ρ θ).bind fun d θ=>match Zbx θ d with
  | some (_,C',gs)=>if C'=C∧gs.lookup m=none then (fs ρ θ).bind fun vs θ=>f (d::vs) θ else .bad
  | none=>.bad
instance {C C':Str} {gs:List (Str×D)} {m:Str}:Decidable (C'=C∧gs.lookup m=none):=by
  cases h:gs.lookup m with
  | none=>exact if e:C'=C then isTrue ⟨e,rfl⟩ else isFalse fun z=>e z.1
  | some _=>exact isFalse fun z=>nomatch z.2
theorem Zbn {k j:Nat} {C m:Str} {f:GM} {apos pos:Pos} {o e:Expr} {es:List Expr} {fo:EM} {fs:AM} {pl:Sem Bool} (M:Zd6 X.prog X.w X.K X.mg X.base k C m f) (hr:Room j X.A) (hj:k≤j) (ho:ME X o fo) (ha:MA X (e::es) fs)
    (hst:starEach (e::es) X.env=(false,eval e X.env)::starEach es X.env:=by rfl) (hpl:(backTo pos (starEach es X.env)).any (·.1)=false:=by rfl)
    (ht:eval (.Call (.Attribute o m apos) (e::es) [] pos) X.env=(do
      let ov ←eval o X.env
      standAt apos.atName
      let (f,first) ←holding [ov] (getMethod ov m pl)
      callWith pos f first (backTo pos (starEach (e::es) X.env)) (backToKw pos (keywordEach [] X.env))):=by rfl) :
    ME X (.Call (.Attribute o m apos) (e::es) [] pos) (ZaE C m f fo fs):=by
  obtain ⟨fa,fd,ps,mt,F0,b⟩:=M.ex
  refine PE.imp (Zky (pl:=pl) ho M.cl mt F0 (hr.mono hj) b .nil ZgU ha hst hpl ht) fun σ H Q h=>?_
  obtain ⟨B,θ,ρ,F,w⟩:=h
  refine ZP (step F w) ?_
  rintro v H1 ⟨B1,θ1,d,E1,F1,rd,w1⟩
  split at w1
  · rename_i l C' gs e1
    split at w1
    · rename_i hC
      obtain ⟨hl,ev,dx,us,h1,h2⟩:=ZdL F1.good rd e1
      rw [hC.1] at h1
      refine ⟨_,dx,us,ev,h1,h2.none hC.2,?_⟩
      refine zN (Zcw F1 w1) ?_
      rintro vs H2 ⟨B2,θ2,ds,E2,F2,rds,w2⟩
      rw [List.append_nil]
      exact Ze2 F2.good (show RepL B2 H2 (d::ds) (v::vs) from ⟨v,vs,rfl,rd.ext E2.toExtS,rds⟩) w2
    · exact w1.elim
  · exact w1.elim
theorem ZnV {P:Program} {w:World} {K:PySem.W.Frag} {mg:Str→Option Value} {base:Heap} {x qual:Str} {st:Stmt} {N ps:List Str} {k:Nat} {fb:SM} {f:Addr} {fd:FuncData} {C:Str} (F:Fun K x qual st f fd) (S:Zp N ps (Zf st)) (np nn:Nat) (hp:ps.length=np) (hn:N.length=nn) (b:Binds K fd ps []) (c:Cls K (ZU mg C)) (m:ZhT K (ZU mg C) x f)
    (hbody:∀(cdv:Value) (A:Around) (outer:List Env) (s:Shared) (H:Hp) (E:XK),Room k (A.deeper (envOfC qual (Zf st) s.heap.objs.size f cdv))→MSs (Zc1 CX0 P w K mg base N qual (Zf st) f cdv A outer s H E).nox (Zn st) fb):Zd6 P w K mg base (k+1) C x (Z0 np nn fb):=
  ⟨⟨f,fd,ps,m,mfn F S np nn hp hn hbody,b⟩,c⟩
theorem mmk {P:Program} {w:World} {K:PySem.W.Frag} {mg:Str→Option Value} {base:Heap} {x qual:Str} {st:Stmt} {N ps:List Str} {k:Nat} {fb:SM} {f:Addr} {fd:FuncData} {C:Str} (F:Fun K x qual st f fd) (S:Zp N ps (Zf st)) (np nn:Nat) (hp:ps.length=np) (hn:N.length=nn) (b:Binds K fd ps []) (M:Mk K (ZU mg C) f) (hm:mg C=some (.ref (ZU mg C)))
    (hbody:∀(cdv:Value) (A:Around) (outer:List Env) (s:Shared) (H:Hp) (E:XK),Room k (A.deeper (envOfC qual (Zf st) s.heap.objs.size f cdv))→MSs (Zc1 CX0 P w K mg base N qual (Zf st) f cdv A outer s H E).nox (Zn st) fb):MMk P w K mg base (k+1) C (Z0 np nn fb):=
  ⟨⟨f,fd,ps,M,mfn F S np nn hp hn hbody,b⟩,hm⟩
def ZeS:EM:=fun _ θ=>.ok (.ref θ.length) (θ++[.dK []])
def Zg7:EM:=fun _ θ=>.ok (.ref θ.length) (θ++[.dT []])
theorem Zf5 {pos:Pos}:ME X (.Dict [] [] pos) ZeS:=by
  refine PE.imp Zi3 fun σ H Q h=>?_
  obtain ⟨B,θ,ρ,F,w⟩:=h
  intro p hp
  have G:=F.good
  exact w (B.push p) _ _ (Za9 G hp _) (Zb2 G hp ⟨[],Z3,.nil⟩) ⟨by rw [G.len]; exact Nat.lt_succ_self _,by rw [G.len]; show V.ref p=V.ref (if B.n=B.n then p else B.m B.n); rw [if_pos rfl]⟩
theorem ZhD {pos:Pos}:ME X (.Dict [] [] pos) Zg7:=by
  refine PE.imp Zi2 fun σ H Q h=>?_
  obtain ⟨B,θ,ρ,F,w⟩:=h
  intro p hp
  have G:=F.good
  exact w (B.push p) _ _ (Za9 G hp _) (Zb2 G hp ⟨[],Z3,.nil⟩) ⟨by rw [G.len]; exact Nat.lt_succ_self _,by rw [G.len]; show V.ref p=V.ref (if B.n=B.n then p else B.m B.n); rw [if_pos rfl]⟩
section
variable {ρ:List Sl} {θ:Sto} {fe fv fo:EM} {cs:List Str} {f:Str}
@[simp] theorem Zqw:ZK cs f fe ρ θ=(fe ρ θ).bind (Z9 cs f):=nr rfl
@[simp] theorem Zpl:ZA cs f fe fv ρ θ=(fv ρ θ).bind fun y θ=>(fe ρ θ).bind fun d θ=>match Z4 cs f y d θ with
  | some θ'=>.ok (.nx,ρ) θ'
  | none=>.bad:=nr rfl
@[simp] theorem Zoq:ZeS ρ θ=.ok (.ref θ.length) (θ++[.dK []]):=nr rfl
end
end
end L2.MM
namespace L2.MM
open PySem PySem.Spec PyProof.Rows PySem.SeqAt
def Mk0 (K:PySem.W.Frag) (mg:Str→Option Value) (C qual:Str) (st:Stmt) (ps:List Str):Prop:=
  ∃(f:Addr) (fd:FuncData),Fun K "__init__" qual st f fd∧Binds K fd ps []∧Mk K (ZU mg C) f∧mg C=some (.ref (ZU mg C))
def Me0 (K:PySem.W.Frag) (mg:Str→Option Value) (C m qual:Str) (st:Stmt) (ps:List Str):Prop:=
  ∃(f:Addr) (fd:FuncData),Fun K m qual st f fd∧Binds K fd ps []∧ZhT K (ZU mg C) m f
theorem Ze1 {mg:Str→Option Value} {x:Str} {a:Addr} (h:mg x=some (.ref a)):ZU mg x=a:=by unfold ZU; rw [h]
theorem mk0 {P:Program} {w:World} {K:PySem.W.Frag} {mg:Str→Option Value} {base:Heap} {qual:Str} {st:Stmt} {N ps:List Str} {k:Nat} {fb:SM} {C:Str} (D:Mk0 K mg C qual st ps) (S:Zp N ps (Zf st)) (np nn:Nat) (hp:ps.length=np) (hn:N.length=nn)
    (hbody:∀(f:Addr) (cdv:Value) (A:Around) (outer:List Env) (s:Shared) (H:Hp) (E:XK),Room k (A.deeper (envOfC qual (Zf st) s.heap.objs.size f cdv))→MSs (Zc1 CX0 P w K mg base N qual (Zf st) f cdv A outer s H E).nox (Zn st) fb):MMk P w K mg base (k+1) C (Z0 np nn fb):=by
  obtain ⟨f,fd,F,b,M,hm⟩:=D
  exact mmk F S np nn hp hn b M hm (hbody f)
theorem me0 {P:Program} {w:World} {K:PySem.W.Frag} {mg:Str→Option Value} {base:Heap} {m qual:Str} {st:Stmt} {N ps:List Str} {k:Nat} {fb:SM} {C:Str} (D:Me0 K mg C m qual st ps) (c:Cls K (ZU mg C)) (S:Zp N ps (Zf st)) (np nn:Nat) (hp:ps.length=np) (hn:N.length=nn)
    (hbody:∀(f:Addr) (cdv:Value) (A:Around) (outer:List Env) (s:Shared) (H:Hp) (E:XK),Room k (A.deeper (envOfC qual (Zf st) s.heap.objs.size f cdv))→MSs (Zc1 CX0 P w K mg base N qual (Zf st) f cdv A outer s H E).nox (Zn st) fb):Zd6 P w K mg base (k+1) C m (Z0 np nn fb):=by
  obtain ⟨f,fd,F,b,mt⟩:=D
  exact ZnV F S np nn hp hn b c mt (hbody f)
end L2.MM
namespace My
open PySem L2 L2.MM
noncomputable section
def ZcM:SM:=(Zbh (ZM (mOp gtM (Zd 1) (mC (.int 65535)))) (Z7 1 (mOp ZN (mOp zR (Zd 1) (mC (.int 65536))) (mOp ZdQ (Zd 1) (mC (.int 65536))))) 200)
def ZdY:SM:=(Zq (Z7 1 (mOp ZN (mOp Zcm (mC (.int 256)) (mCB Zhq (Zc (ZkO (Zd 0) Zam Zam (ZaK (mC (.int 2)))) Zk))) (mCB Zhq (Zc (ZkO (Zd 0) (ZaK (mC (.int 1))) Zam (ZaK (mC (.int 2)))) Zk))))
  (Zq ZcM
  (ZO (Zd 1))))
def ZbF:GM:=Z0 1 2 ZdY
def ZdT:SM:=(ZO (mOp Zci (mC (.int 65535)) (mCB ZbF (Zc (Zd 0) Zk))))
def ZbD:GM:=Z0 1 1 ZdT
def Zbd:SM:=(ZO (mOp Zcm (mC (.int 16)) (mOp ZdQ (Zd 0) (mC (.int 4)))))
def zF:GM:=Z0 1 1 Zbd
def Zcf:SM:=(ZO (ZaH (Zc (mOp zR (mOp ZdQ (Zd 0) (mC (.int 256))) (mC (.int 256))) (Zc (mOp zR (Zd 0) (mC (.int 256))) Zk))))
def ZQ:GM:=Z0 1 1 Zcf
def ZbS:SM:=(ZO (mOp ZN (mCB ZQ (Zc (mOp ZdQ (Zd 0) (mC (.int 65536))) Zk)) (mCB ZQ (Zc (Zd 0) Zk))))
def zH:GM:=Z0 1 1 ZbS
def Zaa:SM:=(Zq (Z7 1 (mOp ZN (mCB ZQ (Zc (mOp ixM (Zd 0) (mC (.int 0))) Zk)) (mCB ZQ (Zc (mOp ixM (Zd 0) (mC (.int 1))) Zk))))
  (Zq (Z7 2 (mOp ZN (mCB zH (Zc (mOp ixM (Zd 0) (mC (.int 2))) Zk)) (mCB zH (Zc (mOp ixM (Zd 0) (mC (.int 3))) Zk))))
  (Zq (Z7 3 (ZdI (ZM (mOp eqM (mOp ixM (Zd 0) (mC (.int 6))) (mC (.int 0)))) (mC (.int 20)) (mC (.int 24))))
  (ZO (mOp ZN (mOp ZN (mOp ZN (Zd 1) (Zd 2)) (ZaH (Zc (mCB zF (Zc (Zd 3) Zk)) (Zc (mOp ixM (Zd 0) (mC (.int 4))) Zk)))) (mCB ZQ (Zc (mOp ixM (Zd 0) (mC (.int 5))) Zk)))))))
def Z5:GM:=Z0 1 4 Zaa
def ZaQ:SM:=(ZO (ZdI (ZM (mOp eqM (Zd 0) (mC (.int 0)))) (ZaH Zk) (mOp ZN (ZaH (Zc (mC (.int 2)) (Zc (mC (.int 4)) Zk))) (mCB ZQ (Zc (Zd 0) Zk)))))
def zw:GM:=Z0 1 1 ZaQ
def Zhj:SM:=(Zq (Z7 1 (mCB Z5 (Zc (Zd 0) Zk)))
  (Zq (Z7 2 (mOp ZN (mOp ZN (ZaH (Zc (mC (.int 0)) (Zc (mC (.int 0)) Zk))) (mCB zw (Zc (mOp ixM (Zd 0) (mC (.int 6))) Zk))) (mCB Zf7 (Zc (mOp ixM (Zd 0) (mC (.int 7))) Zk))))
  (ZO (mOp ZN (mOp ZN (Zd 1) (mCB ZQ (Zc (mCB ZbD (Zc (mOp ZN (mOp ZN (Zd 1) (ZaH (Zc (mC (.int 0)) (Zc (mC (.int 0)) Zk)))) (Zd 2)) Zk)) Zk))) (Zd 2)))))
def Zdx:GM:=Z0 1 3 Zhj
def Zcr:SM:=(mIf (Zdg (Zd 0)) (ZO (mOp ixM (Zd 0) (mOp zR (Zd 1) (mCB Zdh (Zc (Zd 0) Zk))))) zb)
def Zd3:SM:=(Zq Zcr
  (ZO (mC (.int 0))))
def ZcW:GM:=Z0 2 2 Zd3
def Zhl:SM:=(Zq (Z7 2 (mOp zR (mOp ZN (mCB ZcW (Zc (Zd 0) (Zc (Zd 1) Zk))) (mOp Zcm (mC (.int 104729)) (mOp ZN (Zd 1) (mC (.int 1))))) (mC (.int 4294967291))))
  (Zq (Z7 2 (mOp zR (mOp Zcm (Zd 2) (mC (.int 48271))) (mC (.int 4294967279))))
  (ZO (mOp zR (mOp ZN (mOp Zcm (mOp ZdQ (Zd 2) (mC (.int 64))) (mC (.int 69621))) (Zd 2)) (mC (.int 4294967231))))))
def Za5:GM:=Z0 2 3 Zhl
def Zhk:SM:=(ZO (ZaH (Zc (mOp ZdQ (Zd 0) (mC (.int 256))) (Zc (mOp zR (Zd 0) (mC (.int 256))) Zk))))
def Zbw:GM:=Z0 1 1 Zhk
def ZcO:SM:=(ZaU (zX (Zc (mCB Zdh (Zc (Zd 0) Zk)) Zk)) (gNm 2) (Z7 1 (mOp ZN (Zd 1) (mOp Zcm (mOp ixM (Zd 0) (Zd 2)) (mOp ixM (ZaH (Zc (mC (.int 256)) (Zc (mC (.int 1)) Zk))) (mOp zR (Zd 2) (mC (.int 2))))))))
def ZcN:SM:=(Zbh (ZM (mOp gtM (Zd 1) (mC (.int 65535)))) (Z7 1 (mOp ZN (mOp zR (Zd 1) (mC (.int 65536))) (mOp ZdQ (Zd 1) (mC (.int 65536))))) 200)
def Zd2:SM:=(Zq (Z7 1 (mC (.int 0)))
  (Zq ZcO
  (Zq ZcN
  (ZO (Zd 1)))))
def Za6:GM:=Z0 1 3 Zd2
def ZbV:SM:=(ZaU (mIn (mSl (Zd 0) (ZaK (mC (.int 2))) (ZaK (mC (.int 4))))) (gNm 2) (Z7 1 (mOp ZN (mOp ZN (Zd 1) (mCB Zbw (Zc (mOp ZdQ (Zd 2) (mC (.int 65536))) Zk))) (mCB Zbw (Zc (mOp zR (Zd 2) (mC (.int 65536))) Zk)))))
def ZbU:SM:=(mIf (ZM (mOp gtM (mOp ixM (Zd 0) (mC (.int 6))) (mC (.int 0)))) (Z7 1 (mOp ZN (mOp ZN (Zd 1) (ZaH (Zc (mC (.int 2)) (Zc (mC (.int 4)) Zk)))) (mCB Zbw (Zc (mOp ixM (Zd 0) (mC (.int 6))) Zk)))) zb)
def Zc4:SM:=(Zq (Z7 1 (mOp ZN (mCB Zbw (Zc (mOp ixM (Zd 0) (mC (.int 0))) Zk)) (mCB Zbw (Zc (mOp ixM (Zd 0) (mC (.int 1))) Zk))))
  (Zq ZbV
  (Zq (Z7 1 (mOp ZN (mOp ZN (mOp ZN (Zd 1) (ZaH (Zc (mOp ixM (ZaH (Zc (mC (.int 80)) (Zc (mC (.int 96)) Zk))) (mCB ZkU (Zc (mOp gtM (mOp ixM (Zd 0) (mC (.int 6))) (mC (.int 0))) Zk))) (Zc (mOp ixM (Zd 0) (mC (.int 4))) Zk)))) (mCB Zbw (Zc (mOp ixM (Zd 0) (mC (.int 5))) Zk))) (ZaH (Zc (mC (.int 0)) (Zc (mC (.int 0)) (Zc (mC (.int 0)) (Zc (mC (.int 0)) Zk)))))))
  (Zq ZbU
  (Zq (Z7 1 (mOp ZN (Zd 1) (mCB Zf7 (Zc (mOp ixM (Zd 0) (mC (.int 7))) Zk))))
  (ZO (mOp ZN (mOp ZN (mSl (Zd 1) Zam (ZaK (mC (.int 16)))) (mCB Zbw (Zc (mOp Zci (mC (.int 65535)) (mCB Za6 (Zc (Zd 1) Zk))) Zk))) (mSl (Zd 1) (ZaK (mC (.int 18))) Zam))))))))
def Zbp:GM:=Z0 1 3 Zc4
end
end My
namespace My
open PySem L2 L2.MM
noncomputable section
def cell (ns:List Int) (k:Int):Int:=if ns.length=0 then 0 else ns.getD (k % (ns.length:Int)).toNat 0
def mix (ns:List Int) (k:Int):Int:=
  ((cell ns k+104729*(k+1)) % 4294967291*48271 % 4294967279/64*69621+(cell ns k+104729*(k+1)) % 4294967291*48271 % 4294967279) % 4294967231
theorem Zmt (ns:List Int) (k:Int):0≤mix ns k∧mix ns k<4294967231:=by
  unfold mix; omega
theorem Zk2 {ns:List Int} {k:Int} (h:0<ns.length):atI (ns.map D.int) (k % (ns.length:Int))=some (.int (cell ns k)):=by
  have a:=Int.emod_nonneg k (show (ns.length:Int)≠0 by omega)
  have b:=Int.emod_lt_of_pos k (show (0:Int)<ns.length by omega)
  have c:(k % (ns.length:Int))=(((k % (ns.length:Int)).toNat:Nat):Int):=by omega
  rw [c]
  refine Zb9 ?_
  have d:(k % (ns.length:Int)).toNat<ns.length:=by omega
  rw [List.getElem?_map,List.getElem?_eq_getElem d]
  unfold cell
  rw [if_neg (by omega),List.getD_eq_getElem?_getD,List.getElem?_eq_getElem d]
  rfl
@[simp] theorem Zpy (ns:List Int) (k:Int) (θ:Sto):ZcW [.scr ns,.int k] θ=.ok (.int (cell ns k)) θ:=by
  by_cases h:ns.length=0
  · have:ns=[]:=List.eq_nil_of_length_eq_zero h
    subst this
    simp [ZcW,Zd3,Zcr,cell]
  · have h1:ns.isEmpty=false:=by cases ns with
      | nil=>exact absurd rfl h
      | cons _ _=>rfl
    have h2:0<ns.length:=by omega
    simp [ZcW,Zd3,Zcr,h1,h2,Zk2 (k:=k) h2]
@[simp] theorem ZqA (ns:List Int) (k:Int) (θ:Sto):Za5 [.scr ns,.int k] θ=.ok (.int (mix ns k)) θ:=by
  simp [Za5,Zhl,Zc5,mix]
@[simp] theorem Znm (k:Int) (θ:Sto):Zbw [.int k] θ=.ok (il [k/256,k % 256]) θ:=by
  simp [Zbw,Zhk]
theorem ZeE {t:TMr} {body:SM} {n:Nat} {ρ:List Sl} {θ:Sto}:Zbh t body (n+1) ρ θ=(t ρ θ).bind fun k θ=>if k=true then (body ρ θ).bind (Zf6 (Zbh t body n)) else .ok (.nx,ρ) θ:=rfl
abbrev Zlt:TMr:=ZM (mOp gtM (Zd 1) (mC (.int 65535)))
abbrev Zlu:SM:=Z7 1 (mOp ZN (mOp zR (Zd 1) (mC (.int 65536))) (mOp ZdQ (Zd 1) (mC (.int 65536))))
theorem ZgC (t:Int) (x:Sl) (r:List Sl) (θ:Sto):Zlt (x::.val (.int t)::r) θ=.ok (decide (65535<t)) θ:=by simp
theorem ZjI (t:Int) (x:Sl) (r:List Sl) (θ:Sto):Zlu (x::.val (.int t)::r) θ=.ok (.nx,x::.val (.int (t % 65536+t/65536))::r) θ:=by simp
theorem Zkd {t:Int} (n:Nat) (h0:0≤t) (h1:t<4294967296) (x:Sl) (r:List Sl) (θ:Sto):Zbh Zlt Zlu (n+3) (x::.val (.int t)::r) θ=.ok (.nx,x::.val (.int (ZaF t))::r) θ:=by
  rw [ZeE,ZgC,R.bind_ok]
  by_cases c1:65535<t
  · have s1:=Zes c1
    rw [if_pos (by simpa using c1),ZjI,R.bind_ok,ZaX]
    have hu:t % 65536+t/65536≤131070:=by omega
    generalize t % 65536+t/65536=u at s1 hu
    rw [ZeE,ZgC,R.bind_ok]
    by_cases c2:65535<u
    · have s2:=Zes c2
      rw [if_pos (by simpa using c2),ZjI,R.bind_ok,ZaX]
      have hv:u % 65536+u/65536≤65535:=by omega
      generalize u % 65536+u/65536=v at s2 hv
      rw [ZeE,ZgC,R.bind_ok,if_neg (by simp; omega),←s1.1,←s2.1,Zco s2.2.1 hv]
    · rw [if_neg (by simpa using c2),←s1.1,Zco s1.2.1 (by omega)]
  · rw [if_neg (by simpa using c1),Zco h0 (by omega)]
theorem Zef {t:Int} (h0:0≤t) (h1:t<4294967296) (x:Sl) (r:List Sl) (θ:Sto):Zbh (ZM (mOp gtM (Zd 1) (mC (.int 65535)))) (Z7 1 (mOp ZN (mOp zR (Zd 1) (mC (.int 65536))) (mOp ZdQ (Zd 1) (mC (.int 65536))))) 200 (x::.val (.int t)::r) θ=.ok (.nx,x::.val (.int (ZaF t))::r) θ:=Zkd 197 h0 h1 x r θ
def Byt (ns:List Int):Prop:=(∀z∈ns,0≤z∧z≤255)∧ns.length≤1000
theorem ZgI:∀{ns:List Int} {m:Nat},(∀z∈ns,0≤z∧z≤255)→ns.length≤2*m→Zac ns≤65535*m
  | [],m,_,_=>by simp [Zac]; omega
  | [a],m,h,hl=>by
    have:=h a (by simp)
    simp [Zac] at hl ⊢
    omega
  | a::b::r,m,h,hl=>by
    have h1:=h a (by simp)
    have h2:=h b (by simp)
    obtain ⟨m,rfl⟩:∃k,m=k+1:=⟨m-1,by simp at hl; omega⟩
    have:=ZgI (ns:=r) (m:=m) (fun z hz=>h z (by simp [hz])) (by simp at hl; omega)
    simp [Zac]
    omega
theorem Byt.sum {ns:List Int} (h:Byt ns):0≤Zac ns∧Zac ns<4294967296:=by
  refine ⟨ZgH fun z hz=>(h.1 z hz).1,?_⟩
  have:=ZgI (m:=500) h.1 (by have:=h.2; omega)
  omega
theorem ZiH {ns:List Int} (h:Byt ns) (θ:Sto):ZbF [il ns] θ=.ok (.int (ZaF (Zac ns))) θ:=by
  have l1:=Zet ns
  have l2:=ZfT ns
  have l3:=h.2
  have hs:=h.sum
  have e:=ZgJ ns
  simp [ZbF,ZdY,ZcM,ZcS,Zc5,show (Zby ns).length≤100000 by omega,show (Zdy ns).length≤100000 by omega,e]
  rw [Zef hs.1 hs.2]
  simp
theorem ZiB {ns:List Int} (h:Byt ns) (θ:Sto):ZbD [il ns] θ=.ok (.int (65535-ZaF (Zac ns))) θ:=by
  simp [ZbD,ZdT,ZiH h]
theorem Zhp {ns:List Int} (h:Byt ns) (θ:Sto):Za6 [il ns] θ=.ok (.int (ZaF (Zac ns))) θ:=by
  have hs:=h.sum
  have l3:=h.2
  let st:Nat→List Sl:=fun i=>[.val (il ns),.val (.int (wpre ns i)),if i=0 then .no else .val (.int ((i:Int)-1))]
  have loop:=for_rng (θ:=θ) (lo:=0) (n:=ns.length) (tg:=gNm 2) (body:=Z7 1 (mOp ZN (Zd 1) (mOp Zcm (mOp ixM (Zd 0) (Zd 2)) (mOp ixM (ZaH (Zc (mC (.int 256)) (Zc (mC (.int 1)) Zk))) (mOp zR (Zd 2) (mC (.int 2))))))) st ?_ (fun i hi=>⟨_,rfl⟩) rfl
  · have b1:(ns.length:Int)≤1000000:=by omega
    have b2 : -1000000≤(ns.length:Int):=by omega
    have b3:ns.length≤1000000:=by omega
    have l0:st 0=[.val (il ns),.val (.int 0),.no]:=rfl
    rw [l0] at loop
    simp [Za6,Zd2,ZcO,ZcN,ZaU,b1,b2,b3]
    simp at loop
    rw [loop]
    simp [st]
    rw [ZfL,Zef hs.1 hs.2]
    simp
  · intro i ρ1 hi e
    have e':ρ1=[.val (il ns),.val (.int (wpre ns i)),.val (.int (0+(i:Int)))]:=by
      simp [st] at e
      simp [←e]
    subst e'
    have g1:ixM (il ns) (.int (0+(i:Int))) θ=.ok (.int (ns.getD i 0)) θ:=by
      rw [ZeV (by omega) (by omega)]
      simp [gt]
    have g2:ixM (il [256,1]) (.int ((0+(i:Int)) % 2)) θ=.ok (.int (if i % 2=0 then 256 else 1)) θ:=by
      rw [ZeV (by omega) (by simp; omega)]
      by_cases q:i % 2=0
      · rw [show ((0+(i:Int)) % 2).toNat=0 by omega,if_pos q]; rfl
      · rw [show ((0+(i:Int)) % 2).toNat=1 by omega,if_neg q]; rfl
    have cm:Zc5 (ns.getD i 0) (if i % 2=0 then 256 else 1):=.inr (by split<;>decide)
    simp only [Znb,Znc,Zk7,Znd,Ziz,x_c,Zk8,List.getElem?_cons_succ,List.getElem?_cons_zero,R.bind_ok,g1]
    simp only [List.length_cons,List.length_nil,Zoe,ZmN,ZgV,if_pos (show (0:Int)<2 by decide),R.bind_ok,g2,Zji,if_pos cm,ZjZ,if_pos (show 0+1+1≤100000 by decide)]
    simp [st,wpre]
end
end My
namespace My
open PySem L2 L2.MM
noncomputable section
structure Seg where
  src:Int
  goal:Int
  num:Int
  ans:Int
  flags:Int
  win:Int
  most:Int
  data:List Int
def Seg.d (s:Seg):D:=.tup [.int s.src,.int s.goal,.int s.num,.int s.ans,.int s.flags,.int s.win,.int s.most,itp s.data]
structure Seg.Ok (s:Seg):Prop where
  src:0≤s.src∧s.src≤65535
  goal:0≤s.goal∧s.goal≤65535
  num:0≤s.num∧s.num≤4294967295
  ans:0≤s.ans∧s.ans≤4294967295
  flags:0≤s.flags∧s.flags≤31
  win:0≤s.win∧s.win≤65535
  most:s.most=0∨(4≤s.most∧s.most≤65535∧s.flags/2 % 2=1)
  data:(∀z∈s.data,0≤z∧z≤255)∧s.data.length≤16
section
variable {s:Seg} {θ:Sto}
@[simp] theorem d0:ixM s.d (.int 0) θ=.ok (.int s.src) θ:=nr rfl
@[simp] theorem d1:ixM s.d (.int 1) θ=.ok (.int s.goal) θ:=nr rfl
@[simp] theorem d2:ixM s.d (.int 2) θ=.ok (.int s.num) θ:=nr rfl
@[simp] theorem d3:ixM s.d (.int 3) θ=.ok (.int s.ans) θ:=nr rfl
@[simp] theorem d4:ixM s.d (.int 4) θ=.ok (.int s.flags) θ:=nr rfl
@[simp] theorem d5:ixM s.d (.int 5) θ=.ok (.int s.win) θ:=nr rfl
@[simp] theorem d6:ixM s.d (.int 6) θ=.ok (.int s.most) θ:=nr rfl
@[simp] theorem d7:ixM s.d (.int 7) θ=.ok (itp s.data) θ:=nr rfl
end
def two (k:Int):List Int:=[k/256 % 256,k % 256]
def Zgb (k:Int):List Int:=two (k/65536)++two k
def hd (s:Seg):Int:=if s.most=0 then 80 else 96
def Zbg (s:Seg):List Int:=two s.src++two s.goal++(Zgb s.num++Zgb s.ans)++[hd s,s.flags]++two s.win
def ZbI (m:Int):List Int:=if m=0 then [] else [2,4]++two m
def behind (s:Seg):List Int:=[0,0]++ZbI s.most++s.data
def ZaT (s:Seg):List Int:=Zbg s++two (65535-ZaF (Zac (Zbg s++[0,0]++behind s)))++behind s
@[simp] theorem Zlb (k:Int) (θ:Sto):ZQ [.int k] θ=.ok (il (two k)) θ:=by
  simp [ZQ,Zcf,two]
@[simp] theorem two_len (k:Int):(two k).length=2:=rfl
@[simp] theorem Zoc (k:Int):(Zgb k).length=4:=rfl
@[simp] theorem Zm7 (s:Seg):(Zbg s).length=16:=rfl
@[simp] theorem Zkc (k:Int) (θ:Sto):zH [.int k] θ=.ok (il (Zgb k)) θ:=by
  simp [zH,ZbS,Zgb]
@[simp] theorem ZiI (k:Int) (θ:Sto):zF [.int k] θ=.ok (.int (16*(k/4))) θ:=by
  simp [zF,Zbd,Zc5]
@[simp] theorem ZhV (k:Int) (θ:Sto):zw [.int k] θ=.ok (il (ZbI k)) θ:=by
  by_cases h:k=0<;>simp [zw,ZaQ,ZbI,h,ZbK]
@[simp] theorem Zot (s:Seg) (θ:Sto):Z5 [s.d] θ=.ok (il (Zbg s)) θ:=by
  by_cases h:s.most=0<;>simp [Z5,Zaa,Zbg,hd,h]
theorem Zen (m:Int):(ZbI m).length≤4:=by unfold ZbI; split<;>simp
theorem Zb5 (k:Int):∀z∈two k,0≤z∧z≤255:=by
  intro z hz
  simp [two] at hz
  rcases hz with rfl | rfl<;>omega
theorem Zge (k:Int):∀z∈Zgb k,0≤z∧z≤255:=by
  intro z hz
  rcases List.mem_append.mp hz with h | h
  · exact Zb5 _ z h
  · exact Zb5 _ z h
theorem Zan {a b:List Int} (h1:∀z∈a,0≤z∧z≤255) (h2:∀z∈b,0≤z∧z≤255):∀z∈a++b,0≤z∧z≤255:=fun z hz=>(List.mem_append.mp hz).elim (h1 z) (h2 z)
theorem ZhS {s:Seg} (h:0≤s.flags∧s.flags≤255):∀z∈Zbg s,0≤z∧z≤255:=by
  refine Zan (Zan (Zan (Zan (Zb5 _) (Zb5 _)) (Zan (Zge _) (Zge _))) ?_) (Zb5 _)
  intro z hz
  simp at hz
  rcases hz with rfl | rfl
  · unfold hd; split<;>omega
  · exact h
theorem ZjW (m:Int):∀z∈ZbI m,0≤z∧z≤255:=by
  unfold ZbI
  split
  · intro z hz; simp at hz
  · refine Zan ?_ (Zb5 _)
    intro z hz
    simp at hz
    omega
theorem ZgE {s:Seg} (h:∀z∈s.data,0≤z∧z≤255):∀z∈behind s,0≤z∧z≤255:=by
  refine Zan (Zan ?_ (ZjW _)) h
  intro z hz
  simp at hz
  omega
theorem Zcq (s:Seg):(behind s).length≤6+s.data.length:=by
  have:=Zen s.most
  simp [behind]
  omega
structure Seg.Put (s:Seg):Prop where
  flags:0≤s.flags∧s.flags≤255
  data:(∀z∈s.data,0≤z∧z≤255)∧s.data.length≤100
theorem Seg.Ok.put {s:Seg} (h:s.Ok):s.Put:=⟨⟨h.flags.1,by have:=h.flags.2; omega⟩,h.data.1,by have:=h.data.2; omega⟩
theorem Seg.Put.byt {s:Seg} (h:s.Put):Byt (Zbg s++[0,0]++behind s):=by
  refine ⟨Zan (Zan (ZhS h.flags) ?_) (ZgE h.data.1),?_⟩
  · intro z hz
    simp at hz
    omega
  · have:=Zcq s
    have:=h.data.2
    simp
    omega
theorem Znn {s:Seg} (h:s.Put) (θ:Sto):Zdx [s.d] θ=.ok (il (ZaT s)) θ:=by
  have b:=h.byt
  have l1:=Zen s.most
  have l2:=h.data.2
  have l3:=Zcq s
  have e1:0::0::(ZbI s.most++s.data)=behind s:=rfl
  have e2:=ZiB b θ
  simp only [List.append_assoc,List.cons_append,List.nil_append] at e2
  simp (disch:=first | done | (simp; done) | omega | (simp; omega)) [Zdx,Zhj,ZeW,-Zjw,e1,e2]
  simp [ZaT,show 18+(behind s).length≤100000 by omega]
theorem Zkp {s:Seg}:(ZaT s).length=(if s.most=0 then 20 else 24)+s.data.length:=by
  unfold ZaT behind ZbI
  by_cases h:s.most=0<;>simp [h]<;>omega
def bit (f k:Int):Int:=if Builtin.bitAnd f k=0 then 0 else 1
end
end My
namespace My
open PySem L2 L2.MM
noncomputable section
@[simp] theorem Zqg {s:Seg} {θ:Sto}:Zcj θ s.d (some 2) (some 4)=some (.tup [.int s.num,.int s.ans]):=nr rfl
theorem two_small {k:Int} (h0:0≤k) (h:k≤65535):[k/256,k % 256]=two k:=by
  unfold two
  rw [show k/256 % 256=k/256 by omega]
theorem ZdP {k:Int} (h0:0≤k) (h:k≤4294967295):[k/65536/256,k/65536 % 256,k % 65536/256,k % 256]=Zgb k:=by
  unfold Zgb two
  rw [show k/65536/256 % 256=k/65536/256 by omega,show k % 65536/256=k/256 % 256 by omega]
  rfl
def Zap (s:Seg):List Int:=[s.src/256,s.src % 256,s.goal/256,s.goal % 256,s.num/65536/256,s.num/65536 % 256,s.num % 65536/256,s.num % 256,s.ans/65536/256,s.ans/65536 % 256,s.ans % 65536/256,s.ans % 256,
  hd s,s.flags,s.win/256,s.win % 256,0,0,0,0]++((if s.most=0 then [] else [2,4,s.most/256,s.most % 256])++s.data)
theorem ZiW {s:Seg} (h:s.Ok):Zap s=Zbg s++[0,0]++behind s:=by
  obtain ⟨⟨a1,a2⟩,⟨b1,b2⟩,⟨c1,c2⟩,⟨d1,d2⟩,⟨f1,f2⟩,⟨w1,w2⟩,hm,hd1,hd2⟩:=id h
  have e1:=two_small a1 a2
  have e2:=two_small b1 b2
  have e3:=ZdP c1 c2
  have e4:=ZdP d1 d2
  have e5:=two_small w1 w2
  have e6:(if s.most=0 then [] else [2,4,s.most/256,s.most % 256])=ZbI s.most:=by
    unfold ZbI
    by_cases m:s.most=0
    · rw [if_pos m,if_pos m]
    · rw [if_neg m,if_neg m]
      have:=hm.resolve_left m
      rw [←two_small (k:=s.most) (by omega) (by omega)]
      rfl
  unfold Zap Zbg behind
  rw [e6,←e1,←e2,←e3,←e4,←e5]
  rfl
theorem Zku {s:Seg} (h:s.Ok):(Zap s).take 16++two (65535-ZaF (Zac (Zap s)))++(Zap s).drop 18=ZaT s:=by
  rw [ZiW h]
  have e1:(Zbg s++[0,0]++behind s).take 16=Zbg s:=by
    rw [List.append_assoc,List.take_append_of_le_length (by simp),List.take_of_length_le (by simp)]
  have e2:(Zbg s++[0,0]++behind s).drop 18=behind s:=by
    have:(Zbg s++[0,0]).length=18:=by simp
    rw [←this,List.drop_left]
  rw [e1,e2]
  rfl
theorem Zd8 {s:Seg} (h:s.Ok) (θ:Sto) (x y:Sl):ZO (mOp ZN (mOp ZN (mSl (Zd 1) Zam (ZaK (mC (.int 16)))) (mCB Zbw (Zc (mOp Zci (mC (.int 65535)) (mCB Za6 (Zc (Zd 1) Zk))) Zk))) (mSl (Zd 1) (ZaK (mC (.int 18))) Zam)) [x,.val (il (Zap s)),y] θ
    = .ok (.rt (il (ZaT s)),[x,.val (il (Zap s)),y]) θ:=by
  have pe:=ZiW h
  have bp:=h.put.byt
  rw [←pe] at bp
  have lf:=Zhp bp θ
  have hs:=ZkX bp.sum.1
  have hl:(Zap s).length≤100:=by
    have:=Zcq s
    have:=h.data.2
    rw [pe]
    simp
    omega
  have fin:=Zku h
  have tw:[(65535-ZaF (Zac (Zap s)))/256,(65535-ZaF (Zac (Zap s))) % 256]=two (65535-ZaF (Zac (Zap s))):=two_small (by omega) (by omega)
  have k1:Zbr (Zap s) none (some 16)=(Zap s).take 16:=ZmK _ (by decide)
  have k2:Zbr (Zap s) (some 18) none=(Zap s).drop 18:=ZjR _ (by decide)
  have fs:ZN (il ((Zap s).take 16)) (il (two (65535-ZaF (Zac (Zap s))))) θ=.ok (il ((Zap s).take 16++two (65535-ZaF (Zac (Zap s))))) θ:=ZeW (by simp; omega)
  have fs2:ZN (il ((Zap s).take 16++two (65535-ZaF (Zac (Zap s))))) (il ((Zap s).drop 18)) θ=.ok (il (ZaT s)) θ:=by
    rw [ZeW (by simp; omega),fin]
  simp only [Zix,Znc,Zpk,Zk7,Zps,Ziz,Zk8,Ziy,ZlD,x_c,R.bind_ok,List.getElem?_cons_succ,List.getElem?_cons_zero,Zhe,k1,k2,lf,ZgV,if_true,Znm,tw,fs,fs2]
theorem ZiF {s:Seg} (h:s.Ok) (θ:Sto):Zbp [s.d] θ=.ok (il (ZaT s)) θ:=by
  have tail:=Zd8 h θ
  have dl:=h.data.2
  by_cases m:s.most=0
  · have g:ixM (il [80,96]) (.int 0) θ=.ok (.int 80) θ:=rfl
    have e0:hd s=80:=if_pos m
    have pl:[s.src/256,s.src % 256,s.goal/256,s.goal % 256,s.num/65536/256,s.num/65536 % 256,s.num % 65536/256,s.num % 256,s.ans/65536/256,s.ans/65536 % 256,s.ans % 65536/256,s.ans % 256,
      80,s.flags,s.win/256,s.win % 256,0,0,0,0]++s.data=Zap s:=by unfold Zap; rw [if_pos m,e0]; rfl
    simp only [List.cons_append,List.nil_append] at pl
    simp [Zbp,Zc4,ZbV,ZbU,ZaU,Za8,m,g,pl,-Zix,tail,show s.data.length+20≤100000 by omega,show 20+s.data.length≤100000 by omega]
  · have g:ixM (il [80,96]) (.int 1) θ=.ok (.int 96) θ:=rfl
    have e0:hd s=96:=if_neg m
    have mg:(0:Int)<s.most:=by have:=h.most.resolve_left m; omega
    have pl:[s.src/256,s.src % 256,s.goal/256,s.goal % 256,s.num/65536/256,s.num/65536 % 256,s.num % 65536/256,s.num % 256,s.ans/65536/256,s.ans/65536 % 256,s.ans % 65536/256,s.ans % 256,
      96,s.flags,s.win/256,s.win % 256,0,0,0,0,2,4,s.most/256,s.most % 256]++s.data=Zap s:=by unfold Zap; rw [if_neg m,e0]; rfl
    simp only [List.cons_append,List.nil_append] at pl
    simp [Zbp,Zc4,ZbV,ZbU,ZaU,Za8,mg,g,pl,-Zix,tail,show s.data.length+24≤100000 by omega,show 24+s.data.length≤100000 by omega]
end
end My
namespace My
open PySem L2 L2.MM
noncomputable section
def Zcg:SM:=(ZA ["Pile"] "row" (Zd 0) (ZaH Zk))
def zW:GM:=Z0 1 1 Zcg
def Zgf:SM:=(ZO (mOp Zci (mC (.int 64)) (mCB Zdh (Zc (ZK ["Pile"] "row" (Zd 0)) Zk))))
def Zdw:GM:=Z0 1 1 Zgf
def Zgg:SM:=(ZO (mOp zR (mOp ZN (Zd 0) (Zd 1)) (mC (.int 4294967296))))
def Zad:GM:=Z0 2 2 Zgg
def ZdW:SM:=(ZO (mOp Zci (mOp zR (mOp ZN (mOp Zci (Zd 0) (Zd 1)) (mC (.int 2147483648))) (mC (.int 4294967296))) (mC (.int 2147483648))))
def zE:GM:=Z0 2 2 ZdW
def Zbt:SM:=(Zq (ZA ["End"] "ours" (Zd 0) (Zd 1))
  (Zq (ZA ["End"] "theirs" (Zd 0) (Zd 2))
  (Zq (ZA ["End"] "state" (Zd 0) (ZdI (Zdg (Zd 4)) (mC (.str "syn sent")) (mC (.str "listen"))))
  (Zq (ZA ["End"] "error" (Zd 0) (mC (.str "")))
  (Zq (ZA ["End"] "first" (Zd 0) (Zd 3))
  (Zq (ZA ["End"] "una" (Zd 0) (Zd 3))
  (Zq (ZA ["End"] "nxt" (Zd 0) (Zd 3))
  (Zq (ZA ["End"] "rcv" (Zd 0) (mC (.int 0)))
  (Zq (ZA ["End"] "wnd" (Zd 0) (mC (.int 0)))
  (Zq (ZA ["End"] "told" (Zd 0) (mC (.int 0)))
  (Zq (ZA ["End"] "told_by" (Zd 0) (mC (.int 0)))
  (Zq (ZA ["End"] "most" (Zd 0) (mC (.int 12)))
  (Zq (ZA ["End"] "written" (Zd 0) (mCB (mkG "Pile" zW) Zk))
  (Zq (ZA ["End"] "come" (Zd 0) (mCB (mkG "Pile" zW) Zk))
  (Zq (ZA ["End"] "early" (Zd 0) ZeS)
  (Zq (ZA ["End"] "early_fin" (Zd 0) (mC .non))
  (Zq (ZA ["End"] "has_closed" (Zd 0) (mC (.bl false)))
  (Zq (ZA ["End"] "behind" (Zd 0) (mCB Zad (Zc (Zd 3) (Zc (mC (.int 1)) Zk))))
  (Zq (ZA ["End"] "owed_reset" (Zd 0) (mC .non))
  (Zq (ZA ["End"] "owes_syn" (Zd 0) (mC (.bl false)))
  (Zq (ZA ["End"] "owes_answer" (Zd 0) (mC (.bl false)))
  (Zq (ZA ["End"] "probes" (Zd 0) (mC (.bl false)))
  (Zq (ZA ["End"] "since" (Zd 0) (mC (.int 0)))
  (Zq (ZA ["End"] "wait" (Zd 0) (mC (.int 1000)))
  (ZA ["End"] "tries" (Zd 0) (mC (.int 0)))))))))))))))))))))))))))
def Zaf:GM:=Z0 5 5 Zbt
def Zbz:SM:=(Zq (ZA ["End"] "since" (Zd 0) (Zd 1))
  (Zq (ZA ["End"] "wait" (Zd 0) (mC (.int 1000)))
  (ZA ["End"] "tries" (Zd 0) (mC (.int 0)))))
def Z2:GM:=Z0 2 2 Zbz
def ZbP:SM:=(ZO (mCB Zdw (Zc (ZK ["End"] "come" (Zd 0)) Zk)))
def z7:GM:=Z0 1 1 ZbP
def Zbb:SM:=(ZO (mCB Zf3 (Zc (ZK ["End"] "most" (Zd 0)) (Zc (mC (.int 16)) Zk))))
def ze:GM:=Z0 1 1 Zbb
def ZbN:SM:=(mIf (ZM (mOp eqM (ZK ["End"] "state" (Zd 0)) (mC (.str "syn sent")))) (ZO (Za4 (Zc (ZK ["End"] "ours" (Zd 0)) (Zc (ZK ["End"] "theirs" (Zd 0)) (Zc (ZK ["End"] "first" (Zd 0)) (Zc (mC (.int 0)) (Zc (mC (.int 2)) (Zc (mC (.int 64)) (Zc (mC (.int 16)) (Zc (Za4 Zk) Zk)))))))))) zb)
def ZcI:SM:=(Zq (ZA ["End"] "owes_syn" (Zd 0) (mC (.bl false)))
  (Zq ZbN
  (ZO (Za4 (Zc (ZK ["End"] "ours" (Zd 0)) (Zc (ZK ["End"] "theirs" (Zd 0)) (Zc (ZK ["End"] "first" (Zd 0)) (Zc (ZK ["End"] "rcv" (Zd 0)) (Zc (mOp ZN (mC (.int 2)) (mC (.int 16))) (Zc (mC (.int 64)) (Zc (mC (.int 16)) (Zc (Za4 Zk) Zk))))))))))))
def zS:GM:=Z0 1 1 ZcI
def ZbM:SM:=(ZO (Za4 (Zc (ZK ["End"] "ours" (Zd 0)) (Zc (ZK ["End"] "theirs" (Zd 0)) (Zc (Zd 1) (Zc (ZK ["End"] "rcv" (Zd 0)) (Zc (mOp ZN (Zd 2) (mC (.int 16))) (Zc (mCB z7 (Zc (Zd 0) Zk)) (Zc (mC (.int 0)) (Zc (mCB ZeG (Zc (Zd 3) Zk)) Zk))))))))))
def ZV:GM:=Z0 4 4 ZbM
def Zat:SM:=(mIf (ZM (mOp eqM (ZK ["End"] "tries" (Zd 0)) (mC (.int 6)))) (Zq (ZA ["End"] "state" (Zd 0) (mC (.str "closed")))
    (Zq (ZA ["End"] "error" (Zd 0) (mC (.str "time")))
    (ZO (mC .non)))) zb)
def ZaR:SM:=(mIf (ZM (mOp inM (ZK ["End"] "state" (Zd 0)) (Za4 (Zc (mC (.str "syn sent")) (Zc (mC (.str "syn come")) Zk))))) (ZO (mCB zS (Zc (Zd 0) Zk))) zb)
def Zbe:SM:=(Zq Zat
  (Zq (ZA ["End"] "tries" (Zd 0) (mOp ZN (ZK ["End"] "tries" (Zd 0)) (mC (.int 1))))
  (Zq (ZA ["End"] "wait" (Zd 0) (mCB Zf3 (Zc (mOp Zcm (mC (.int 2)) (ZK ["End"] "wait" (Zd 0))) (Zc (mC (.int 16000)) Zk))))
  (Zq (ZA ["End"] "since" (Zd 0) (Zd 1))
  (Zq ZaR
  (Zq (Z7 2 (mSl (ZK ["Pile"] "row" (ZK ["End"] "written" (Zd 0))) Zam (ZaK (mCB Zf3 (Zc (mCB zE (Zc (ZK ["End"] "nxt" (Zd 0)) (Zc (ZK ["End"] "una" (Zd 0)) Zk))) (Zc (mCB ze (Zc (Zd 0) Zk)) Zk))))))
  (ZO (mCB ZV (Zc (Zd 0) (Zc (ZK ["End"] "una" (Zd 0)) (Zc (ZdI (ZM (mOp gtM (mCB Zdh (Zc (Zd 2) Zk)) (mC (.int 0)))) (mC (.int 0)) (mC (.int 1))) (Zc (Zd 2) Zk))))))))))))
def ZaI:GM:=Z0 2 3 Zbe
def zB:SM:=(mIf (Zgu (Zdg (ZK ["End"] "owes_answer" (Zd 0)))) (ZO (mC .non)) zb)
def zM:SM:=(Zq zB
  (Zq (ZA ["End"] "owes_answer" (Zd 0) (mC (.bl false)))
  (ZO (mCB ZV (Zc (Zd 0) (Zc (ZK ["End"] "nxt" (Zd 0)) (Zc (mC (.int 0)) (Zc (ZaH Zk) Zk))))))))
def Z6:GM:=Z0 1 1 zM
def ZdS:SM:=(ZO (mCB zE (Zc (ZK ["End"] "behind" (Zd 0)) (Zc (ZK ["End"] "nxt" (Zd 0)) Zk))))
def zO:GM:=Z0 1 1 ZdS
def Zbc:SM:=(ZO (Zg8 (mOp inM (ZK ["End"] "state" (Zd 0)) (Za4 (Zc (mC (.str "open")) (Zc (mC (.str "wait one")) (Zc (mC (.str "close wait")) (Zc (mC (.str "closing")) (Zc (mC (.str "last ack")) Zk))))))) (mOp gtM (mCB zO (Zc (Zd 0) Zk)) (mC (.int 0)))))
def zf:GM:=Z0 1 1 Zbc
def ZbA:SM:=(ZO (Zg8 (mOp inM (ZK ["End"] "state" (Zd 0)) (Za4 (Zc (mC (.str "wait one")) (Zc (mC (.str "closing")) (Zc (mC (.str "last ack")) Zk))))) (mOp eqM (mCB zO (Zc (Zd 0) Zk)) (mC (.int 0)))))
def zP:GM:=Z0 1 1 ZbA
def ZcL:SM:=(ZO (Zmw (mCB zf (Zc (Zd 0) Zk)) (mCB zP (Zc (Zd 0) Zk))))
def zT:GM:=Z0 1 1 ZcL
def Zbs:SM:=(Zq (Z7 2 (ZK ["End"] "nxt" (Zd 0)))
  (Zq (Z7 3 (mCB Zf3 (Zc (mCB ze (Zc (Zd 0) Zk)) (Zc (mCB zO (Zc (Zd 0) Zk)) (Zc (Zd 1) Zk)))))
  (Zq (Z7 4 (mCB zE (Zc (Zd 2) (Zc (ZK ["End"] "una" (Zd 0)) Zk))))
  (Zq (ZA ["End"] "nxt" (Zd 0) (mCB Zad (Zc (Zd 2) (Zc (Zd 3) Zk))))
  (ZO (mCB ZV (Zc (Zd 0) (Zc (Zd 2) (Zc (ZdI (ZM (mOp eqM (mCB zO (Zc (Zd 0) Zk)) (mC (.int 0)))) (mC (.int 8)) (mC (.int 0))) (Zc (mSl (ZK ["Pile"] "row" (ZK ["End"] "written" (Zd 0))) (ZaK (Zd 4)) (ZaK (mOp ZN (Zd 4) (Zd 3)))) Zk))))))))))
def Zae:GM:=Z0 2 5 Zbs
def Zdd:SM:=(Zq (Z7 1 (ZK ["End"] "nxt" (Zd 0)))
  (Zq (ZA ["End"] "nxt" (Zd 0) (mCB Zad (Zc (Zd 1) (Zc (mC (.int 1)) Zk))))
  (ZO (mCB ZV (Zc (Zd 0) (Zc (Zd 1) (Zc (mC (.int 1)) (Zc (ZaH Zk) Zk))))))))
def Za3:GM:=Z0 1 2 Zdd
def ZaW:SM:=(Zq (ZA ["End"] "probes" (Zd 0) (mC (.bl false)))
  (ZO (ZdI (Zdg (mCB zf (Zc (Zd 0) Zk))) (mCB Zae (Zc (Zd 0) (Zc (Zd 1) Zk))) (mCB Za3 (Zc (Zd 0) Zk)))))
def zr:GM:=Z0 2 2 ZaW
def ZaV:SM:=(mIf (ZM (mOp eqM (ZK ["End"] "nxt" (Zd 0)) (ZK ["End"] "una" (Zd 0)))) (Zc8 (mCB Z2 (Zc (Zd 0) (Zc (Zd 1) Zk)))) zb)
def ZbQ:SM:=(Zq ZaV
  (Zq (ZA ["End"] "nxt" (Zd 0) (mCB Zad (Zc (ZK ["End"] "first" (Zd 0)) (Zc (mC (.int 1)) Zk))))
  (ZO (mCB zS (Zc (Zd 0) Zk)))))
def Zay:GM:=Z0 2 2 ZbQ
def ZS:SM:=(mIf (ZM (mOp inM (ZK ["End"] "state" (Zd 0)) (Za4 (Zc (mC (.str "syn sent")) (Zc (mC (.str "syn come")) Zk))))) (ZO (ZdI (mOr (ZM (mOp eqM (ZK ["End"] "nxt" (Zd 0)) (ZK ["End"] "first" (Zd 0)))) (Zdg (ZK ["End"] "owes_syn" (Zd 0)))) (mCB Zay (Zc (Zd 0) (Zc (Zd 1) Zk))) (mC .non))) zb)
def zh:SM:=(mIf (mOr (ZM (mOp leM (Zd 2) (mC (.int 0)))) (Zgu (Zdg (mCB zT (Zc (Zd 0) Zk))))) (ZO (mC .non)) zb)
def zV:SM:=(mIf (ZM (mOp eqM (ZK ["End"] "nxt" (Zd 0)) (ZK ["End"] "una" (Zd 0)))) (Zc8 (mCB Z2 (Zc (Zd 0) (Zc (Zd 1) Zk)))) zb)
def Z1:SM:=(Zq ZS
  (Zq (Z7 2 (mOp Zci (ZK ["End"] "wnd" (Zd 0)) (mCB zE (Zc (ZK ["End"] "nxt" (Zd 0)) (Zc (ZK ["End"] "una" (Zd 0)) Zk)))))
  (Zq zh
  (Zq zV
  (Zq (ZA ["End"] "owes_answer" (Zd 0) (mC (.bl false)))
  (ZO (mCB zr (Zc (Zd 0) (Zc (Zd 2) Zk)))))))))
def ZF:GM:=Z0 2 3 Z1
def ZdX:SM:=(ZO (mOp geM (mOp Zci (Zd 1) (ZK ["End"] "since" (Zd 0))) (ZK ["End"] "wait" (Zd 0))))
def ZaC:GM:=Z0 2 2 ZdX
def ZL:SM:=(mIf (mOr (ZM (mOp neM (ZK ["End"] "nxt" (Zd 0)) (ZK ["End"] "una" (Zd 0)))) (mOr (ZM (mOp neM (ZK ["End"] "wnd" (Zd 0)) (mC (.int 0)))) (Zgu (Zdg (mCB zT (Zc (Zd 0) Zk)))))) (Zq (ZA ["End"] "probes" (Zd 0) (mC (.bl false)))
    (ZO (mC .non))) zb)
def zl:SM:=(mIf (Zgu (Zdg (ZK ["End"] "probes" (Zd 0)))) (Zq (ZA ["End"] "probes" (Zd 0) (mC (.bl true)))
    (Zc8 (mCB Z2 (Zc (Zd 0) (Zc (Zd 1) Zk))))) zb)
def zk:SM:=(mIf (Zgu (Zdg (mCB ZaC (Zc (Zd 0) (Zc (Zd 1) Zk))))) (ZO (mC .non)) zb)
def ZR:SM:=(Zq ZL
  (Zq zl
  (Zq zk
  (Zq (ZA ["End"] "since" (Zd 0) (Zd 1))
  (ZO (mCB zr (Zc (Zd 0) (Zc (mC (.int 1)) Zk))))))))
def ZG:GM:=Z0 2 2 ZR
def ZbO:SM:=(Zq (Z7 1 (ZK ["End"] "owed_reset" (Zd 0)))
  (Zq (ZA ["End"] "owed_reset" (Zd 0) (mC .non))
  (ZO (Zd 1))))
def Zav:GM:=Z0 1 2 ZbO
def ZaP:SM:=(mIf (ZM (mOp ZcY (ZK ["End"] "owed_reset" (Zd 0)) (mC .non))) (ZO (mCB Zav (Zc (Zd 0) Zk))) zb)
def ZbR:SM:=(mIf (ZkQ (ZM (mOp eqM (ZK ["End"] "state" (Zd 0)) (mC (.str "time wait")))) (ZM (mOp geM (mOp Zci (Zd 1) (ZK ["End"] "since" (Zd 0))) (mC (.int 120000))))) (ZA ["End"] "state" (Zd 0) (mC (.str "closed"))) zb)
def z0:SM:=(mIf (ZM (mOp inM (ZK ["End"] "state" (Zd 0)) (Za4 (Zc (mC (.str "closed")) (Zc (mC (.str "listen")) Zk))))) (ZO (mC .non)) zb)
def Zas:SM:=(mIf (ZkQ (ZM (mOp neM (ZK ["End"] "nxt" (Zd 0)) (ZK ["End"] "una" (Zd 0)))) (Zdg (mCB ZaC (Zc (Zd 0) (Zc (Zd 1) Zk))))) (ZO (mCB ZaI (Zc (Zd 0) (Zc (Zd 1) Zk)))) zb)
def zZ:SM:=(mIf (ZM (mOp isM (Zd 2) (mC .non))) (Z7 2 (mCB ZG (Zc (Zd 0) (Zc (Zd 1) Zk)))) zb)
def zY:SM:=(mIf (ZM (mOp isM (Zd 2) (mC .non))) (Z7 2 (mCB Z6 (Zc (Zd 0) Zk))) zb)
def Zb6:SM:=(Zq ZaP
  (Zq ZbR
  (Zq z0
  (Zq Zas
  (Zq (Z7 2 (mCB ZF (Zc (Zd 0) (Zc (Zd 1) Zk))))
  (Zq zZ
  (Zq zY
  (ZO (Zd 2)))))))))
def Zbm:GM:=Z0 2 3 Zb6
def ZdU:SM:=(Zq (Z7 2 (mCB Zbm (Zc (Zd 0) (Zc (Zd 1) Zk))))
  (ZO (ZdI (ZM (mOp isM (Zd 2) (mC .non))) (ZaH Zk) (mCB Zdx (Zc (Zd 2) Zk)))))
def Zbj:GM:=Z0 2 3 ZdU
def ZdV:SM:=(ZO (mCB (mkG "End" Zaf) (Zc (Zd 0) (Zc (Zd 1) (Zc (Zd 2) (Zc (Zd 3) Zk))))))
def ZbE:GM:=Z0 4 4 ZdV
end
end My
namespace My
open PySem L2 L2.MM
noncomputable section
inductive State where
  | closed | listen | synSent | synCome | opn | waitOne | waitTwo | closeWait | closing | lastAck | timeWait
  deriving DecidableEq
def State.s:State→Str
  | .closed=>"closed" | .listen=>"listen" | .synSent=>"syn sent" | .synCome=>"syn come" | .opn=>"open" | .waitOne=>"wait one" | .waitTwo=>"wait two" | .closeWait=>"close wait" | .closing=>"closing" | .lastAck=>"last ack" | .timeWait=>"time wait"
inductive Err where
  | none | refused | reset | time
  deriving DecidableEq
def Err.s:Err→Str
  | .none=>"" | .refused=>"refused" | .reset=>"reset" | .time=>"time"
structure Zv where
  ours:Int
  theirs:Int
  state:State
  error:Err
  first:Int
  una:Int
  nxt:Int
  rcv:Int
  wnd:Int
  told:Int
  told_by:Int
  most:Int
  written:List Int
  come:List Int
  early:List (Int×Int)
  early_fin:Option Int
  has_closed:Bool
  behind:Int
  owed_reset:Option Seg
  owes_syn:Bool
  owes_answer:Bool
  probes:Bool
  since:Int
  wait:Int
  tries:Int
def Zqe:Option Int→D
  | none=>.non
  | some i=>.int i
def zA:Option Seg→D
  | none=>.non
  | some s=>s.d
def fields (l:Nat) (e:Zv):List (Str×D):=[("ours",.int e.ours),("theirs",.int e.theirs),("state",.str e.state.s),("error",.str e.error.s),("first",.int e.first),("una",.int e.una),("nxt",.int e.nxt),("rcv",.int e.rcv),("wnd",.int e.wnd),("told",.int e.told),("told_by",.int e.told_by),("most",.int e.most),("written",.ref (l+1)),("come",.ref (l+2)),("early",.ref (l+3)),("early_fin",Zqe e.early_fin),("has_closed",.bl e.has_closed),("behind",.int e.behind),("owed_reset",zA e.owed_reset),("owes_syn",.bl e.owes_syn),("owes_answer",.bl e.owes_answer),("probes",.bl e.probes),("since",.int e.since),("wait",.int e.wait),("tries",.int e.tries)]
def c0 (l:Nat) (e:Zv):Cell:=.ins "End" (fields l e)
def c1 (e:Zv):Cell:=.ins "Pile" [("row",il e.written)]
def c2 (e:Zv):Cell:=.ins "Pile" [("row",il e.come)]
def c3 (e:Zv):Cell:=.dK (e.early.map fun p=>(Sum.inl p.1,D.int p.2))
def upE (θ:Sto) (l:Nat) (e:Zv):Sto:=(((θ.set l (c0 l e)).set (l+1) (c1 e)).set (l+2) (c2 e)).set (l+3) (c3 e)
theorem at0 {θ:Sto} {l:Nat} (h:l+3 < θ.length) (e:Zv):(upE θ l e)[l]?=some (c0 l e):=by
  unfold upE
  rw [List.getElem?_set_ne (by omega),List.getElem?_set_ne (by omega),List.getElem?_set_ne (by omega),List.getElem?_set_self (by omega)]
theorem at1 {θ:Sto} {l:Nat} (h:l+3 < θ.length) (e:Zv):(upE θ l e)[l+1]?=some (c1 e):=by
  unfold upE
  rw [List.getElem?_set_ne (by omega),List.getElem?_set_ne (by omega),List.getElem?_set_self (by simp; omega)]
theorem Zqh {θ:Sto} {l:Nat} (h:l+3 < θ.length) (e:Zv):(upE θ l e)[l+2]?=some (c2 e):=by
  unfold upE
  rw [List.getElem?_set_ne (by omega),List.getElem?_set_self (by simp; omega)]
theorem Zea {θ:Sto} {l:Nat} (h:l+3 < θ.length) (e e':Zv) (h1:e'.written=e.written) (h2:e'.come=e.come) (h3:e'.early=e.early):(upE θ l e).set l (c0 l e')=upE θ l e':=by
  unfold upE
  rw [show c1 e'=c1 e by unfold c1; rw [h1],show c2 e'=c2 e by unfold c2; rw [h2],show c3 e'=c3 e by unfold c3; rw [h3]]
  apply List.ext_getElem?
  intro i
  simp only [List.getElem?_set,List.length_set]
  by_cases h3:l=i
  · subst h3; simp
  · simp [h3]
theorem z9 {θ:Sto} {l:Nat} (h:l+3 < θ.length) (e:Zv):Zbx (upE θ l e) (.ref l)=some (l,("End":Str),fields l e):=by
  show (match (upE θ l e)[l]? with | some (Cell.ins C fs)=>some (l,C,fs) | _=>none)=_
  rw [at0 h]
  rfl
theorem ce:(["End"]:List Str).contains "End"=true:=by decide +kernel
theorem cp:(["Pile"]:List Str).contains "Pile"=true:=by decide +kernel
@[simp] theorem Zqb {θ:Sto} {l:Nat} (h:l+3 < θ.length) (e:Zv):Z9 ["End"] "ours" (.ref l) (upE θ l e)=.ok (.int e.ours) (upE θ l e):=by
  unfold Z9
  rw [z9 h]
  simp only [ce,if_true]
  rw [show (fields l e).lookup ("ours":Str)=some (.int e.ours) by with_unfolding_all rfl]
@[simp] theorem Zn9 {θ:Sto} {l:Nat} (h:l+3 < θ.length) (e:Zv):Z9 ["End"] "theirs" (.ref l) (upE θ l e)=.ok (.int e.theirs) (upE θ l e):=by
  unfold Z9
  rw [z9 h]
  simp only [ce,if_true]
  rw [show (fields l e).lookup ("theirs":Str)=some (.int e.theirs) by with_unfolding_all rfl]
@[simp] theorem ZoD {θ:Sto} {l:Nat} (h:l+3 < θ.length) (e:Zv):Z9 ["End"] "state" (.ref l) (upE θ l e)=.ok (.str e.state.s) (upE θ l e):=by
  unfold Z9
  rw [z9 h]
  simp only [ce,if_true]
  rw [show (fields l e).lookup ("state":Str)=some (.str e.state.s) by with_unfolding_all rfl]
@[simp] theorem ZoF {θ:Sto} {l:Nat} (h:l+3 < θ.length) (e:Zv):Z9 ["End"] "first" (.ref l) (upE θ l e)=.ok (.int e.first) (upE θ l e):=by
  unfold Z9
  rw [z9 h]
  simp only [ce,if_true]
  rw [show (fields l e).lookup ("first":Str)=some (.int e.first) by with_unfolding_all rfl]
@[simp] theorem ZqI {θ:Sto} {l:Nat} (h:l+3 < θ.length) (e:Zv):Z9 ["End"] "una" (.ref l) (upE θ l e)=.ok (.int e.una) (upE θ l e):=by
  unfold Z9
  rw [z9 h]
  simp only [ce,if_true]
  rw [show (fields l e).lookup ("una":Str)=some (.int e.una) by with_unfolding_all rfl]
@[simp] theorem ZqK {θ:Sto} {l:Nat} (h:l+3 < θ.length) (e:Zv):Z9 ["End"] "nxt" (.ref l) (upE θ l e)=.ok (.int e.nxt) (upE θ l e):=by
  unfold Z9
  rw [z9 h]
  simp only [ce,if_true]
  rw [show (fields l e).lookup ("nxt":Str)=some (.int e.nxt) by with_unfolding_all rfl]
@[simp] theorem ZqJ {θ:Sto} {l:Nat} (h:l+3 < θ.length) (e:Zv):Z9 ["End"] "rcv" (.ref l) (upE θ l e)=.ok (.int e.rcv) (upE θ l e):=by
  unfold Z9
  rw [z9 h]
  simp only [ce,if_true]
  rw [show (fields l e).lookup ("rcv":Str)=some (.int e.rcv) by with_unfolding_all rfl]
@[simp] theorem ZqH {θ:Sto} {l:Nat} (h:l+3 < θ.length) (e:Zv):Z9 ["End"] "wnd" (.ref l) (upE θ l e)=.ok (.int e.wnd) (upE θ l e):=by
  unfold Z9
  rw [z9 h]
  simp only [ce,if_true]
  rw [show (fields l e).lookup ("wnd":Str)=some (.int e.wnd) by with_unfolding_all rfl]
@[simp] theorem Zqc {θ:Sto} {l:Nat} (h:l+3 < θ.length) (e:Zv):Z9 ["End"] "most" (.ref l) (upE θ l e)=.ok (.int e.most) (upE θ l e):=by
  unfold Z9
  rw [z9 h]
  simp only [ce,if_true]
  rw [show (fields l e).lookup ("most":Str)=some (.int e.most) by with_unfolding_all rfl]
@[simp] theorem Zm6 {θ:Sto} {l:Nat} (h:l+3 < θ.length) (e:Zv):Z9 ["End"] "written" (.ref l) (upE θ l e)=.ok (.ref (l+1)) (upE θ l e):=by
  unfold Z9
  rw [z9 h]
  simp only [ce,if_true]
  rw [show (fields l e).lookup ("written":Str)=some (.ref (l+1)) by with_unfolding_all rfl]
@[simp] theorem Zqd {θ:Sto} {l:Nat} (h:l+3 < θ.length) (e:Zv):Z9 ["End"] "come" (.ref l) (upE θ l e)=.ok (.ref (l+2)) (upE θ l e):=by
  unfold Z9
  rw [z9 h]
  simp only [ce,if_true]
  rw [show (fields l e).lookup ("come":Str)=some (.ref (l+2)) by with_unfolding_all rfl]
@[simp] theorem Zob {θ:Sto} {l:Nat} (h:l+3 < θ.length) (e:Zv):Z9 ["End"] "behind" (.ref l) (upE θ l e)=.ok (.int e.behind) (upE θ l e):=by
  unfold Z9
  rw [z9 h]
  simp only [ce,if_true]
  rw [show (fields l e).lookup ("behind":Str)=some (.int e.behind) by with_unfolding_all rfl]
@[simp] theorem ZkW {θ:Sto} {l:Nat} (h:l+3 < θ.length) (e:Zv):Z9 ["End"] "owed_reset" (.ref l) (upE θ l e)=.ok (zA e.owed_reset) (upE θ l e):=by
  unfold Z9
  rw [z9 h]
  simp only [ce,if_true]
  rw [show (fields l e).lookup ("owed_reset":Str)=some (zA e.owed_reset) by with_unfolding_all rfl]
@[simp] theorem ZmF {θ:Sto} {l:Nat} (h:l+3 < θ.length) (e:Zv):Z9 ["End"] "owes_syn" (.ref l) (upE θ l e)=.ok (.bl e.owes_syn) (upE θ l e):=by
  unfold Z9
  rw [z9 h]
  simp only [ce,if_true]
  rw [show (fields l e).lookup ("owes_syn":Str)=some (.bl e.owes_syn) by with_unfolding_all rfl]
@[simp] theorem Zj5 {θ:Sto} {l:Nat} (h:l+3 < θ.length) (e:Zv):Z9 ["End"] "owes_answer" (.ref l) (upE θ l e)=.ok (.bl e.owes_answer) (upE θ l e):=by
  unfold Z9
  rw [z9 h]
  simp only [ce,if_true]
  rw [show (fields l e).lookup ("owes_answer":Str)=some (.bl e.owes_answer) by with_unfolding_all rfl]
@[simp] theorem Zoa {θ:Sto} {l:Nat} (h:l+3 < θ.length) (e:Zv):Z9 ["End"] "probes" (.ref l) (upE θ l e)=.ok (.bl e.probes) (upE θ l e):=by
  unfold Z9
  rw [z9 h]
  simp only [ce,if_true]
  rw [show (fields l e).lookup ("probes":Str)=some (.bl e.probes) by with_unfolding_all rfl]
@[simp] theorem ZoE {θ:Sto} {l:Nat} (h:l+3 < θ.length) (e:Zv):Z9 ["End"] "since" (.ref l) (upE θ l e)=.ok (.int e.since) (upE θ l e):=by
  unfold Z9
  rw [z9 h]
  simp only [ce,if_true]
  rw [show (fields l e).lookup ("since":Str)=some (.int e.since) by with_unfolding_all rfl]
@[simp] theorem Zp8 {θ:Sto} {l:Nat} (h:l+3 < θ.length) (e:Zv):Z9 ["End"] "wait" (.ref l) (upE θ l e)=.ok (.int e.wait) (upE θ l e):=by
  unfold Z9
  rw [z9 h]
  simp only [ce,if_true]
  rw [show (fields l e).lookup ("wait":Str)=some (.int e.wait) by with_unfolding_all rfl]
@[simp] theorem ZoC {θ:Sto} {l:Nat} (h:l+3 < θ.length) (e:Zv):Z9 ["End"] "tries" (.ref l) (upE θ l e)=.ok (.int e.tries) (upE θ l e):=by
  unfold Z9
  rw [z9 h]
  simp only [ce,if_true]
  rw [show (fields l e).lookup ("tries":Str)=some (.int e.tries) by with_unfolding_all rfl]
@[simp] theorem Zov {θ:Sto} {l:Nat} (h:l+3 < θ.length) (e:Zv) (v:State):Z4 ["End"] "state" (.str v.s) (.ref l) (upE θ l e)=some (upE θ l { e with state:=v }):=by
  unfold Z4
  rw [z9 h]
  simp only [ce]
  rw [if_pos ⟨trivial,show 25<1000 by decide⟩,show Zao ("state":Str) (.str v.s) (fields l e)=fields l { e with state:=v } by with_unfolding_all rfl]
  exact congrArg some (Zea h e { e with state:=v } rfl rfl rfl)
@[simp] theorem Zox {θ:Sto} {l:Nat} (h:l+3 < θ.length) (e:Zv) (v:Err):Z4 ["End"] "error" (.str v.s) (.ref l) (upE θ l e)=some (upE θ l { e with error:=v }):=by
  unfold Z4
  rw [z9 h]
  simp only [ce]
  rw [if_pos ⟨trivial,show 25<1000 by decide⟩,show Zao ("error":Str) (.str v.s) (fields l e)=fields l { e with error:=v } by with_unfolding_all rfl]
  exact congrArg some (Zea h e { e with error:=v } rfl rfl rfl)
@[simp] theorem ZqB {θ:Sto} {l:Nat} (h:l+3 < θ.length) (e:Zv) (v:Int):Z4 ["End"] "nxt" (.int v) (.ref l) (upE θ l e)=some (upE θ l { e with nxt:=v }):=by
  unfold Z4
  rw [z9 h]
  simp only [ce]
  rw [if_pos ⟨trivial,show 25<1000 by decide⟩,show Zao ("nxt":Str) (.int v) (fields l e)=fields l { e with nxt:=v } by with_unfolding_all rfl]
  exact congrArg some (Zea h e { e with nxt:=v } rfl rfl rfl)
@[simp] theorem ZeK {θ:Sto} {l:Nat} (h:l+3 < θ.length) (e:Zv) (v:Option Seg):Z4 ["End"] "owed_reset" (zA v) (.ref l) (upE θ l e)=some (upE θ l { e with owed_reset:=v }):=by
  unfold Z4
  rw [z9 h]
  simp only [ce]
  rw [if_pos ⟨trivial,show 25<1000 by decide⟩,show Zao ("owed_reset":Str) (zA v) (fields l e)=fields l { e with owed_reset:=v } by with_unfolding_all rfl]
  exact congrArg some (Zea h e { e with owed_reset:=v } rfl rfl rfl)
@[simp] theorem ZlY {θ:Sto} {l:Nat} (h:l+3 < θ.length) (e:Zv) (v:Bool):Z4 ["End"] "owes_syn" (.bl v) (.ref l) (upE θ l e)=some (upE θ l { e with owes_syn:=v }):=by
  unfold Z4
  rw [z9 h]
  simp only [ce]
  rw [if_pos ⟨trivial,show 25<1000 by decide⟩,show Zao ("owes_syn":Str) (.bl v) (fields l e)=fields l { e with owes_syn:=v } by with_unfolding_all rfl]
  exact congrArg some (Zea h e { e with owes_syn:=v } rfl rfl rfl)
@[simp] theorem Zj4 {θ:Sto} {l:Nat} (h:l+3 < θ.length) (e:Zv) (v:Bool):Z4 ["End"] "owes_answer" (.bl v) (.ref l) (upE θ l e)=some (upE θ l { e with owes_answer:=v }):=by
  unfold Z4
  rw [z9 h]
  simp only [ce]
  rw [if_pos ⟨trivial,show 25<1000 by decide⟩,show Zao ("owes_answer":Str) (.bl v) (fields l e)=fields l { e with owes_answer:=v } by with_unfolding_all rfl]
  exact congrArg some (Zea h e { e with owes_answer:=v } rfl rfl rfl)
@[simp] theorem Znx {θ:Sto} {l:Nat} (h:l+3 < θ.length) (e:Zv) (v:Bool):Z4 ["End"] "probes" (.bl v) (.ref l) (upE θ l e)=some (upE θ l { e with probes:=v }):=by
  unfold Z4
  rw [z9 h]
  simp only [ce]
  rw [if_pos ⟨trivial,show 25<1000 by decide⟩,show Zao ("probes":Str) (.bl v) (fields l e)=fields l { e with probes:=v } by with_unfolding_all rfl]
  exact congrArg some (Zea h e { e with probes:=v } rfl rfl rfl)
@[simp] theorem Zow {θ:Sto} {l:Nat} (h:l+3 < θ.length) (e:Zv) (v:Int):Z4 ["End"] "since" (.int v) (.ref l) (upE θ l e)=some (upE θ l { e with since:=v }):=by
  unfold Z4
  rw [z9 h]
  simp only [ce]
  rw [if_pos ⟨trivial,show 25<1000 by decide⟩,show Zao ("since":Str) (.int v) (fields l e)=fields l { e with since:=v } by with_unfolding_all rfl]
  exact congrArg some (Zea h e { e with since:=v } rfl rfl rfl)
@[simp] theorem ZpO {θ:Sto} {l:Nat} (h:l+3 < θ.length) (e:Zv) (v:Int):Z4 ["End"] "wait" (.int v) (.ref l) (upE θ l e)=some (upE θ l { e with wait:=v }):=by
  unfold Z4
  rw [z9 h]
  simp only [ce]
  rw [if_pos ⟨trivial,show 25<1000 by decide⟩,show Zao ("wait":Str) (.int v) (fields l e)=fields l { e with wait:=v } by with_unfolding_all rfl]
  exact congrArg some (Zea h e { e with wait:=v } rfl rfl rfl)
@[simp] theorem Zou {θ:Sto} {l:Nat} (h:l+3 < θ.length) (e:Zv) (v:Int):Z4 ["End"] "tries" (.int v) (.ref l) (upE θ l e)=some (upE θ l { e with tries:=v }):=by
  unfold Z4
  rw [z9 h]
  simp only [ce]
  rw [if_pos ⟨trivial,show 25<1000 by decide⟩,show Zao ("tries":Str) (.int v) (fields l e)=fields l { e with tries:=v } by with_unfolding_all rfl]
  exact congrArg some (Zea h e { e with tries:=v } rfl rfl rfl)
section
variable {θ:Sto} {l:Nat}
@[simp] theorem Zp9 (h:l+3 < θ.length) (e:Zv):Z9 ["Pile"] "row" (.ref (l+1)) (upE θ l e)=.ok (il e.written) (upE θ l e):=by
  have:Zbx (upE θ l e) (.ref (l+1))=some (l+1,("Pile":Str),[(("row":Str),il e.written)]):=by
    show (match (upE θ l e)[l+1]? with | some (Cell.ins C fs)=>some (l+1,C,fs) | _=>none)=_
    rw [at1 h]
    rfl
  unfold Z9
  rw [this]
  simp only [cp,if_true]
  rw [show ([("row",il e.written)]:List (Str×D)).lookup ("row":Str)=some (il e.written) by with_unfolding_all rfl]
@[simp] theorem Zqa (h:l+3 < θ.length) (e:Zv):Z9 ["Pile"] "row" (.ref (l+2)) (upE θ l e)=.ok (il e.come) (upE θ l e):=by
  have:Zbx (upE θ l e) (.ref (l+2))=some (l+2,("Pile":Str),[(("row":Str),il e.come)]):=by
    show (match (upE θ l e)[l+2]? with | some (Cell.ins C fs)=>some (l+2,C,fs) | _=>none)=_
    rw [Zqh h]
    rfl
  unfold Z9
  rw [this]
  simp only [cp,if_true]
  rw [show ([("row",il e.come)]:List (Str×D)).lookup ("row":Str)=some (il e.come) by with_unfolding_all rfl]
end
@[simp] theorem Znk:("closed":Str)=State.closed.s:=nr rfl
@[simp] theorem Znj:("listen":Str)=State.listen.s:=nr rfl
@[simp] theorem ZmT:("syn sent":Str)=State.synSent.s:=nr rfl
@[simp] theorem ZmU:("syn come":Str)=State.synCome.s:=nr rfl
@[simp] theorem Zpv:("open":Str)=State.opn.s:=nr rfl
@[simp] theorem ZmS:("wait one":Str)=State.waitOne.s:=nr rfl
@[simp] theorem Zk9:("close wait":Str)=State.closeWait.s:=nr rfl
@[simp] theorem ZmW:("closing":Str)=State.closing.s:=nr rfl
@[simp] theorem ZmV:("last ack":Str)=State.lastAck.s:=nr rfl
@[simp] theorem ZlH:("time wait":Str)=State.timeWait.s:=nr rfl
@[simp] theorem Zpw:("":Str)=Err.none.s:=nr rfl
@[simp] theorem Zpu:("time":Str)=Err.time.s:=nr rfl
theorem State.inj:∀a b:State,a.s=b.s↔a=b:=by
  intro a b
  constructor
  · intro h
    cases a<;>cases b<;>first | rfl | (exact absurd h (by decide +kernel))
  · intro h; rw [h]
theorem Zmc (k:Nat) (x:Str):pl k (.str x)=PyData.strOk x:=by cases k<;>simp [pl]
theorem State.ok (a:State) (k:Nat):pl k (.str a.s)=true:=by
  rw [Zmc]
  cases a<;>decide +kernel
section
variable {θ:Sto}
@[simp] theorem Zof (a b:State):eqM (.str a.s) (.str b.s) θ=.ok (.bl (decide (a=b))) θ:=by
  rw [ZgD (x:=.str a.s) (y:=.str b.s) (ZdR (State.ok a 9) (State.ok b 9) rfl rfl)]
  simp [State.inj]
theorem ZdG (a:State):∀bs:List State,Zd4 (bs.map fun b=>D.str b.s)=true∧memS a.s (bs.map fun b=>D.str b.s)=decide (a∈bs)
  | []=>⟨rfl,by simp [memS]⟩
  | b::bs=>by
    obtain ⟨h1,h2⟩:=ZdG a bs
    refine ⟨h1,?_⟩
    rw [List.map_cons]
    show (decide (b.s=a.s) || memS a.s (bs.map fun b=>D.str b.s))=_
    rw [h2,Bool.eq_iff_iff]
    simp only [Bool.or_eq_true,decide_eq_true_eq,List.mem_cons,State.inj]
    constructor
    · rintro (h | h)
      · exact .inl h.symm
      · exact .inr h
    · rintro (h | h)
      · exact .inl h.symm
      · exact .inr h
theorem ZcZ (a:State) (bs:List State):inM (.str a.s) (.tup (bs.map fun b=>.str b.s)) θ=.ok (.bl (decide (a∈bs))) θ:=by
  obtain ⟨h1,h2⟩:=ZdG a bs
  have e:inD θ (.str a.s) (.tup (bs.map fun b=>D.str b.s))=some (decide (a∈bs)):=by
    unfold inD
    simp only [ZfH]
    rw [if_pos h1,h2]
  unfold inM
  rw [e]
@[simp] theorem ZqE (a b c:State):inM (.str a.s) (.tup [.str b.s,.str c.s]) θ=.ok (.bl (decide (a∈[b,c]))) θ:=ZcZ a [b,c]
@[simp] theorem ZqD (a b c d:State):inM (.str a.s) (.tup [.str b.s,.str c.s,.str d.s]) θ=.ok (.bl (decide (a∈[b,c,d]))) θ:=ZcZ a [b,c,d]
@[simp] theorem ZqC (a b c d e f:State):inM (.str a.s) (.tup [.str b.s,.str c.s,.str d.s,.str e.s,.str f.s]) θ=.ok (.bl (decide (a∈[b,c,d,e,f]))) θ:=ZcZ a [b,c,d,e,f]
end
end
end My
namespace My
open PySem L2 L2.MM
noncomputable section
def Za1 (n k:Int):Int:=(n+k) % 4294967296
def Zag (n b:Int):Int:=(n-b+2147483648) % 4294967296-2147483648
def zd (e:Zv) (now:Int):Zv:={ e with since:=now,wait:=1000,tries:=0 }
def zy (e:Zv):Int:=64-(e.come.length:Int)
def ZZ (e:Zv):Int:=if 16<e.most then 16 else e.most
def Za7 (e:Zv) (now:Int):Bool:=decide (e.wait≤now-e.since)
def Zbv (e:Zv) (n f:Int) (data:List Int):Seg:=⟨e.ours,e.theirs,n,e.rcv,f+16,zy e,0,data⟩
def ZbW (e:Zv):Seg:=if e.state=.synSent then ⟨e.ours,e.theirs,e.first,0,2,64,16,[]⟩ else ⟨e.ours,e.theirs,e.first,e.rcv,18,64,16,[]⟩
def mn (i j:Int):Int:=if j<i then j else i
def Zak (e:Zv):List Int:=Zbr e.written none (some (mn (Zag e.nxt e.una) (ZZ e)))
def again (e:Zv) (now:Int):Option Seg×Zv:=
  if e.tries=6 then (none,{ e with state:=.closed,error:=.time })
  else
    let e1:={ e with tries:=e.tries+1,wait:=mn (2*e.wait) 16000,since:=now }
    if e.state=.synSent∨e.state=.synCome then (some (ZbW e1),{ e1 with owes_syn:=false })
    else (some (Zbv e1 e.una (if 0<(Zak e).length then 0 else 1) (Zak e)),e1)
def ZaS (e:Zv):Int:=Zag e.behind e.nxt
def zU (e:Zv):Bool:=decide (e.state∈[State.opn,.waitOne,.closeWait,.closing,.lastAck]) && decide (0<ZaS e)
def hasNewFin (e:Zv):Bool:=decide (e.state∈[State.waitOne,.closing,.lastAck]) && decide (ZaS e=0)
def Zb1 (e:Zv):Bool:=zU e || hasNewFin e
section
variable {θ:Sto} {l:Nat} {e:Zv} {now n k:Int}
@[simp] theorem Zpx:Zad [.int n,.int k] θ=.ok (.int (Za1 n k)) θ:=by simp [Zad,Zgg,Za1]
@[simp] theorem Zno:zE [.int n,.int k] θ=.ok (.int (Zag n k)) θ:=by simp [zE,ZdW,Zag]
@[simp] theorem Zj1 (h:l+3 < θ.length):Z2 [.ref l,.int now] (upE θ l e)=.ok .non (upE θ l (zd e now)):=by
  simp [Z2,Zbz,h,zd]
@[simp] theorem Zos (h:l+3 < θ.length):Zdw [.ref (l+2)] (upE θ l e)=.ok (.int (zy e)) (upE θ l e):=by
  simp [Zdw,Zgf,h,zy]
@[simp] theorem Zkb (h:l+3 < θ.length):z7 [.ref l] (upE θ l e)=.ok (.int (zy e)) (upE θ l e):=by
  simp [z7,ZbP,h]
@[simp] theorem ZiE (h:l+3 < θ.length):ze [.ref l] (upE θ l e)=.ok (.int (ZZ e)) (upE θ l e):=by
  simp [ze,Zbb,h,ZZ]
@[simp] theorem Znp (h:l+3 < θ.length):ZaC [.ref l,.int now] (upE θ l e)=.ok (.bl (Za7 e now)) (upE θ l e):=by
  simp [ZaC,ZdX,h,Za7]
theorem Znw (a b c d f g i:Int) (x:List Int):D.tup [.int a,.int b,.int c,.int d,.int f,.int g,.int i,itp x]=(Seg.mk a b c d f g i x).d:=rfl
theorem ZlW (a b c d f g i:Int):D.tup [.int a,.int b,.int c,.int d,.int f,.int g,.int i,.tup []]=(Seg.mk a b c d f g i []).d:=rfl
@[simp] theorem ZlM (h:l+3 < θ.length):zS [.ref l] (upE θ l e)=.ok (ZbW e).d (upE θ l { e with owes_syn:=false }):=by
  by_cases c:e.state=.synSent<;>simp [zS,ZcI,ZbN,h,ZbW,c,ZlW]
@[simp] theorem Zka {f:Int} {data:List Int} (h:l+3 < θ.length):ZV [.ref l,.int n,.int f,il data] (upE θ l e)=.ok (Zbv e n f data).d (upE θ l e):=by
  simp [ZV,ZbM,h,Zbv,Znw]
theorem Zkf (h:l+3 < θ.length):ZaI [.ref l,.int now] (upE θ l e)=.ok (zA (again e now).1) (upE θ l (again e now).2):=by
  by_cases c:e.tries=6
  · simp [ZaI,Zbe,Zat,h,again,c,zA]
  · by_cases c2:e.state=.synSent∨e.state=.synCome
    · simp [ZaI,Zbe,Zat,ZaR,h,again,c,c2,zA,Zc5,mn]
    · have am:∀e':Zv,e'.most=e.most→ZZ e'=ZZ e:=fun e' h=>by unfold ZZ; rw [h]
      have ad:Zak e=Zbr e.written none (some (mn (Zag e.nxt e.una) (ZZ e))):=rfl
      have sl:∀e':Zv,e'.written=e.written→Zcj (upE θ l e') (il e'.written) none (some (if ZZ e<Zag e.nxt e.una then ZZ e else Zag e.nxt e.una))=some (il (Zak e)):=fun e' h'=>by
        rw [Zhe,h']; rfl
      unfold again
      rw [if_neg c,if_neg c2]
      have c2':¬(e.state=State.synSent∨e.state=State.synCome):=c2
      by_cases c3:0<(Zak e).length
      · rw [if_pos c3]
        have c3':(0:Int)<(Zak e).length:=by omega
        simp [ZaI,Zbe,Zat,ZaR,h,c,c2',Zc5,mn,am,sl,c3,c3',zA,-Zhe,Zbv,zy]
      · rw [if_neg c3]
        have c3':¬(0:Int)<(Zak e).length:=by omega
        simp [ZaI,Zbe,Zat,ZaR,h,c,c2',Zc5,mn,am,sl,c3,c3',zA,-Zhe,Zbv,zy]
@[simp] theorem Znl (h:l+3 < θ.length):zO [.ref l] (upE θ l e)=.ok (.int (ZaS e)) (upE θ l e):=by
  simp [zO,ZdS,h,ZaS]
@[simp] theorem ZiG (h:l+3 < θ.length):zf [.ref l] (upE θ l e)=.ok (.bl (zU e)) (upE θ l e):=by
  simp [zf,Zbc,h,zU]
@[simp] theorem Zj2 (h:l+3 < θ.length):zP [.ref l] (upE θ l e)=.ok (.bl (hasNewFin e)) (upE θ l e):=by
  simp [zP,ZbA,h,hasNewFin]
@[simp] theorem ZlP (h:l+3 < θ.length):zT [.ref l] (upE θ l e)=.ok (.bl (Zb1 e)) (upE θ l e):=by
  simp [zT,ZcL,h,Zb1]
end
def mn3 (i j k:Int):Int:=if j<i then (if k<j then k else j) else (if k<i then k else i)
def Zdj (e:Zv) (room:Int):Int:=mn3 (ZZ e) (ZaS e) room
def ZcB (e:Zv) (room:Int):Seg×Zv:=
  let e1:={ e with nxt:=Za1 e.nxt (Zdj e room) }
  (Zbv e1 e.nxt (if ZaS e1=0 then 8 else 0) (Zbr e.written (some (Zag e.nxt e.una)) (some (Zag e.nxt e.una+Zdj e room))),e1)
def ZeQ (e:Zv):Seg×Zv:=(Zbv e e.nxt 1 [],{ e with nxt:=Za1 e.nxt 1 })
def Zar (e:Zv) (room:Int):Seg×Zv:=if zU e=true then ZcB { e with probes:=false } room else ZeQ { e with probes:=false }
def Zcl (e:Zv) (now:Int):Seg×Zv:=
  let e1:=if e.nxt=e.una then zd e now else e
  (ZbW { e1 with nxt:=Za1 e.first 1 },{ e1 with nxt:=Za1 e.first 1,owes_syn:=false })
def Z8 (e:Zv) (now:Int):Option Seg×Zv:=
  if e.state=.synSent∨e.state=.synCome then
    if e.nxt=e.first∨e.owes_syn=true then (some (Zcl e now).1,(Zcl e now).2) else (none,e)
  else
    if e.wnd-Zag e.nxt e.una≤0∨Zb1 e=false then (none,e)
    else
      let e1:=if e.nxt=e.una then zd e now else e
      (some (Zar { e1 with owes_answer:=false } (e.wnd-Zag e.nxt e.una)).1,(Zar { e1 with owes_answer:=false } (e.wnd-Zag e.nxt e.una)).2)
def ZX (e:Zv) (now:Int):Option Seg×Zv:=
  if ¬e.nxt=e.una∨¬e.wnd=0∨Zb1 e=false then (none,{ e with probes:=false })
  else
    let e1:=if e.probes=true then e else zd { e with probes:=true } now
    if Za7 e1 now=true then (some (Zar { e1 with since:=now } 1).1,(Zar { e1 with since:=now } 1).2) else (none,e1)
def zz (e:Zv):Option Seg×Zv:=if e.owes_answer=true then (some (Zbv e e.nxt 0 []),{ e with owes_answer:=false }) else (none,e)
def Zaw (e:Zv) (now:Int):Option Seg×Zv:=
  match Z8 e now with
  | (some s,e1)=>(some s,e1)
  | (none,e1)=>match ZX e1 now with
    | (some s,e2)=>(some s,e2)
    | (none,e2)=>zz e2
def Zab (e:Zv) (now:Int):Option Seg×Zv:=
  match e.owed_reset with
  | some s=>(some s,{ e with owed_reset:=none })
  | none=>
    let e1:=if e.state=.timeWait∧120000≤now-e.since then { e with state:=.closed } else e
    if e1.state=.closed∨e1.state=.listen then (none,e1)
    else if ¬e1.nxt=e1.una∧Za7 e1 now=true then again e1 now
    else Zaw e1 now
section
variable {θ:Sto} {l:Nat} {e:Zv} {now n k:Int}
@[simp] theorem ZlN {r:Int} (h:l+3 < θ.length):Zae [.ref l,.int r] (upE θ l e)=.ok (ZcB e r).1.d (upE θ l (ZcB e r).2):=by
  have em:(if ZaS e<ZZ e then (if r<ZaS e then r else ZaS e) else (if r<ZZ e then r else ZZ e))=Zdj e r:=rfl
  by_cases c:ZaS { e with nxt:=Za1 e.nxt (Zdj e r) }=0
  · simp [Zae,Zbs,h,em]
    simp [ZcB,c,Zbv,zy,h]
  · simp [Zae,Zbs,h,em]
    simp [ZcB,c,Zbv,zy,h]
@[simp] theorem ZmY (h:l+3 < θ.length):Za3 [.ref l] (upE θ l e)=.ok (ZeQ e).1.d (upE θ l (ZeQ e).2):=by
  simp [Za3,Zdd,h,ZeQ,Zbv,zy,ZbK]
@[simp] theorem Zlc {r:Int} (h:l+3 < θ.length):zr [.ref l,.int r] (upE θ l e)=.ok (Zar e r).1.d (upE θ l (Zar e r).2):=by
  have hp:zU { e with probes:=false }=zU e:=rfl
  by_cases c:zU e=true
  · simp [zr,ZaW,h,Zar,c,hp]
  · simp [zr,ZaW,h,Zar,c,hp]
@[simp] theorem ZmX (h:l+3 < θ.length):Zay [.ref l,.int now] (upE θ l e)=.ok (Zcl e now).1.d (upE θ l (Zcl e now).2):=by
  by_cases c:e.nxt=e.una
  · simp [Zay,ZbQ,ZaV,h,Zcl,c,zd]
  · simp [Zay,ZbQ,ZaV,h,Zcl,c]
theorem Zaz (h:l+3 < θ.length):ZF [.ref l,.int now] (upE θ l e)=.ok (zA (Z8 e now).1) (upE θ l (Z8 e now).2):=by
  by_cases c1:e.state=.synSent∨e.state=.synCome
  · by_cases c2:e.nxt=e.first∨e.owes_syn=true
    · simp [ZF,Z1,ZS,h,Z8,c1,c2,zA]
    · simp [ZF,Z1,ZS,h,Z8,c1,c2,zA]
  · by_cases c3:e.wnd-Zag e.nxt e.una≤0
    · simp [ZF,Z1,ZS,zh,h,Z8,c1,c3,zA]
    · by_cases c4:Zb1 e=true
      · by_cases c5:e.nxt=e.una
        · have c3':=c3
          rw [c5] at c3'
          simp [ZF,Z1,ZS,zh,zV,h,Z8,c1,c3',c4,c5,zA,zd]
        · simp [ZF,Z1,ZS,zh,zV,h,Z8,c1,c3,c4,c5,zA]
      · simp [ZF,Z1,ZS,zh,h,Z8,c1,c3,c4,zA]
theorem ZaY (h:l+3 < θ.length):ZG [.ref l,.int now] (upE θ l e)=.ok (zA (ZX e now).1) (upE θ l (ZX e now).2):=by
  by_cases c1:e.nxt=e.una
  · by_cases c2:e.wnd=0
    · by_cases c3:Zb1 e=true
      · by_cases c4:e.probes=true
        · by_cases c5:Za7 e now=true
          · simp [ZG,ZR,ZL,zl,zk,h,ZX,c1,c2,c3,c4,c5,zA]
          · simp [ZG,ZR,ZL,zl,zk,h,ZX,c1,c2,c3,c4,c5,zA]
        · have c5:Za7 (zd { e with probes:=true } now) now=false:=by simp [Za7,zd]
          simp [ZG,ZR,ZL,zl,zk,h,ZX,c1,c2,c3,c4,zA] at c5 ⊢
          simp [c5,Za7,zd]
      · simp [ZG,ZR,ZL,h,ZX,c1,c2,c3,zA]
    · simp [ZG,ZR,ZL,h,ZX,c1,c2,zA]
  · simp [ZG,ZR,ZL,h,ZX,c1,zA]
theorem Zcu (h:l+3 < θ.length):Z6 [.ref l] (upE θ l e)=.ok (zA (zz e).1) (upE θ l (zz e).2):=by
  by_cases c:e.owes_answer=true
  · simp [Z6,zM,zB,h,zz,c,zA,ZbK,Zbv,zy]
  · simp [Z6,zM,zB,h,zz,c,zA]
@[simp] theorem Zm1:zA none=.non:=rfl
@[simp] theorem Zm0 (s:Seg):zA (some s)=s.d:=rfl
@[simp] theorem ZoB (s:Seg):z8 s.d=false:=rfl
@[simp] theorem Zm5:z8 .non=true:=nr rfl
@[simp] theorem Zlg (h:l+3 < θ.length) (e:Zv):Z4 ["End"] "owed_reset" .non (.ref l) (upE θ l e)=some (upE θ l { e with owed_reset:=none }):=ZeK h e none
theorem Zee (h:l+3 < θ.length) (x:Sl):Zdt (Z7 2 (mCB ZF (Zc (Zd 0) (Zc (Zd 1) Zk))) [.val (.ref l),.val (.int now),x] (upE θ l e)) (Zq zZ (Zq zY (ZO (Zd 2)))) =
    .ok (.rt (zA (Zaw e now).1),[.val (.ref l),.val (.int now),.val (zA (Zaw e now).1)]) (upE θ l (Zaw e now).2):=by
  unfold Zaw
  cases c1:Z8 e now with
  | mk r1 e1=>
    cases r1 with
    | some s=>simp [h,Zaz,c1,zZ,zY]
    | none=>
      cases c2:ZX e1 now with
      | mk r2 e2=>
        cases r2 with
        | some s=>simp [h,Zaz,c1,zZ,zY,ZaY,c2]
        | none=>simp [h,Zaz,c1,zZ,zY,ZaY,c2,Zcu]
theorem ZgK (h:l+3 < θ.length):Zbm [.ref l,.int now] (upE θ l e)=.ok (zA (Zab e now).1) (upE θ l (Zab e now).2):=by
  cases c0:e.owed_reset with
  | some s=>simp [Zbm,Zb6,ZaP,h,Zab,c0,Zav,ZbO]
  | none=>
    have key:∀e1:Zv,(Zdt (z0 [.val (.ref l),.val (.int now),.no] (upE θ l e1)) (Zq Zas (Zq (Z7 2 (mCB ZF (Zc (Zd 0) (Zc (Zd 1) Zk)))) (Zq zZ (Zq zY (ZO (Zd 2))))))).bind (fun p θ=>match p.1 with | .nx=>.ok .non θ | .rt d=>.ok d θ | _=>.bad) =
        .ok (zA (if e1.state=.closed∨e1.state=.listen then (none,e1) else if ¬e1.nxt=e1.una∧Za7 e1 now=true then again e1 now else Zaw e1 now).1) (upE θ l (if e1.state=.closed∨e1.state=.listen then (none,e1) else if ¬e1.nxt=e1.una∧Za7 e1 now=true then again e1 now else Zaw e1 now).2):=fun e1=>by
      by_cases c1:e1.state=.closed∨e1.state=.listen
      · simp [z0,h,c1]
      · by_cases c2:e1.nxt=e1.una
        · have g:=Zee (e:=e1) (now:=now) h .no
          simp at g
          simp [z0,Zas,h,c1,c2]
          rw [g]
          simp
        · by_cases c3:Za7 e1 now=true
          · simp [z0,Zas,h,c1,c2,c3,Zkf]
          · have g:=Zee (e:=e1) (now:=now) h .no
            simp at g
            simp [z0,Zas,h,c1,c2,c3]
            rw [g]
            simp
    by_cases c1:e.state=.timeWait∧120000≤now-e.since
    · have:=key { e with state:=.closed }
      simp [Zbm,Zb6,ZaP,ZbR,h,Zab,c0,c1] at this ⊢
      exact this
    · have:=key e
      simp [Zbm,Zb6,ZaP,ZbR,h,Zab,c0,c1] at this ⊢
      exact this
def ZeJ (e:Zv) (now:Int):List Int:=match (Zab e now).1 with
  | none=>[]
  | some s=>ZaT s
theorem ZlL (h:l+3 < θ.length) (hp:∀s,(Zab e now).1=some s→s.Put):Zbj [.ref l,.int now] (upE θ l e)=.ok (il (ZeJ e now)) (upE θ l (Zab e now).2):=by
  unfold ZeJ
  cases c:(Zab e now).1 with
  | none=>simp [Zbj,ZdU,ZgK,h,c,ZbK]
  | some s=>simp [Zbj,ZdU,ZgK,h,c,Znn (hp s c)]
def newEnd (ours theirs first:Int) (active:Bool):Zv:=⟨ours,theirs,if active then .synSent else .listen,.none,first,first,first,0,0,0,0,12,[],[],[],none,false,Za1 first 1,none,false,false,false,0,1000,0⟩
def cells (l:Nat) (e:Zv):Sto:=[c0 l e,c1 e,c2 e,c3 e]
theorem ZhI (θ r:Sto) (C:Str) (fs:List (Str×D)):Zbx (θ++.ins C fs::r) (.ref θ.length)=some (θ.length,C,fs):=by
  show (match (θ++.ins C fs::r)[θ.length]? with | some (Cell.ins C fs)=>some (θ.length,C,fs) | _=>none)=_
  rw [List.getElem?_append_right (Nat.le_refl _),Nat.sub_self]
  rfl
theorem Zei {f:Str} {y:D}:∀{fs:List (Str×D)},(fs.map Prod.fst).contains f=false→Zao f y fs=fs++[(f,y)]
  | [],_=>rfl
  | (g,x)::r,h=>by
    rw [List.map_cons,List.contains_cons,Bool.or_eq_false_iff] at h
    have hn:¬g=f:=fun e=>by rw [e,beq_self_eq_true] at h; cases h.1
    unfold Zao
    rw [if_neg hn,Zei h.2]
    rfl
theorem ZE {C f:Str} {y:D} (θ r:Sto) {fs:List (Str×D)} (h0:[C].contains C=true) (h1:(fs.map Prod.fst).contains f=false) (h2:fs.length<1000):Z4 [C] f y (.ref θ.length) (θ++.ins C fs::r)=some (θ++.ins C (fs++[(f,y)])::r):=by
  unfold Z4
  rw [ZhI]
  simp only [h0]
  rw [if_pos ⟨trivial,h2⟩,Zei h1]
  congr 1
  rw [List.set_append,if_neg (Nat.lt_irrefl _),Nat.sub_self]
  rfl
theorem Zg4 (S:Sto):mkG "Pile" zW [] S=.ok (.ref S.length) (S++[.ins "Pile" [("row",il [])]]):=by
  have:=ZE (C:="Pile") (f:="row") (y:=il []) S [] (fs:=[]) (by decide +kernel) rfl (by decide)
  simp [mkG,zW,Zcg,ZbK,this]
theorem Zja (θ r:Sto) (y:D):Z4 ["End"] "ours" y (.ref θ.length) (θ++.ins "End" []::r)=some (θ++.ins "End" [("ours",y)]::r):=ZE θ r ce (by simp only [List.map_cons,List.map_nil]; decide +kernel) (by simp only [List.length_cons,List.length_nil]; decide)
theorem ZfU (θ r:Sto) (x0 y:D):Z4 ["End"] "theirs" y (.ref θ.length) (θ++.ins "End" [("ours",x0)]::r)=some (θ++.ins "End" [("ours",x0),("theirs",y)]::r):=ZE θ r ce (by simp only [List.map_cons,List.map_nil]; decide +kernel) (by simp only [List.length_cons,List.length_nil]; decide)
theorem ZgY (θ r:Sto) (x0 x1 y:D):Z4 ["End"] "state" y (.ref θ.length) (θ++.ins "End" [("ours",x0),("theirs",x1)]::r)=some (θ++.ins "End" [("ours",x0),("theirs",x1),("state",y)]::r):=ZE θ r ce (by simp only [List.map_cons,List.map_nil]; decide +kernel) (by simp only [List.length_cons,List.length_nil]; decide)
theorem Zg1 (θ r:Sto) (x0 x1 x2 y:D):Z4 ["End"] "error" y (.ref θ.length) (θ++.ins "End" [("ours",x0),("theirs",x1),("state",x2)]::r)=some (θ++.ins "End" [("ours",x0),("theirs",x1),("state",x2),("error",y)]::r):=ZE θ r ce (by simp only [List.map_cons,List.map_nil]; decide +kernel) (by simp only [List.length_cons,List.length_nil]; decide)
theorem Zg0 (θ r:Sto) (x0 x1 x2 x3 y:D):Z4 ["End"] "first" y (.ref θ.length) (θ++.ins "End" [("ours",x0),("theirs",x1),("state",x2),("error",x3)]::r)=some (θ++.ins "End" [("ours",x0),("theirs",x1),("state",x2),("error",x3),("first",y)]::r):=ZE θ r ce (by simp only [List.map_cons,List.map_nil]; decide +kernel) (by simp only [List.length_cons,List.length_nil]; decide)
theorem Zll (θ r:Sto) (x0 x1 x2 x3 x4 y:D):Z4 ["End"] "una" y (.ref θ.length) (θ++.ins "End" [("ours",x0),("theirs",x1),("state",x2),("error",x3),("first",x4)]::r)=some (θ++.ins "End" [("ours",x0),("theirs",x1),("state",x2),("error",x3),("first",x4),("una",y)]::r):=ZE θ r ce (by simp only [List.map_cons,List.map_nil]; decide +kernel) (by simp only [List.length_cons,List.length_nil]; decide)
theorem Zln (θ r:Sto) (x0 x1 x2 x3 x4 x5 y:D):Z4 ["End"] "nxt" y (.ref θ.length) (θ++.ins "End" [("ours",x0),("theirs",x1),("state",x2),("error",x3),("first",x4),("una",x5)]::r)=some (θ++.ins "End" [("ours",x0),("theirs",x1),("state",x2),("error",x3),("first",x4),("una",x5),("nxt",y)]::r):=ZE θ r ce (by simp only [List.map_cons,List.map_nil]; decide +kernel) (by simp only [List.length_cons,List.length_nil]; decide)
theorem Zlm (θ r:Sto) (x0 x1 x2 x3 x4 x5 x6 y:D):Z4 ["End"] "rcv" y (.ref θ.length) (θ++.ins "End" [("ours",x0),("theirs",x1),("state",x2),("error",x3),("first",x4),("una",x5),("nxt",x6)]::r)=some (θ++.ins "End" [("ours",x0),("theirs",x1),("state",x2),("error",x3),("first",x4),("una",x5),("nxt",x6),("rcv",y)]::r):=ZE θ r ce (by simp only [List.map_cons,List.map_nil]; decide +kernel) (by simp only [List.length_cons,List.length_nil]; decide)
theorem Zlk (θ r:Sto) (x0 x1 x2 x3 x4 x5 x6 x7 y:D):Z4 ["End"] "wnd" y (.ref θ.length) (θ++.ins "End" [("ours",x0),("theirs",x1),("state",x2),("error",x3),("first",x4),("una",x5),("nxt",x6),("rcv",x7)]::r)=some (θ++.ins "End" [("ours",x0),("theirs",x1),("state",x2),("error",x3),("first",x4),("una",x5),("nxt",x6),("rcv",x7),("wnd",y)]::r):=ZE θ r ce (by simp only [List.map_cons,List.map_nil]; decide +kernel) (by simp only [List.length_cons,List.length_nil]; decide)
theorem Zi9 (θ r:Sto) (x0 x1 x2 x3 x4 x5 x6 x7 x8 y:D):Z4 ["End"] "told" y (.ref θ.length) (θ++.ins "End" [("ours",x0),("theirs",x1),("state",x2),("error",x3),("first",x4),("una",x5),("nxt",x6),("rcv",x7),("wnd",x8)]::r)=some (θ++.ins "End" [("ours",x0),("theirs",x1),("state",x2),("error",x3),("first",x4),("una",x5),("nxt",x6),("rcv",x7),("wnd",x8),("told",y)]::r):=ZE θ r ce (by simp only [List.map_cons,List.map_nil]; decide +kernel) (by simp only [List.length_cons,List.length_nil]; decide)
theorem Zel (θ r:Sto) (x0 x1 x2 x3 x4 x5 x6 x7 x8 x9 y:D):Z4 ["End"] "told_by" y (.ref θ.length) (θ++.ins "End" [("ours",x0),("theirs",x1),("state",x2),("error",x3),("first",x4),("una",x5),("nxt",x6),("rcv",x7),("wnd",x8),("told",x9)]::r)=some (θ++.ins "End" [("ours",x0),("theirs",x1),("state",x2),("error",x3),("first",x4),("una",x5),("nxt",x6),("rcv",x7),("wnd",x8),("told",x9),("told_by",y)]::r):=ZE θ r ce (by simp only [List.map_cons,List.map_nil]; decide +kernel) (by simp only [List.length_cons,List.length_nil]; decide)
theorem Zjb (θ r:Sto) (x0 x1 x2 x3 x4 x5 x6 x7 x8 x9 x10 y:D):Z4 ["End"] "most" y (.ref θ.length) (θ++.ins "End" [("ours",x0),("theirs",x1),("state",x2),("error",x3),("first",x4),("una",x5),("nxt",x6),("rcv",x7),("wnd",x8),("told",x9),("told_by",x10)]::r)=some (θ++.ins "End" [("ours",x0),("theirs",x1),("state",x2),("error",x3),("first",x4),("una",x5),("nxt",x6),("rcv",x7),("wnd",x8),("told",x9),("told_by",x10),("most",y)]::r):=ZE θ r ce (by simp only [List.map_cons,List.map_nil]; decide +kernel) (by simp only [List.length_cons,List.length_nil]; decide)
theorem Zek (θ r:Sto) (x0 x1 x2 x3 x4 x5 x6 x7 x8 x9 x10 x11 y:D):Z4 ["End"] "written" y (.ref θ.length) (θ++.ins "End" [("ours",x0),("theirs",x1),("state",x2),("error",x3),("first",x4),("una",x5),("nxt",x6),("rcv",x7),("wnd",x8),("told",x9),("told_by",x10),("most",x11)]::r)=some (θ++.ins "End" [("ours",x0),("theirs",x1),("state",x2),("error",x3),("first",x4),("una",x5),("nxt",x6),("rcv",x7),("wnd",x8),("told",x9),("told_by",x10),("most",x11),("written",y)]::r):=ZE θ r ce (by simp only [List.map_cons,List.map_nil]; decide +kernel) (by simp only [List.length_cons,List.length_nil]; decide)
theorem Zjd (θ r:Sto) (x0 x1 x2 x3 x4 x5 x6 x7 x8 x9 x10 x11 x12 y:D):Z4 ["End"] "come" y (.ref θ.length) (θ++.ins "End" [("ours",x0),("theirs",x1),("state",x2),("error",x3),("first",x4),("una",x5),("nxt",x6),("rcv",x7),("wnd",x8),("told",x9),("told_by",x10),("most",x11),("written",x12)]::r)=some (θ++.ins "End" [("ours",x0),("theirs",x1),("state",x2),("error",x3),("first",x4),("una",x5),("nxt",x6),("rcv",x7),("wnd",x8),("told",x9),("told_by",x10),("most",x11),("written",x12),("come",y)]::r):=ZE θ r ce (by simp only [List.map_cons,List.map_nil]; decide +kernel) (by simp only [List.length_cons,List.length_nil]; decide)
theorem Zg2 (θ r:Sto) (x0 x1 x2 x3 x4 x5 x6 x7 x8 x9 x10 x11 x12 x13 y:D):Z4 ["End"] "early" y (.ref θ.length) (θ++.ins "End" [("ours",x0),("theirs",x1),("state",x2),("error",x3),("first",x4),("una",x5),("nxt",x6),("rcv",x7),("wnd",x8),("told",x9),("told_by",x10),("most",x11),("written",x12),("come",x13)]::r)=some (θ++.ins "End" [("ours",x0),("theirs",x1),("state",x2),("error",x3),("first",x4),("una",x5),("nxt",x6),("rcv",x7),("wnd",x8),("told",x9),("told_by",x10),("most",x11),("written",x12),("come",x13),("early",y)]::r):=ZE θ r ce (by simp only [List.map_cons,List.map_nil]; decide +kernel) (by simp only [List.length_cons,List.length_nil]; decide)
theorem Zc6 (θ r:Sto) (x0 x1 x2 x3 x4 x5 x6 x7 x8 x9 x10 x11 x12 x13 x14 y:D):Z4 ["End"] "early_fin" y (.ref θ.length) (θ++.ins "End" [("ours",x0),("theirs",x1),("state",x2),("error",x3),("first",x4),("una",x5),("nxt",x6),("rcv",x7),("wnd",x8),("told",x9),("told_by",x10),("most",x11),("written",x12),("come",x13),("early",x14)]::r)=some (θ++.ins "End" [("ours",x0),("theirs",x1),("state",x2),("error",x3),("first",x4),("una",x5),("nxt",x6),("rcv",x7),("wnd",x8),("told",x9),("told_by",x10),("most",x11),("written",x12),("come",x13),("early",x14),("early_fin",y)]::r):=ZE θ r ce (by simp only [List.map_cons,List.map_nil]; decide +kernel) (by simp only [List.length_cons,List.length_nil]; decide)
theorem Zcz (θ r:Sto) (x0 x1 x2 x3 x4 x5 x6 x7 x8 x9 x10 x11 x12 x13 x14 x15 y:D):Z4 ["End"] "has_closed" y (.ref θ.length) (θ++.ins "End" [("ours",x0),("theirs",x1),("state",x2),("error",x3),("first",x4),("una",x5),("nxt",x6),("rcv",x7),("wnd",x8),("told",x9),("told_by",x10),("most",x11),("written",x12),("come",x13),("early",x14),("early_fin",x15)]::r)=some (θ++.ins "End" [("ours",x0),("theirs",x1),("state",x2),("error",x3),("first",x4),("una",x5),("nxt",x6),("rcv",x7),("wnd",x8),("told",x9),("told_by",x10),("most",x11),("written",x12),("come",x13),("early",x14),("early_fin",x15),("has_closed",y)]::r):=ZE θ r ce (by simp only [List.map_cons,List.map_nil]; decide +kernel) (by simp only [List.length_cons,List.length_nil]; decide)
theorem ZfX (θ r:Sto) (x0 x1 x2 x3 x4 x5 x6 x7 x8 x9 x10 x11 x12 x13 x14 x15 x16 y:D):Z4 ["End"] "behind" y (.ref θ.length) (θ++.ins "End" [("ours",x0),("theirs",x1),("state",x2),("error",x3),("first",x4),("una",x5),("nxt",x6),("rcv",x7),("wnd",x8),("told",x9),("told_by",x10),("most",x11),("written",x12),("come",x13),("early",x14),("early_fin",x15),("has_closed",x16)]::r)=some (θ++.ins "End" [("ours",x0),("theirs",x1),("state",x2),("error",x3),("first",x4),("una",x5),("nxt",x6),("rcv",x7),("wnd",x8),("told",x9),("told_by",x10),("most",x11),("written",x12),("come",x13),("early",x14),("early_fin",x15),("has_closed",x16),("behind",y)]::r):=ZE θ r ce (by simp only [List.map_cons,List.map_nil]; decide +kernel) (by simp only [List.length_cons,List.length_nil]; decide)
theorem Zcy (θ r:Sto) (x0 x1 x2 x3 x4 x5 x6 x7 x8 x9 x10 x11 x12 x13 x14 x15 x16 x17 y:D):Z4 ["End"] "owed_reset" y (.ref θ.length) (θ++.ins "End" [("ours",x0),("theirs",x1),("state",x2),("error",x3),("first",x4),("una",x5),("nxt",x6),("rcv",x7),("wnd",x8),("told",x9),("told_by",x10),("most",x11),("written",x12),("come",x13),("early",x14),("early_fin",x15),("has_closed",x16),("behind",x17)]::r)=some (θ++.ins "End" [("ours",x0),("theirs",x1),("state",x2),("error",x3),("first",x4),("una",x5),("nxt",x6),("rcv",x7),("wnd",x8),("told",x9),("told_by",x10),("most",x11),("written",x12),("come",x13),("early",x14),("early_fin",x15),("has_closed",x16),("behind",x17),("owed_reset",y)]::r):=ZE θ r ce (by simp only [List.map_cons,List.map_nil]; decide +kernel) (by simp only [List.length_cons,List.length_nil]; decide)
theorem Zdz (θ r:Sto) (x0 x1 x2 x3 x4 x5 x6 x7 x8 x9 x10 x11 x12 x13 x14 x15 x16 x17 x18 y:D):Z4 ["End"] "owes_syn" y (.ref θ.length) (θ++.ins "End" [("ours",x0),("theirs",x1),("state",x2),("error",x3),("first",x4),("una",x5),("nxt",x6),("rcv",x7),("wnd",x8),("told",x9),("told_by",x10),("most",x11),("written",x12),("come",x13),("early",x14),("early_fin",x15),("has_closed",x16),("behind",x17),("owed_reset",x18)]::r)=some (θ++.ins "End" [("ours",x0),("theirs",x1),("state",x2),("error",x3),("first",x4),("una",x5),("nxt",x6),("rcv",x7),("wnd",x8),("told",x9),("told_by",x10),("most",x11),("written",x12),("come",x13),("early",x14),("early_fin",x15),("has_closed",x16),("behind",x17),("owed_reset",x18),("owes_syn",y)]::r):=ZE θ r ce (by simp only [List.map_cons,List.map_nil]; decide +kernel) (by simp only [List.length_cons,List.length_nil]; decide)
theorem Zcd (θ r:Sto) (x0 x1 x2 x3 x4 x5 x6 x7 x8 x9 x10 x11 x12 x13 x14 x15 x16 x17 x18 x19 y:D):Z4 ["End"] "owes_answer" y (.ref θ.length) (θ++.ins "End" [("ours",x0),("theirs",x1),("state",x2),("error",x3),("first",x4),("una",x5),("nxt",x6),("rcv",x7),("wnd",x8),("told",x9),("told_by",x10),("most",x11),("written",x12),("come",x13),("early",x14),("early_fin",x15),("has_closed",x16),("behind",x17),("owed_reset",x18),("owes_syn",x19)]::r)=some (θ++.ins "End" [("ours",x0),("theirs",x1),("state",x2),("error",x3),("first",x4),("una",x5),("nxt",x6),("rcv",x7),("wnd",x8),("told",x9),("told_by",x10),("most",x11),("written",x12),("come",x13),("early",x14),("early_fin",x15),("has_closed",x16),("behind",x17),("owed_reset",x18),("owes_syn",x19),("owes_answer",y)]::r):=ZE θ r ce (by simp only [List.map_cons,List.map_nil]; decide +kernel) (by simp only [List.length_cons,List.length_nil]; decide)
theorem ZfV (θ r:Sto) (x0 x1 x2 x3 x4 x5 x6 x7 x8 x9 x10 x11 x12 x13 x14 x15 x16 x17 x18 x19 x20 y:D):Z4 ["End"] "probes" y (.ref θ.length) (θ++.ins "End" [("ours",x0),("theirs",x1),("state",x2),("error",x3),("first",x4),("una",x5),("nxt",x6),("rcv",x7),("wnd",x8),("told",x9),("told_by",x10),("most",x11),("written",x12),("come",x13),("early",x14),("early_fin",x15),("has_closed",x16),("behind",x17),("owed_reset",x18),("owes_syn",x19),("owes_answer",x20)]::r)=some (θ++.ins "End" [("ours",x0),("theirs",x1),("state",x2),("error",x3),("first",x4),("una",x5),("nxt",x6),("rcv",x7),("wnd",x8),("told",x9),("told_by",x10),("most",x11),("written",x12),("come",x13),("early",x14),("early_fin",x15),("has_closed",x16),("behind",x17),("owed_reset",x18),("owes_syn",x19),("owes_answer",x20),("probes",y)]::r):=ZE θ r ce (by simp only [List.map_cons,List.map_nil]; decide +kernel) (by simp only [List.length_cons,List.length_nil]; decide)
theorem ZgZ (θ r:Sto) (x0 x1 x2 x3 x4 x5 x6 x7 x8 x9 x10 x11 x12 x13 x14 x15 x16 x17 x18 x19 x20 x21 y:D):Z4 ["End"] "since" y (.ref θ.length) (θ++.ins "End" [("ours",x0),("theirs",x1),("state",x2),("error",x3),("first",x4),("una",x5),("nxt",x6),("rcv",x7),("wnd",x8),("told",x9),("told_by",x10),("most",x11),("written",x12),("come",x13),("early",x14),("early_fin",x15),("has_closed",x16),("behind",x17),("owed_reset",x18),("owes_syn",x19),("owes_answer",x20),("probes",x21)]::r)=some (θ++.ins "End" [("ours",x0),("theirs",x1),("state",x2),("error",x3),("first",x4),("una",x5),("nxt",x6),("rcv",x7),("wnd",x8),("told",x9),("told_by",x10),("most",x11),("written",x12),("come",x13),("early",x14),("early_fin",x15),("has_closed",x16),("behind",x17),("owed_reset",x18),("owes_syn",x19),("owes_answer",x20),("probes",x21),("since",y)]::r):=ZE θ r ce (by simp only [List.map_cons,List.map_nil]; decide +kernel) (by simp only [List.length_cons,List.length_nil]; decide)
theorem Zi8 (θ r:Sto) (x0 x1 x2 x3 x4 x5 x6 x7 x8 x9 x10 x11 x12 x13 x14 x15 x16 x17 x18 x19 x20 x21 x22 y:D):Z4 ["End"] "wait" y (.ref θ.length) (θ++.ins "End" [("ours",x0),("theirs",x1),("state",x2),("error",x3),("first",x4),("una",x5),("nxt",x6),("rcv",x7),("wnd",x8),("told",x9),("told_by",x10),("most",x11),("written",x12),("come",x13),("early",x14),("early_fin",x15),("has_closed",x16),("behind",x17),("owed_reset",x18),("owes_syn",x19),("owes_answer",x20),("probes",x21),("since",x22)]::r)=some (θ++.ins "End" [("ours",x0),("theirs",x1),("state",x2),("error",x3),("first",x4),("una",x5),("nxt",x6),("rcv",x7),("wnd",x8),("told",x9),("told_by",x10),("most",x11),("written",x12),("come",x13),("early",x14),("early_fin",x15),("has_closed",x16),("behind",x17),("owed_reset",x18),("owes_syn",x19),("owes_answer",x20),("probes",x21),("since",x22),("wait",y)]::r):=ZE θ r ce (by simp only [List.map_cons,List.map_nil]; decide +kernel) (by simp only [List.length_cons,List.length_nil]; decide)
theorem ZgX (θ r:Sto) (x0 x1 x2 x3 x4 x5 x6 x7 x8 x9 x10 x11 x12 x13 x14 x15 x16 x17 x18 x19 x20 x21 x22 x23 y:D):Z4 ["End"] "tries" y (.ref θ.length) (θ++.ins "End" [("ours",x0),("theirs",x1),("state",x2),("error",x3),("first",x4),("una",x5),("nxt",x6),("rcv",x7),("wnd",x8),("told",x9),("told_by",x10),("most",x11),("written",x12),("come",x13),("early",x14),("early_fin",x15),("has_closed",x16),("behind",x17),("owed_reset",x18),("owes_syn",x19),("owes_answer",x20),("probes",x21),("since",x22),("wait",x23)]::r)=some (θ++.ins "End" [("ours",x0),("theirs",x1),("state",x2),("error",x3),("first",x4),("una",x5),("nxt",x6),("rcv",x7),("wnd",x8),("told",x9),("told_by",x10),("most",x11),("written",x12),("come",x13),("early",x14),("early_fin",x15),("has_closed",x16),("behind",x17),("owed_reset",x18),("owes_syn",x19),("owes_answer",x20),("probes",x21),("since",x22),("wait",x23),("tries",y)]::r):=ZE θ r ce (by simp only [List.map_cons,List.map_nil]; decide +kernel) (by simp only [List.length_cons,List.length_nil]; decide)
theorem ZlO {a b c:Int} {act:Bool} (θ:Sto):Zaf [.ref θ.length,.int a,.int b,.int c,.bl act] (θ++[.ins "End" []])=.ok .non (θ++cells θ.length (newEnd a b c act)):=by
  cases act with
  | true=>
    simp [Zaf,Zbt,Zg4,Zja,ZfU,ZgY,Zg1,Zg0,Zll,Zln,Zlm,Zlk,Zi9,Zel,Zjb,Zek,Zjd,Zg2,Zc6,Zcz,ZfX,Zcy,Zdz,Zcd,ZfV,ZgZ,Zi8,ZgX]
    rfl
  | false=>
    simp [Zaf,Zbt,Zg4,Zja,ZfU,ZgY,Zg1,Zg0,Zll,Zln,Zlm,Zlk,Zi9,Zel,Zjb,Zek,Zjd,Zg2,Zc6,Zcz,ZfX,Zcy,Zdz,Zcd,ZfV,ZgZ,Zi8,ZgX]
    rfl
theorem ZiD {a b c:Int} {act:Bool} (θ:Sto):ZbE [.int a,.int b,.int c,.bl act] θ=.ok (.ref θ.length) (θ++cells θ.length (newEnd a b c act)):=by
  simp [ZbE,ZdV,mkG,ZlO]
end
end
end My
namespace L2
open PySem PySem.Spec PyProof.Rows
open AutoSeq1 (wpAny_loadPart')
section
variable {prog:Program} {w:World} {A:Around} {E:Value→Shared→Prop} {s:Shared}
end
end L2
namespace L2
open PySem PySem.Spec PyProof.Rows
section
variable {X:Cx}
end
end L2
namespace L2.MM
open PySem PySem.Spec PyProof.Rows
section
variable {X:Cx}
end
end L2.MM
namespace L2
open PySem PySem.Spec PyProof.Rows
section
variable {X:Cx} {pins:List (Addr×Obj)} {σ:St} {H:Hp} {s:Shared} {a:Addr} {kvs:List (Key×V)} {k:Key} {z:V} {u r:Value} {A:Around} {E:Value→Shared→Prop}
end
end L2
namespace L2.MM
open PySem PySem.Spec PyProof.Rows
def Zn2:D→Option Key
  | .int n=>some (.inl n)
  | .str x=>some (.inr x)
  | _=>none
section
variable {B:Bx} {H:Hp}
theorem Zjt {d:D} {v:V} {k:Key} (r:RepV B H d v) (h:Zn2 d=some k):v=kV k:=by
  cases d with
  | int n=>cases h; exact r
  | str x=>cases h; exact r
  | _=>cases h
end
section
variable {X:Cx}
theorem ZiA {k:Nat} {A:Around} (hr:Room k A):A.units+1<cLine:=by have:=hr.un; omega
end
end L2.MM
namespace My
open PySem L2 L2.MM
noncomputable section
end
end My
namespace My
open PySem L2 L2.MM
noncomputable section
def Zok (s:Seg) (f:Int):Bool:=decide (bit s.flags f=1)
def Zp0 (s:Seg):Int:=s.data.length+bit s.flags 2+bit s.flags 1
section
variable {θ:Sto} {l:Nat} {e:Zv} {s:Seg} {now f:Int}
end
end
end My
namespace My
open PySem L2 L2.MM
noncomputable section
section
variable {θ:Sto} {ρ:List Sl} {fi fo fe ff:EM} {fa:AM} {i j k:Nat} {b:SM} {x:D} {r:List D}
theorem nr' {p:Prop} (h:p):p:=h
end
abbrev EL:=List (Int×Int)
def atE (m:EL) (n:Int):Option Int:=(m.find? fun p=>decide (p.1=n)).map (·.2)
def Zlw (m:EL) (n:Int):EL:=m.filter fun p=>decide (p.1≠n)
abbrev ed (p:Int×Int):Key×D:=(Sum.inl p.1,D.int p.2)
section
variable {θ:Sto} {l:Nat} {e:Zv} {s:Seg} {now:Int}
end
def drawn:Nat→Zv→List Int×Zv
  | 0,e=>([],e)
  | n+1,e=>if e.early_fin=some e.rcv then ([],e) else match atE e.early e.rcv with
    | none=>([],e)
    | some b=>(b::(drawn n { e with early:=Zlw e.early e.rcv,rcv:=Za1 e.rcv 1 }).1,(drawn n { e with early:=Zlw e.early e.rcv,rcv:=Za1 e.rcv 1 }).2)
section
variable {θ:Sto} {l:Nat} {e:Zv} {s:Seg} {now n a b:Int}
end
end
end My
namespace My
open PySem L2 L2.MM
noncomputable section
section
variable {θ:Sto} {l:Nat} {e:Zv} {s:Seg} {now n b:Int}
end
end
end My
namespace My
open PySem L2 L2.MM
noncomputable section
theorem ZgR {n k:Int} (h:0<k∧k<4294967296):¬Za1 n k=n:=by
  unfold Za1; omega
end
end My
namespace My
open PySem L2 L2.MM
noncomputable section
@[simp] theorem Zoj {a b c d f w m k:Int} {x:List Int}:Zok ⟨a,b,c,d,f,w,m,x⟩ k=decide (bit f k=1):=rfl
@[simp] theorem Zoy {a b c d f w m:Int} {x:List Int}:Zp0 ⟨a,b,c,d,f,w,m,x⟩=x.length+bit f 2+bit f 1:=rfl
def Zeh:Option Seg→List Int
  | none=>[]
  | some s=>ZaT s
@[simp] theorem Zl1:Zeh none=[]:=rfl
@[simp] theorem Zl0 (s:Seg):Zeh (some s)=ZaT s:=rfl
theorem Zkj {base:Sto} {l:Nat} {e:Zv} {t:Int} {r:Option Seg} {e':Zv} (hl:l+3<base.length) (g:Zab e t=(r,e')) (hp:∀s,r=some s→s.Put):Zbj [.ref l,.int t] (upE base l e)=.ok (il (Zeh r)) (upE base l e'):=by
  rw [ZlL hl (by rw [g]; exact hp),g]
  unfold ZeJ
  rw [g]
  cases r<;>rfl
theorem Zl7 (s:Seg):ZaT s≠[]:=fun z=>by
  have:=Zkp (s:=s)
  rw [z] at this
  simp at this
  split at this<;>omega
section
variable {a b f g W m t t' x:Int} {ex:List Int} {fl:Int}
end
section
variable {θ:Sto} {l:Nat} {e:Zv} {s:Seg} {now n:Int}
theorem ZjT (θ:Sto) (e e':Zv):upE (θ++cells θ.length e) θ.length e'=θ++cells θ.length e':=by
  have h0:∀(i:Nat) (c:Cell) (r:Sto),(θ++r).set (θ.length+i) c=θ++r.set i c:=by
    intro i c r
    rw [List.set_append_right _ _ (by omega)]
    congr 2
    omega
  have h1:∀(c:Cell) (r:Sto),(θ++r).set θ.length c=θ++r.set 0 c:=fun c r=>h0 0 c r
  unfold upE cells
  rw [h1,h0,h0,h0]
  rfl
theorem ZnS {a b n k f w m:Int} {x:List Int} (ha:0≤a∧a≤65535) (hb:0≤b∧b≤65535) (hn:0≤n∧n≤4294967295) (hk:0≤k∧k≤4294967295) (hf:0≤f∧f≤31) (hw:0≤w∧w≤65535) (hm:m=0∨(4≤m∧m≤65535∧f/2 % 2=1)) (hx:(∀z∈x,0≤z∧z≤255)∧x.length≤16):(Seg.mk a b n k f w m x).Ok:=⟨ha,hb,hn,hk,hf,hw,hm,hx⟩
theorem ZkI:(∀z∈([]:List Int),0≤z∧z≤255)∧([]:List Int).length≤16:=⟨by simp,by simp⟩
end
end
end My
namespace My
open PySem L2 L2.MM
noncomputable section
end
end My
namespace My
open PySem L2 L2.MM
noncomputable section
inductive Zj0 (t:Int):Zv→List Seg→Zv→Prop
  | nil {e e':Zv} (h:Zab e t=(none,e')):Zj0 t e [] e'
  | cons {e e1 e':Zv} {s:Seg} {r:List Seg} (h:Zab e t=(some s,e1)) (hs:s.Ok) (hr:Zj0 t e1 r e'):Zj0 t e (s::r) e'
section
variable {θ:Sto} {l:Nat} {t:Int}
end
end
end My
namespace My
open PySem L2 L2.MM
noncomputable section
end
end My
namespace My
open PySem L2 L2.MM
noncomputable section
structure Q where
  st:State
  una:Int
  nxt:Int
  beh:Int
  rcv:Int
  told:Int
  by_:Int
  wnd:Int
  most:Int
  written:List Int
  come:List Int
  fin:Option Int
  cl:Bool
  oa:Bool
  pr:Bool
  since:Int
  wait:Int
  tries:Int
def q0 (W m:Int) (t:Int):Q:=⟨.opn,1,1,1,1,1,1,W,if m=0 then 12 else m,[],[],none,false,false,false,t,1000,0⟩
end
end My
namespace My
open PySem L2 L2.MM
noncomputable section
section
variable {e:Zv} {t:Int}
structure ZqV (e:Zv) (t:Int):Prop where
  rst:e.owed_reset=none
  st:e.state∉[State.closed,.listen,.synSent,.synCome]
  tw:e.state=.timeWait→t-e.since<120000
  due:¬e.nxt=e.una→t-e.since<e.wait
end
section
variable {e:Zv} {s:Seg} {t:Int}
end
end
end My
namespace My
open PySem L2 L2.MM
noncomputable section
section
variable {a b f g W m t:Int}
structure ZqN (q:Q) (t:Int):Prop where
  st:q.st∉[State.closed,.listen,.synSent,.synCome]
  tw:q.st=.timeWait→t-q.since<120000
  due:¬q.nxt=q.una→t-q.since<q.wait
  pr:q.pr=false
  un:q.beh≤q.nxt∧q.nxt-q.beh<1000∧0≤q.una∧q.una≤q.nxt∧q.nxt<1000
  fin:q.beh=q.nxt→q.st∉[State.waitOne,.closing,.lastAck]
end
end
end My
namespace My
open PySem L2 L2.MM
noncomputable section
end
end My
namespace L2.MM
open PySem PySem.Spec PyProof.Rows
def kvS (kvs:List (Str×Str)):List (Key×V):=kvs.map fun p=>(.inr p.1,.str p.2)
def trS (kvs:List (Str×Str)):List (TE×TE):=kvs.map fun p=>(tC (.str p.1),tC (.str p.2))
section
variable {X:Cx}
end
section
variable {ρ:List Sl} {θ:Sto}
end
end L2.MM
namespace L2.MM
open PySem L2
structure BE (X:Cx) (e:Expr) (f:EM):Prop where
  h:ME X e f
structure BA (X:Cx) (es:List Expr) (f:AM):Prop where
  h:MA X es f
structure BS (X:Cx) (st:Stmt) (f:SM):Prop where
  h:MS X st f
section
variable {X:Cx} {e:Expr} {es:List Expr} {f:EM} {fs:AM} {pos:Pos}
end
end L2.MM
namespace L2.MM
open PySem PySem.Spec PyProof.Rows
structure BP (X:Cx) (pos:Pos) (keys:List (Option Expr)) (values:List Expr) (kvs:List (Str×Str)):Prop where
  h:PPs X pos keys values (trS kvs)
  m:Zmv [] (kvS kvs)=kvS kvs
  a:keys.all (·.isSome)=true
  l:keys.length=values.length
  n:kvs.length=keys.length
section
variable {X:Cx} {pos apos cpos pos' p1 p2:Pos} {k0:Option Expr} {keys:List (Option Expr)} {values:List Expr} {kvs:List (Str×Str)} {x y:Str} {fi ff:EM} {k:Nat}
variable {e:Expr} {es:List Expr} {f:EM} {fs:AM}
end
end L2.MM
namespace My
open PySem L2 L2.MM
noncomputable section
def room (q:Q):Int:=q.wnd-(q.nxt-q.una)
def Zlz (q:Q):Prop:=q.st∈[State.opn,.waitOne,.closeWait,.closing,.lastAck]∧q.nxt<q.beh
def Zly (q:Q):Prop:=q.st∈[State.waitOne,.closing,.lastAck]∧q.nxt=q.beh
instance (q:Q):Decidable (Zlz q):=by unfold Zlz; infer_instance
instance (q:Q):Decidable (Zly q):=by unfold Zly; infer_instance
structure WF (q:Q):Prop where
  una:0≤q.una∧q.una≤q.nxt
  nxt:q.nxt≤q.beh+1∧q.beh<1000000
  wr:q.una≤q.beh→(q.written.length:Int)=q.beh-q.una
  wnd:0≤q.wnd∧q.wnd≤65535
  most:4≤q.most
  come:q.come.length≤64
  byt:∀z∈q.written,0≤z∧z≤255
structure ZqO (q:Q) (t:Int):Prop where
  st:q.st∉[State.closed,.listen,.synSent,.synCome]
  tw:q.st=.timeWait→t-q.since<120000
  due:¬q.nxt=q.una→t-q.since<q.wait
section
variable {a b f g t:Int} {q:Q}
end
section
variable {a b f g t:Int}
end
end
end My
namespace My
open PySem L2 L2.MM
noncomputable section
structure ZqU (q q':Q):Prop where
  st:q'.st=q.st
  una:q'.una=q.una
  beh:q'.beh=q.beh
  rcv:q'.rcv=q.rcv
  told:q'.told=q.told
  by_:q'.by_=q.by_
  wnd:q'.wnd=q.wnd
  most:q'.most=q.most
  written:q'.written=q.written
  come:q'.come=q.come
  fin:q'.fin=q.fin
  cl:q'.cl=q.cl
section
variable {a b f g t:Int}
end
section
variable {a b f g t:Int}
end
end
end My
namespace My
open PySem L2 L2.MM
noncomputable section
section
variable {a b f g t:Int}
end
end
end My
namespace My
open PySem L2 L2.MM
noncomputable section
section
variable {a b f g t:Int} {q:Q}
structure Due (q:Q) (t:Int):Prop where
  st:q.st∉[State.closed,.listen,.synSent,.synCome,.timeWait]
  nx:¬q.nxt=q.una
  due:q.wait≤t-q.since
end
end
end My
namespace My
open PySem L2 L2.MM
noncomputable section
section
variable {a b f g t:Int} {q:Q}
end
end
end My
namespace My
open PySem L2 L2.MM
noncomputable section
section
variable {a b f g t:Int} {q:Q}
end
end
end My
namespace My
open PySem L2 L2.MM
noncomputable section
structure Ear (g R hi:Int) (l:EL) (F:Int→Option Int):Prop where
  at_:∀x,R≤x→x<hi→atE l (Za1 g x)=F x
  keys:∀k∈l.map (·.1),∃x,R≤x∧x<hi∧k=Za1 g x
  nd:(l.map (·.1)).Nodup
  out:∀x,¬(R≤x∧x<hi)→F x=none
end
end My
namespace My
open PySem L2 L2.MM
noncomputable section
theorem for_rng {fi:IM} {body:SM} {k:Nat} {ρ:List Sl} {θ:Sto} {lo:Int} {n:Nat} (Inv:Nat→List Sl→Sto→Prop) (hn:fi ρ θ=.ok (.rng lo n) θ) (hi:Inv 0 ρ θ)
    (step:∀(i:Nat) ρ θ,i<n→Inv i ρ θ→∃ρ' θ',body (ρ.set k (.val (.int (lo+(i:Int))))) θ=.ok (.nx,ρ') θ'∧Inv (i+1) ρ' θ') (hk:∀i ρ θ,Inv i ρ θ→k < ρ.length) :
    ∃ρ' θ',ZaU fi (gNm k) body ρ θ=.ok (.nx,ρ') θ'∧Inv n ρ' θ':=by
  obtain ⟨all,hall⟩:∃x,x=(List.range n).map fun (i:Nat)=>D.int (lo+(i:Int)):=⟨_,rfl⟩
  have hm:ZaU fi (gNm k) body ρ θ=Za8 (.rng lo n) all (gNm k) body all ρ θ:=by
    unfold ZaU
    rw [hn,R.bind_ok]
    simp only [Zax,←hall]
  rw [hm]
  have key:∀(m:Nat) ρ θ,m≤n→Inv (n-m) ρ θ→∃ρ' θ',Za8 (.rng lo n) all (gNm k) body (all.drop (n-m)) ρ θ=.ok (.nx,ρ') θ'∧Inv n ρ' θ':=by
    intro m
    induction m with
    | zero=>
      intro ρ θ _ hI
      refine ⟨ρ,θ,?_,by simpa using hI⟩
      rw [Nat.sub_zero,List.drop_eq_nil_of_le (by rw [hall]; simp)]
      simp [Za8,hall]
    | succ m ih=>
      intro ρ θ hm hI
      have hlt:n-(m+1)<n:=by omega
      have hla:n-(m+1)<all.length:=by rw [hall]; simpa using hlt
      have e:n-(m+1)+1=n-m:=by omega
      have hx:all[n-(m+1)]=D.int (lo+((n-(m+1):Nat):Int)):=by simp [hall]
      have hg:gNm k (D.int (lo+((n-(m+1):Nat):Int))) ρ=some (ρ.set k (.val (.int (lo+((n-(m+1):Nat):Int))))):=by
        have:=hk _ _ _ hI
        simp [gNm,this]
      have hit:(Src.rng lo n).items θ=some all:=by rw [Zax,hall]
      rw [List.drop_eq_getElem_cons hla,hx,e]
      simp only [Za8,hit,if_true,hg]
      obtain ⟨ρ',θ',h,hI'⟩:=step _ ρ θ hlt hI
      rw [h,R.bind_ok,ZaX]
      exact ih ρ' θ' (by omega) (by rw [←e]; exact hI')
  have:=key n ρ θ (Nat.le_refl _) (by rw [Nat.sub_self]; exact hi)
  rw [Nat.sub_self,List.drop_zero] at this
  exact this
section
variable {B:Sto} {l:Nat} {e:Zv} {m m':List (Key×D)}
theorem ZlI (h:l+3<B.length) (X:Sto):upE B l e++X=upE (B++X) l e:=by
  unfold upE
  rw [List.set_append_left _ _ (by omega),List.set_append_left _ _ (by simp; omega),List.set_append_left _ _ (by simp; omega),List.set_append_left _ _ (by simp; omega)]
end
end
end My
namespace L2.MM
open PySem PySem.Spec PyProof.Rows
def Zgy (θ:Sto):D→Option (Nat×List D)
  | .ref l=>match θ[l]? with
    | some (.lst xs)=>some (l,xs)
    | _=>none
  | _=>none
def Ze0 (θ:Sto):D→Option (Nat×List (List Key×D))
  | .ref l=>match θ[l]? with
    | some (.dT kvs)=>some (l,kvs)
    | _=>none
  | _=>none
def Zhc:List D→Option (List Key)
  | []=>some []
  | d::ds=>match Zn2 d,Zhc ds with
    | some k,some ks=>some (k::ks)
    | _,_=>none
def ktD:D→Option (List Key)
  | .tup xs=>Zhc xs
  | _=>none
def valT (kvs:List (List Key×D)) (k:List Key):Option D:=(kvs.find? fun kv=>decide (kv.1=k)).map (·.2)
def putT (kvs:List (List Key×D)) (k:List Key) (v:D):List (List Key×D):=
  if (kvs.any fun kv=>decide (kv.1=k))=true then kvs.map (fun kv=>if kv.1=k then (kv.1,v) else kv) else kvs++[(k,v)]
section
variable {B:Bx} {H:Hp}
theorem Zg9 {cl:Mo} {θ:Sto} (G:Good cl B θ H) {d:D} {v:V} {l:Nat} {xs:List D} (r:RepV B H d v) (h:Zgy θ d=some (l,xs)):l<B.n∧v=.ref (B.m l)∧∃vs,H (B.m l)=some (.lst vs)∧RepL B H xs vs:=by
  cases d with
  | ref k=>
    simp only [Zgy] at h
    split at h
    · rename_i xs' e
      cases h
      obtain ⟨hl,rfl⟩:=r
      obtain ⟨vs,h1,h2⟩:=G.cel _ _ e
      exact ⟨hl,rfl,vs,h1,h2⟩
    · cases h
  | _=>cases h
theorem ZeZ {cl:Mo} {θ:Sto} (G:Good cl B θ H) {d:D} {v:V} {l:Nat} {kvs:List (List Key×D)} (r:RepV B H d v) (h:Ze0 θ d=some (l,kvs)):l<B.n∧v=.ref (B.m l)∧∃vs,H (B.m l)=some (.dT vs)∧RepKV B H kvs vs:=by
  cases d with
  | ref k=>
    simp only [Ze0] at h
    split at h
    · rename_i xs' e
      cases h
      obtain ⟨hl,rfl⟩:=r
      obtain ⟨vs,h1,h2⟩:=G.cel _ _ e
      exact ⟨hl,rfl,vs,h1,h2⟩
    · cases h
  | _=>cases h
theorem Zep:∀{ds:List D} {vs:List V} {ks:List Key},RepL B H ds vs→Zhc ds=some ks→vs=ks.map kV
  | [],vs,ks,r,h=>by cases h; exact r
  | d::ds,vs,ks,r,h=>by
    obtain ⟨v,vs',rfl,r1,r2⟩:=r
    simp only [Zhc] at h
    split at h
    · rename_i k ks' e1 e2
      cases h
      rw [Zjt r1 e1,Zep r2 e2]
      rfl
    · cases h
theorem Zhb {d:D} {v:V} {ks:List Key} (r:RepV B H d v) (h:ktD d=some ks):∃b,v=.ref b∧H b=some (.tup (ks.map kV)):=by
  cases d with
  | tup xs=>
    obtain ⟨a,vs,rfl,h1,_,h2⟩:=r
    exact ⟨a,rfl,by rw [h1,Zep h2 h]⟩
  | _=>cases h
theorem RepKV.valT (k:List Key):∀{ks:List (List Key×D)} {vs:List (List Key×V)},RepKV B H ks vs→(L2.MM.valT ks k=Option.none∧Zch vs k=Option.none)∨∃d v,L2.MM.valT ks k=some d∧Zch vs k=some v∧RepV B H d v
  | _,_,.nil=>.inl ⟨rfl,rfl⟩
  | (k1,d1)::ks,(k2,v2)::vs,.cons ⟨h1,h2⟩ t=>by
    cases (show k1=k2 from h1)
    by_cases e:k1=k
    · refine .inr ⟨d1,v2,?_,?_,h2⟩<;>simp [L2.MM.valT,Zch,List.find?_cons,e]
    · have:=RepKV.valT k t
      simpa [L2.MM.valT,Zch,List.find?_cons,e] using this
theorem RepKV.anyT (k:List Key):∀{ks:List (List Key×D)} {vs:List (List Key×V)},RepKV B H ks vs→(ks.any fun kv=>decide (kv.1=k))=(vs.any fun kv=>decide (kv.1=k))
  | _,_,.nil=>rfl
  | (k1,d1)::ks,(k2,v2)::vs,.cons ⟨h1,h2⟩ t=>by
    cases (show k1=k2 from h1)
    rw [List.any_cons,List.any_cons,RepKV.anyT k t]
theorem RepKV.snocT {k:List Key} {d:D} {v:V} (r:RepV B H d v):∀{ks:List (List Key×D)} {vs:List (List Key×V)},RepKV B H ks vs→RepKV B H (ks++[(k,d)]) (vs++[(k,v)])
  | _,_,.nil=>.cons ⟨rfl,r⟩ .nil
  | _,_,.cons h t=>.cons h (RepKV.snocT r t)
theorem RepKV.overT {k:List Key} {d:D} {v:V} (r:RepV B H d v):∀{ks:List (List Key×D)} {vs:List (List Key×V)},RepKV B H ks vs→RepKV B H (ks.map fun kv=>if kv.1=k then (kv.1,d) else kv) (vs.map fun kv=>if kv.1=k then (kv.1,v) else kv)
  | _,_,.nil=>.nil
  | (k1,d1)::ks,(k2,v2)::vs,.cons ⟨h1,h2⟩ t=>by
    cases (show k1=k2 from h1)
    rw [List.map_cons,List.map_cons]
    refine .cons ?_ (RepKV.overT r t)
    by_cases e:k1=k
    · rw [if_pos (show (k1,d1).1=k from e),if_pos (show (k1,v2).1=k from e)]; exact ⟨rfl,r⟩
    · rw [if_neg (show ¬(k1,d1).1=k from e),if_neg (show ¬(k1,v2).1=k from e)]; exact ⟨rfl,h2⟩
theorem RepKV.putT {k:List Key} {d:D} {v:V} (r:RepV B H d v) {ks:List (List Key×D)} {vs:List (List Key×V)} (h:RepKV B H ks vs):RepKV B H (L2.MM.putT ks k d) (Zcb vs k v):=by
  unfold L2.MM.putT Zcb
  rw [h.anyT k]
  split
  · exact h.overT r
  · exact h.snocT r
end
section
variable {X:Cx}
def Zjq (fo fe:EM):EM:=fun ρ θ=>(fo ρ θ).bind fun d θ=>match Zgy θ d with
  | none=>.bad
  | some _=>(fe ρ θ).bind fun y θ=>match Zgy θ d with
    | some (l,xs)=>if xs.length<BIG then .ok .non (θ.set l (.lst (xs++[y]))) else .bad
    | none=>.bad
theorem ZkN {o e:Expr} {fo fe:EM} {apos pos:Pos} (hpe:PE X (.Call (.Attribute o "append" apos) [e] [] pos) (tBM X.K "list" ZeM (tM X fo) (ZiL (tM X fe) Zkh))):ME X (.Call (.Attribute o "append" apos) [e] [] pos) (Zjq fo fe):=by
  refine PE.imp hpe fun σ H Q h=>?_
  obtain ⟨B,θ,ρ,F,w⟩:=h
  refine ZP (step F w) ?_
  rintro v H1 ⟨B1,θ1,d,E1,F1,rd,w1⟩
  split at w1
  · exact w1.elim
  · rename_i q ed
    obtain ⟨l,xs⟩:=q
    obtain ⟨hl,rfl,vs,h1,h2⟩:=Zg9 F1.good rd ed
    refine ⟨.inl ⟨rfl,vs,SqL.of h1⟩,?_⟩
    refine ZP (step F1 w1) ?_
    rintro y H2 ⟨B2,θ2,dy,E2,F2,ry,w2⟩
    split at w2
    · rename_i l2 xs2 ed2
      obtain ⟨hl2,e2,vs2,h3,h4⟩:=Zg9 F2.good (rd.ext E2.toExtS) ed2
      have e3:B1.m l=B2.m l2:=by injection e2
      split at w2
      · rename_i hb
        refine ⟨B1.m l,vs2,y,rfl,rfl,by rw [e3]; exact h3,by rw [h4.len]; exact Nat.lt_of_lt_of_le hb (zg (Nat.le_refl _)),?_⟩
        rw [e3]
        have E4:=Zdl F2.good hl2 (.lst (vs2++[y]))
        have G4:=ZdN F2.good hl2 (o:=.lst (vs2++[y])) (c:=.lst (xs2++[dy])) ⟨_,Z3,(h4.app (show RepL B2 H2 [dy] [y] from ⟨y,[],rfl,ry,rfl⟩)).ext E4.toExtS⟩
        exact w2 _ _ _ E4 G4 (show RepV _ _ .non .non from rfl)
      · exact w2.elim
    · exact w2.elim
def Zgw (fo fe:EM):EM:=fun ρ θ=>(fo ρ θ).bind fun d θ=>match Ze0 θ d with
  | none=>.bad
  | some _=>(fe ρ θ).bind fun y θ=>match ktD y,Ze0 θ d with
    | some k,some (_,kvs)=>.ok ((valT kvs k).getD .non) θ
    | _,_=>.bad
theorem Zjm {o e:Expr} {fo fe:EM} {apos cpos:Pos} {k:Nat} (hr:Room k X.A) (ho:ME X o fo) (he:ME X e fe) (m:M1 X o "get" apos e cpos):ME X (.Call (.Attribute o "get" apos) [e] [] cpos) (Zgw fo fe):=by
  refine PE.imp (Zi4 (ZiA hr) ho he m) fun σ H Q h=>?_
  obtain ⟨B,θ,ρ,F,w⟩:=h
  refine ZP (step F w) ?_
  rintro v H1 ⟨B1,θ1,d,E1,F1,rd,w1⟩
  split at w1
  · exact w1.elim
  · rename_i q ed
    obtain ⟨l,kvs⟩:=q
    obtain ⟨hl,rfl,vs,h1,h2⟩:=ZeZ F1.good rd ed
    refine ⟨_,rfl,.inr ⟨vs,.inl h1⟩,?_⟩
    refine ZP (step F1 w1) ?_
    rintro y H2 ⟨B2,θ2,dy,E2,F2,ry,w2⟩
    split at w2
    · rename_i k l2 kvs2 ek ed2
      obtain ⟨hl2,e2,vs2,h3,h4⟩:=ZeZ F2.good (rd.ext E2.toExtS) ed2
      obtain ⟨b,rfl,hb⟩:=Zhb ry ek
      have e3:B1.m l=B2.m l2:=by injection e2
      rw [e3]
      refine ⟨_,DGet.t h3 hb,?_⟩
      rcases h4.valT k with ⟨q1,q2⟩ | ⟨dv,v,q1,q2,rv⟩
      · rw [q1] at w2; rw [q2]
        exact ZB (Rel:=RepV) F2.good (show RepV B2 H2 .non .non from rfl) w2
      · rw [q1] at w2; rw [q2]
        exact ZB (Rel:=RepV) F2.good rv w2
    · exact w2.elim
def Zgv (fo fi fv:EM):SM:=fun ρ θ=>(fv ρ θ).bind fun v θ=>(fo ρ θ).bind fun d θ=>(fi ρ θ).bind fun y θ=>match ktD y,Ze0 θ d with
  | some k,some (l,kvs)=>if kvs.length<BIG then .ok (.nx,ρ) (θ.set l (.dT (putT kvs k v))) else .bad
  | _,_=>.bad
theorem Zjk {o i value:Expr} {fo fi fv:EM} {pos pos':Pos} {k:Nat} (hr:Room k X.A) (ho:ME X o fo) (hi:ME X i fi) (hv:ME X value fv) (hs:swapsWith value (some (.Subscript o i pos')) pos.line X.env=pure false:=by rfl):MS X (.Assign [.Subscript o i pos'] value pos) (Zgv fo fi fv):=
  PS.imp (Zkt (ZiA hr) ho hi hv hs) fun D σ H h=>by
  obtain ⟨B,θ,ρ,F,w⟩:=h
  refine ZP (Zcv F w) ?_
  rintro v H1 ⟨B1,θ1,dv,E1,F1,rv,w1⟩
  refine ZP (Zcv F1 w1) ?_
  rintro x H2 ⟨B2,θ2,d,E2,F2,rd,w2⟩
  refine ZP (Zcv F2 w2) ?_
  rintro y H3 ⟨B3,θ3,dy,E3,F3,ry,w3⟩
  split at w3
  · rename_i k l kvs ek ed
    split at w3
    · rename_i hb
      obtain ⟨hl,rfl,vs,h1,h2⟩:=ZeZ F3.good (rd.ext E3.toExtS) ed
      obtain ⟨b,rfl,hk⟩:=Zhb ry ek
      have hz:vs.length<sizeLine:=by
        have:=zg (n:=kvs.length+1) hb
        rw [RepKV.len h2]; omega
      refine ⟨_,_,rfl,DPut.t h1 hk hz,?_⟩
      have E4:=Zdl F3.good hl (.dT (Zcb vs k v))
      have G4:=ZdN F3.good hl (o:=.dT (Zcb vs k v)) (c:=.dT (putT kvs k dv)) ⟨_,Z3,(h2.putT ((rv.ext E2.toExtS).ext E3.toExtS)).ext E4.toExtS⟩
      exact w3 _ _ _ E4.toExtS (F3.ext E4 G4)
    · exact w3.elim
  · exact w3.elim
end
end L2.MM
namespace My
open PySem L2 L2.MM
noncomputable section
def hfs (cf turn:Int) (r:Option Seg):List (Str×D):=[("coming_first",.int cf),("ends",.ref 1),("latest",.ref 2),("untaken",.ref 3),("owed_reset",zA r),("turn",.int turn)]
def zK (cf turn:Int) (r:Option Seg) (rs:List D) (kv:List (List Key×D)) (un:List (Key×D)) (X:Sto):Sto:=.ins "Host" (hfs cf turn r)::.lst rs::.dT kv::.dK un::X
def ZY:Nat→List Zv→Sto
  | _,[]=>[]
  | l,e::r=>cells l e++ZY (l+4) r
theorem Zcp:∀(es:List Zv) (l:Nat),(ZY l es).length=4*es.length
  | [],_=>rfl
  | e::r,l=>by rw [ZY,List.length_append,Zcp r,List.length_cons]; show 4+_=_; omega
theorem Zbq:∀(xs ys:List Zv) (l:Nat),ZY l (xs++ys)=ZY l xs++ZY (l+4*xs.length) ys
  | [],ys,l=>by simp [ZY]
  | x::xs,ys,l=>by
    rw [List.cons_append,ZY,ZY,Zbq xs ys (l+4),List.append_assoc]
    congr 3
    simp; omega
theorem ZhM {es:List Zv} {j:Nat} (hj:j<es.length) (P:Sto) (l:Nat) (hP:P.length=l) (e':Zv):upE (P++ZY l es) (l+4*j) e'=P++ZY l (es.set j e'):=by
  have sp:es=es.take j++es[j]::es.drop (j+1):=by simp
  have sp':es.set j e'=es.take j++e'::es.drop (j+1):=by
    rw [List.set_eq_take_append_cons_drop,if_pos hj]
  have tl:(es.take j).length=j:=by rw [List.length_take]; omega
  have a1:P++ZY l es=((P++ZY l (es.take j))++cells (l+4*j) es[j])++ZY (l+4*j+4) (es.drop (j+1)):=by
    conv=>lhs; rw [sp]
    rw [Zbq,tl,ZY]
    simp only [List.append_assoc]
  have a2:P++ZY l (es.set j e')=((P++ZY l (es.take j))++cells (l+4*j) e')++ZY (l+4*j+4) (es.drop (j+1)):=by
    rw [sp',Zbq,tl,ZY]
    simp only [List.append_assoc]
  have pl:(P++ZY l (es.take j)).length=l+4*j:=by rw [List.length_append,hP,Zcp,tl]
  rw [a1,a2,←ZlI (by rw [List.length_append,pl]; show _+3<_+4; omega)]
  congr 1
  have:=ZjT (P++ZY l (es.take j)) es[j] e'
  rw [pl] at this
  exact this
def Zcx (n:Nat):List D:=(List.range n).map fun j=>.ref (4+4*j)
def ZeX (cf turn:Int) (r:Option Seg) (kv:List (List Key×D)) (un:List (Key×D)) (es:List Zv):Sto:=zK cf turn r (Zcx es.length) kv un (ZY 4 es)
section
variable {cf turn:Int} {r:Option Seg} {rs:List D} {kv:List (List Key×D)} {un:List (Key×D)} {X:Sto} {es:List Zv}
theorem Zhf {j:Nat} (hj:j<es.length) (e':Zv):upE (ZeX cf turn r kv un es) (4+4*j) e'=ZeX cf turn r kv un (es.set j e'):=by
  have:=ZhM hj [.ins "Host" (hfs cf turn r),.lst (Zcx es.length),.dT kv,.dK un] 4 rfl e'
  unfold ZeX
  rw [List.length_set]
  exact this
theorem ZhJ {j:Nat} (hj:j<es.length):upE (ZeX cf turn r kv un es) (4+4*j) es[j]=ZeX cf turn r kv un es:=by
  rw [Zhf hj,List.set_getElem_self]
theorem Zga:(ZeX cf turn r kv un es).length=4+4*es.length:=by
  unfold ZeX zK
  simp only [List.length_cons,Zcp]
  omega
theorem Zp7:Z9 ["Host"] "coming_first" (.ref 0) (zK cf turn r rs kv un X)=.ok (.int cf) (zK cf turn r rs kv un X):=rfl
theorem ZdM:Z9 ["Host"] "ends" (.ref 0) (zK cf turn r rs kv un X)=.ok (.ref 1) (zK cf turn r rs kv un X):=rfl
theorem ZjB:Z9 ["Host"] "latest" (.ref 0) (zK cf turn r rs kv un X)=.ok (.ref 2) (zK cf turn r rs kv un X):=rfl
theorem ZjA:Z9 ["Host"] "owed_reset" (.ref 0) (zK cf turn r rs kv un X)=.ok (zA r) (zK cf turn r rs kv un X):=rfl
theorem Zjz:Z9 ["Host"] "turn" (.ref 0) (zK cf turn r rs kv un X)=.ok (.int turn) (zK cf turn r rs kv un X):=rfl
theorem ZpP (n:Int):Z4 ["Host"] "coming_first" (.int n) (.ref 0) (zK cf turn r rs kv un X)=some (zK n turn r rs kv un X):=rfl
theorem ZlX (n:Int):Z4 ["Host"] "turn" (.int n) (.ref 0) (zK cf turn r rs kv un X)=some (zK cf n r rs kv un X):=rfl
theorem lc1:Zgy (zK cf turn r rs kv un X) (.ref 1)=some (1,rs):=rfl
theorem dt2:Ze0 (zK cf turn r rs kv un X) (.ref 2)=some (2,kv):=rfl
theorem ZpN (ys:List D):(zK cf turn r rs kv un X).set 1 (.lst ys)=zK cf turn r ys kv un X:=rfl
theorem ZpM (ys:List (List Key×D)):(zK cf turn r rs kv un X).set 2 (.dT ys)=zK cf turn r rs ys un X:=rfl
theorem Zlr:Zbx (zK cf turn r rs kv un X) (.ref 0)=some (0,("Host":Str),hfs cf turn r):=rfl
theorem Zn1:Zdh [.ref 1] (zK cf turn r rs kv un X)=.ok (.int rs.length) (zK cf turn r rs kv un X):=rfl
theorem ix1 (i:Int):ixM (.ref 1) (.int i) (zK cf turn r rs kv un X)=match atI rs i with | some d=>.ok d (zK cf turn r rs kv un X) | none=>.bad:=rfl
theorem Zjx (Y:Sto):zK cf turn r rs kv un X++Y=zK cf turn r rs kv un (X++Y):=rfl
end
@[simp] theorem Zpq {fo fe:EM} {ρ:List Sl} {θ:Sto}:Zjq fo fe ρ θ=(fo ρ θ).bind fun d θ=>match Zgy θ d with
  | none=>.bad
  | some _=>(fe ρ θ).bind fun y θ=>match Zgy θ d with
    | some (l,xs)=>if xs.length<BIG then .ok .non (θ.set l (.lst (xs++[y]))) else .bad
    | none=>.bad:=nr' rfl
@[simp] theorem Zor {fo fe:EM} {ρ:List Sl} {θ:Sto}:Zgw fo fe ρ θ=(fo ρ θ).bind fun d θ=>match Ze0 θ d with
  | none=>.bad
  | some _=>(fe ρ θ).bind fun y θ=>match ktD y,Ze0 θ d with
    | some k,some (_,kvs)=>.ok ((valT kvs k).getD .non) θ
    | _,_=>.bad:=nr' rfl
@[simp] theorem Zop {fo fi fv:EM} {ρ:List Sl} {θ:Sto}:Zgv fo fi fv ρ θ=(fv ρ θ).bind fun v θ=>(fo ρ θ).bind fun d θ=>(fi ρ θ).bind fun y θ=>match ktD y,Ze0 θ d with
  | some k,some (l,kvs)=>if kvs.length<BIG then .ok (.nx,ρ) (θ.set l (.dT (putT kvs k v))) else .bad
  | _,_=>.bad:=nr' rfl
theorem kt2 (a b:Int):ktD (.tup [.int a,.int b])=some [.inl a,.inl b]:=rfl
theorem Zg5 {C m:Str} {f:GM} {fo:EM} {fs:AM} {ρ:List Sl} {θ θ1:Sto} {d:D} {l:Nat} {gs:List (Str×D)} (h:fo ρ θ=.ok d θ1) (hi:Zbx θ1 d=some (l,C,gs)) (hl:gs.lookup m=none):ZaE C m f fo fs ρ θ=(fs ρ θ1).bind fun vs θ=>f (d::vs) θ:=by
  unfold ZaE
  rw [h,R.bind_ok,hi]
  exact if_pos ⟨rfl,hl⟩
theorem ZjH {fi:IM} {body:SM} {k:Nat} {ρ:List Sl} {θ:Sto} {lo:Int} {n i:Nat} {d:D} {θ':Sto} (Inv:Nat→List Sl→Sto→Prop) (hn:fi ρ θ=.ok (.rng lo n) θ) (hin:i<n) (hi:Inv 0 ρ θ)
    (stp:∀(m:Nat) ρ θ,m<i→Inv m ρ θ→∃ρ' θ',body (ρ.set k (.val (.int (lo+(m:Int))))) θ=.ok (.nx,ρ') θ'∧Inv (m+1) ρ' θ') (lst:∀ρ θ,Inv i ρ θ→∃ρ',body (ρ.set k (.val (.int (lo+(i:Int))))) θ=.ok (.rt d,ρ') θ') (hk:∀i ρ θ,Inv i ρ θ→k < ρ.length) :
    ∃ρ',ZaU fi (gNm k) body ρ θ=.ok (.rt d,ρ') θ':=by
  obtain ⟨all,hall⟩:∃x,x=(List.range n).map fun (i:Nat)=>D.int (lo+(i:Int)):=⟨_,rfl⟩
  have hm:ZaU fi (gNm k) body ρ θ=Za8 (.rng lo n) all (gNm k) body all ρ θ:=by
    unfold ZaU
    rw [hn,R.bind_ok]
    simp only [Zax,←hall]
  rw [hm]
  have key:∀(m:Nat) ρ θ,m≤i→Inv (i-m) ρ θ→∃ρ',Za8 (.rng lo n) all (gNm k) body (all.drop (i-m)) ρ θ=.ok (.rt d,ρ') θ':=by
    intro m
    induction m with
    | zero=>
      intro ρ θ _ hI
      rw [Nat.sub_zero] at hI ⊢
      have hla:i<all.length:=by rw [hall]; simpa using hin
      have hx:all[i]=D.int (lo+(i:Int)):=by simp [hall]
      have hg:gNm k (D.int (lo+(i:Int))) ρ=some (ρ.set k (.val (.int (lo+(i:Int))))):=by
        have:=hk _ _ _ hI
        simp [gNm,this]
      have hit:(Src.rng lo n).items θ=some all:=by rw [Zax,hall]
      rw [List.drop_eq_getElem_cons hla,hx]
      simp only [Za8,hit,if_true,hg]
      obtain ⟨ρ',h⟩:=lst ρ θ hI
      exact ⟨ρ',by rw [h]; rfl⟩
    | succ m ih=>
      intro ρ θ hm hI
      have hlt:i-(m+1)<n:=by omega
      have hla:i-(m+1)<all.length:=by rw [hall]; simpa using hlt
      have e:i-(m+1)+1=i-m:=by omega
      have hx:all[i-(m+1)]=D.int (lo+((i-(m+1):Nat):Int)):=by simp [hall]
      have hg:gNm k (D.int (lo+((i-(m+1):Nat):Int))) ρ=some (ρ.set k (.val (.int (lo+((i-(m+1):Nat):Int))))):=by
        have:=hk _ _ _ hI
        simp [gNm,this]
      have hit:(Src.rng lo n).items θ=some all:=by rw [Zax,hall]
      rw [List.drop_eq_getElem_cons hla,hx,e]
      simp only [Za8,hit,if_true,hg]
      obtain ⟨ρ',θ',h,hI'⟩:=stp _ ρ θ (by omega) hI
      rw [h,R.bind_ok,ZaX]
      exact ih ρ' θ' (by omega) (by rw [←e]; exact hI')
  have:=key i ρ θ (Nat.le_refl _) (by rw [Nat.sub_self]; exact hi)
  rw [Nat.sub_self,List.drop_zero] at this
  exact this
end
end My
namespace PySem.W.Fast
def tw11475563162222539776:=0
def tw1661320250096797760:=0
def tw12640243019367655520:=0
def tw7203301959257447552:=0
def tw15162040888964598016:=0
def tw2895875989143296288:=0
def tw8211096821454689632:=0
def tw11203265013369169280:=0
def tw7078171713893523904:=0
def tw10499731925736223200:=0
def tw3057619846725144096:=0
def tw16548226321436140128:=0
def tw3235355449842076320:=0
def tw1055742766758241952:=0
def tw15015668712817857216:=0
def tw3990391169818073824:=0
def tw13837132928766041952:=0
def tw17438847977698996096:=0
def tw8077919328703827872:=0
def tw10703956695188787265:=0
def tw1185807548047239329:=0
def tw8574510120070049953:=0
def tw4242659460270233825:=0
def tw7498127447300351233:=0
def tw15164276097846293825:=0
def tw12396715132084144513:=0
def tw47083864396642785:=0
def tw17655064326075763169:=0
def tw11988789712119316033:=0
def tw14010653800947871297:=0
def tw6944759010985626241:=0
def tw1330737457288225505:=0
def tw6390600634063463137:=0
def tw9649247711016101601:=0
def tw8124416733453096769:=0
def tw3354160346794377121:=0
def tw728692602720727170:=0
def tw4502277200240888994:=0
def tw12304071336431209634:=0
def tw5472665379417972962:=0
def tw14438254641120703746:=0
def tw14204648902666649986:=0
def tw4947482741464282594:=0
def tw3935968679355929058:=0
def tw14091605322119243266:=0
def tw16149998756177451650:=0
def tw6393673313231007394:=0
def tw17177922693368820546:=0
def tw15587973539733397378:=0
def tw13385560583931076611:=0
def tw8796960282596734019:=0
def tw11884048942524257475:=0
def tw18438443984166946019:=0
def tw8946085513700595939:=0
def tw14594053100028998947:=0
def tw4158340523127598435:=0
def tw4612567551337747843:=0
def tw5579930306516234659:=0
def tw10728518159037786723:=0
def tw13294033330613418595:=0
def tw3967569588225189667:=0
def tw4266682648174869283:=0
def tw6830344881317592899:=0
def tw2746664131911241539:=0
def tw5168290148663661475:=0
def tw11788282634788927427:=0
def tw8790938252125571076:=0
def tw13494109142602754244:=0
def tw18059251641234069764:=0
def tw7858359036748589348:=0
def tw4784304471607111972:=0
def tw4789800090784932356:=0
def tw10895877814550356516:=0
def tw13736926873314686500:=0
def tw11607118015814975172:=0
def tw9573390354161406692:=0
def tw12195141290133418756:=0
def tw9047875787744734084:=0
def tw8280205863744377796:=0
def tw16840867121019381732:=0
def tw16599633636709463141:=0
def tw16650351616457193957:=0
def tw9892995570458782213:=0
def tw12284402728760770053:=0
def tw10951962774081927781:=0
def tw12303836830268175173:=0
def tw11344348987057429317:=0
def tw6826105505056691077:=0
def tw6388118466754798469:=0
def tw3032675861514852293:=0
def tw18331660276592819334:=0
def tw9272039597855902982:=0
def tw16632932502134120966:=0
def tw6662172912623994502:=0
def tw9397967388330593958:=0
def tw1359286668196360070:=0
def tw1521706151075303334:=0
def tw15123906988021828582:=0
def tw7318949327781848135:=0
def tw6705042692542907527:=0
def tw9448577249221086567:=0
def tw9376623434574823911:=0
def tw808795405042463239:=0
def tw15774840290638901831:=0
def tw12369240162966818407:=0
def tw2266215610625421927:=0
def tw16823050602466294439:=0
def tw10414298866475682567:=0
def tw30736462977618727:=0
def tw3114088019565280135:=0
def tw18065267317994301351:=0
def tw12087945787951148999:=0
def tw8110171340256856104:=0
def tw2800230780598586472:=0
def tw11983686059068580136:=0
def tw4606091334446200136:=0
def tw11988490508638326120:=0
def tw14961439669627711976:=0
def tw11665491484092730984:=0
def tw448513408793338568:=0
def tw13133268515818492648:=0
def tw14961831884843664136:=0
def tw14595774150319683368:=0
def tw17884457476437791560:=0
def tw11317172436350440296:=0
def tw11237802953826984808:=0
def tw8813972226835350472:=0
def tw3484107270524903368:=0
def tw9550637891780117513:=0
def tw2443214726626680841:=0
def tw13602347349422802985:=0
def tw4888206547949711497:=0
def tw8957719227566658729:=0
def tw5575869206214737065:=0
def tw7135430084745194697:=0
def tw8410008954365141385:=0
def tw5207195214482621865:=0
def tw85224868057046505:=0
def tw10762294524129520329:=0
def tw3248607013037464265:=0
def tw16033952048221897449:=0
def tw9585403807024113417:=0
def tw4544259678008234793:=0
def tw3531217141356489545:=0
def tw13247096025405127497:=0
def tw14554650405907090281:=0
def tw6041018431020285865:=0
def tw1773916992776798218:=0
def tw17306531736773217322:=0
def tw11835804398095628490:=0
def tw10163937550441965930:=0
def tw1009908303970337258:=0
def tw6160785030029912586:=0
def tw11697465277151410698:=0
def tw4065817894093200970:=0
def tw10599252926957872778:=0
def tw3485597849575620298:=0
def tw16666531346024342282:=0
def tw17230142361423543210:=0
def tw1483226254015741866:=0
def tw2560475401756707915:=0
def tw8305596436862824555:=0
def tw5927961945374825643:=0
def tw11494337121366930667:=0
def tw4748769571191830795:=0
def tw7364155358157086091:=0
def tw17763840088476620235:=0
def tw4559835273659062763:=0
def tw13907058164951334507:=0
def tw12212553254832328299:=0
def tw2914490855733828235:=0
def tw18404469208146920139:=0
def tw10809855787401458732:=0
def tw7095092901534849068:=0
def tw5473476853559942220:=0
def tw6567617722041021548:=0
def tw15522108450243592300:=0
def tw13054698016351183980:=0
def tw2239019046141005964:=0
def tw8384619207718776012:=0
def tw4416630530663133388:=0
def tw3021503140509277388:=0
def tw14788533773580742028:=0
def tw17141949785941030348:=0
def tw264634752698044940:=0
def tw16338515677057865420:=0
def tw14083391201301050092:=0
def tw2642264360437319436:=0
def tw9102343735849937708:=0
def tw11038318468401816396:=0
def tw1000912062732980076:=0
def tw14741263707618485228:=0
def tw17330200115109471277:=0
def tw7509094278978591853:=0
def tw7929005800555197773:=0
def tw10259242964443452973:=0
def tw10085294381760441901:=0
def tw2468254906162084525:=0
def tw7177901758482055981:=0
def tw14843545761564820365:=0
def tw14805336529297849390:=0
def tw17064263746339385422:=0
def tw17073563488419855502:=0
def tw12827893321638667502:=0
def tw5090829621297377710:=0
def tw13630137087326527950:=0
def tw9903912540574147150:=0
def tw12701468488012833422:=0
def tw14647649053831112334:=0
def tw8246876349385795246:=0
def tw2029714907244005070:=0
def tw14938824700106602190:=0
def tw3207443442075250510:=0
def tw806467451035432910:=0
def tw13077449060009534414:=0
def tw6055868056008086671:=0
def tw4686458098220744879:=0
def tw17877079620782996751:=0
def tw5095485691762939183:=0
def tw2022073206128680303:=0
def tw5360788367814747631:=0
def tw11828049006664173199:=0
def tw15866404928963577519:=0
def tw6688779789185840815:=0
def tw16059545201343738671:=0
def tw10239623511642365775:=0
def tw9331317130256754575:=0
def tw7601586536430212079:=0
def tw7232843204174661615:=0
def tw3350310481571822672:=0
def tw14458900571034552496:=0
def tw16282370480805698768:=0
def tw13800790494029117776:=0
def tw6254176158805286256:=0
def tw13384313138891795920:=0
def tw2565524708834030032:=0
def tw12297471788474568208:=0
def tw13503812401943598640:=0
def tw7536491333739442736:=0
def tw9235596706317410896:=0
def tw17654734147432278608:=0
def tw8754623198366945904:=0
def tw6103070816706388656:=0
def tw13355295417842104240:=0
def tw16288243799514454992:=0
def tw12638696741644194768:=0
def tw4169021018711020528:=0
def tw6340396422229319729:=0
def tw10698394181380777105:=0
def tw666806608135308433:=0
def tw14079736845768962321:=0
def tw1772551052291850609:=0
def tw10837107715897772433:=0
def tw12123124533282173329:=0
def tw7609181223592438193:=0
def tw16049287642038775249:=0
def tw7949037470889263569:=0
def tw18143515923274094033:=0
def tw5399683766977238513:=0
def tw6920379065218083313:=0
def tw12666729257942185457:=0
def tw12428787607228353073:=0
def tw2544622646842397233:=0
def tw15856531976226957905:=0
def tw14534457798066867889:=0
def tw13352719676493965009:=0
def tw16724799288578354961:=0
def tw12675171576335420177:=0
def tw9399334453295940401:=0
def tw2773266834081270577:=0
def tw14620527033939611441:=0
def tw9692002831500817329:=0
def tw17710786359014994865:=0
def tw5191756943405336497:=0
def tw1587161549822893009:=0
def tw10366793927800720402:=0
def tw18182726685759683634:=0
def tw8251346145302100082:=0
def tw6264177702937160850:=0
def tw11299951805007875282:=0
def tw8685496777421918546:=0
def tw15340075817316431250:=0
def tw2237732879994088850:=0
def tw10613528712700192178:=0
def tw13337433967240939026:=0
def tw7449688164521094706:=0
def tw713917026280105522:=0
def tw3971693667147274834:=0
def tw8674017244367565426:=0
def tw5973264419535662738:=0
def tw8416563506846562994:=0
def tw8775529956874271474:=0
def tw79852890251743154:=0
def tw3013484672708415474:=0
def tw16893778373311613938:=0
def tw3497395291076631571:=0
def tw3626189983549786291:=0
def tw6621943923823776947:=0
def tw7582631064962930867:=0
def tw5433137859906358611:=0
def tw10349162793363655219:=0
def tw15151602575063876307:=0
def tw10760126081128627923:=0
def tw6791895470695291635:=0
def tw15105882041082832691:=0
def tw13953849923080176467:=0
def tw17128289725205213107:=0
def tw7450604437647082580:=0
def tw16014756479423927444:=0
def tw9886628911555809460:=0
def tw7730336602152500436:=0
def tw17074382599341069588:=0
def tw9982334250592771380:=0
def tw14268008192590944596:=0
def tw8590293586245007828:=0
def tw10090758578776217076:=0
def tw1723992484284931668:=0
def tw18091297040564944468:=0
def tw1010820200240573236:=0
def tw15924431258752852916:=0
def tw3254582731144800180:=0
def tw3661964541915080725:=0
def tw12872329681663476917:=0
def tw11122163812739031349:=0
def tw5371216209454880277:=0
def tw2591724314162638421:=0
def tw1717849279312674421:=0
def tw11473391767727401781:=0
def tw656712133175889877:=0
def tw10281822997179908085:=0
def tw918360078081155094:=0
def tw8555064582643090582:=0
def tw3119296342991991094:=0
def tw18001013096291486006:=0
def tw185860779577092534:=0
def tw7372540289449151958:=0
def tw14512195142790625782:=0
def tw3954618782437706262:=0
def tw7498948816455319062:=0
def tw16943617076205374006:=0
def tw11539785158729808630:=0
def tw17085679548278762230:=0
def tw4028596615790695254:=0
def tw15604253208716690294:=0
def tw6992228673042128790:=0
def tw12133669173639566359:=0
def tw3429341656803084375:=0
def tw854811450754192471:=0
def tw14037863149716654231:=0
def tw5926369097758349527:=0
def tw14939498684577575159:=0
def tw1484908017985839383:=0
def tw9170469386102490519:=0
def tw1636266428595508695:=0
def tw14696694959170164247:=0
def tw3450206529131463255:=0
def tw10647081823390574199:=0
def tw431521793163995799:=0
def tw5970574033317821079:=0
def tw7096574983701596951:=0
def tw11760774065916844887:=0
def tw15291685849887455063:=0
def tw11568960218085312375:=0
def tw12816690243977586647:=0
def tw15044470621547003895:=0
def tw4688576477277132824:=0
def tw18123475549600990264:=0
def tw11543422967031740536:=0
def tw11902757199769016472:=0
def tw2127598837930434776:=0
def tw4521815819338900792:=0
def tw2069286056426584472:=0
def tw957830489663804856:=0
def tw3206947213005577656:=0
def tw5012868694615607800:=0
def tw12660675448399539736:=0
def tw9546914672975798872:=0
def tw5992375276450361976:=0
def tw9269688624830369560:=0
def tw8387778420986108696:=0
def tw9546663576683032504:=0
def tw3804929089083235288:=0
def tw3310225850861201497:=0
def tw16139350611534047321:=0
def tw11365645579945273529:=0
def tw13540402372847342809:=0
def tw11513921794491931865:=0
def tw10671610680185329945:=0
def tw16650233301362995481:=0
def tw10164382586318927161:=0
def tw11742488674943954297:=0
def tw18287704236355463577:=0
def tw12732734093563479449:=0
def tw6910636909011085785:=0
def tw2567883731081302521:=0
def tw9691408262479065913:=0
def tw3202801457009888089:=0
def tw15991855461302352857:=0
def tw13069736934056090617:=0
def tw1197059770261216249:=0
def tw14877199618228902970:=0
def tw16123246858471855226:=0
def tw12160668249726640250:=0
def tw13505093780061178010:=0
def tw18280468230253099290:=0
def tw14119851417643134266:=0
def tw2533379922555818330:=0
def tw13476596882083750394:=0
def tw5802518466215922362:=0
def tw10128267248179556186:=0
def tw10061579179581655930:=0
def tw9964872107749080155:=0
def tw4100610723999549595:=0
def tw15362737856849966427:=0
def tw11968583880211596699:=0
def tw3114143620003480091:=0
def tw9336882888028559099:=0
def tw1678848022933865275:=0
def tw12924910878484110299:=0
def tw17212726178111855611:=0
def tw9090791740172056571:=0
def tw7376675046386984988:=0
def tw8820186146743198780:=0
def tw2199250577439708220:=0
def tw8485116981015388252:=0
def tw3052785920862711996:=0
def tw4531757281467181308:=0
def tw16281612260729429276:=0
def tw1958888092481815964:=0
def tw6416592512380901788:=0
def tw6485059577906970044:=0
def tw5482987602955884060:=0
def tw7508030511315190332:=0
def tw2622454826039414332:=0
def tw3455549680476783324:=0
def tw15799342373638640380:=0
def tw11248583900770720540:=0
def tw12946971299179669340:=0
def tw6542827854823098236:=0
def tw6087822861363804060:=0
def tw6079748056641246140:=0
def tw16706704733581008860:=0
def tw2241837304310827004:=0
def tw6750647616898252829:=0
def tw10913405618712646909:=0
def tw17259485838200915229:=0
def tw5093926287979472157:=0
def tw7744966989304297789:=0
def tw3468861466916991357:=0
def tw8037021561324471709:=0
def tw4367422107017450909:=0
def tw15003299859782156701:=0
def tw16098166802307928573:=0
def tw7346038961945773821:=0
def tw696610824062739229:=0
def tw7545397944067927837:=0
def tw3407793260205168413:=0
def tw14872497839333925693:=0
def tw657551386369847101:=0
def tw8495821741229392733:=0
def tw17835121396267779037:=0
def tw16000619492185226205:=0
def tw4455436374461325374:=0
def tw12324671054963921982:=0
def tw17294746588153917534:=0
def tw14198552717465934942:=0
def tw7191000074330156222:=0
def tw10302583873719709886:=0
def tw16927439042063102142:=0
def tw6375546951814601054:=0
def tw4071558641364792766:=0
def tw14327817820711385534:=0
def tw13899701712701763134:=0
def tw5507386134607286878:=0
def tw2285251762871896766:=0
def tw11596587954578763774:=0
def tw15845311435462038559:=0
def tw14558797755504702527:=0
def tw14799065900982089855:=0
def tw13017846397125980319:=0
def tw11525741207563687167:=0
def tw2039807170062707071:=0
def tw10102458649997922719:=0
def tw4739045364343168575:=0
def tw10524260123532399359:=0
def tw8144573528554759999:=0
def tw10217113052393955167:=0
def tw4363174619595853857:=0
end PySem.W.Fast
namespace My
open PySem L2 L2.MM
noncomputable section
def Zec:SM:=(Zq (ZA ["Host"] "coming_first" (Zd 0) (Zd 1))
  (Zq (ZA ["Host"] "ends" (Zd 0) (Zlq Zk))
  (Zq (ZA ["Host"] "latest" (Zd 0) Zg7)
  (Zq (ZA ["Host"] "untaken" (Zd 0) ZeS)
  (Zq (ZA ["Host"] "owed_reset" (Zd 0) (mC .non))
  (ZA ["Host"] "turn" (Zd 0) (mC (.int 0))))))))
def Zaq:GM:=Z0 2 2 Zec
def ZcK:SM:=(Zq (Z7 3 (Zgw (ZK ["Host"] "latest" (Zd 0)) (Za4 (Zc (Zd 1) (Zc (Zd 2) Zk)))))
  (ZO (ZdI (mOr (ZM (mOp isM (Zd 3) (mC .non))) (ZM (mOp eqM (ZK ["End"] "state" (Zd 3)) (mC (.str "closed"))))) (mC .non) (Zd 3))))
def Zbl:GM:=Z0 3 4 ZcK
def ZcJ:SM:=(Zq (Z7 4 (mCB ZbE (Zc (Zd 1) (Zc (Zd 2) (Zc (ZK ["Host"] "coming_first" (Zd 0)) (Zc (Zd 3) Zk))))))
  (Zq (ZA ["Host"] "coming_first" (Zd 0) (mCB Zad (Zc (ZK ["Host"] "coming_first" (Zd 0)) (Zc (mC (.int 64000)) Zk))))
  (Zq (Zc8 (Zjq (ZK ["Host"] "ends" (Zd 0)) (Zd 4)))
  (Zq (Zgv (ZK ["Host"] "latest" (Zd 0)) (Za4 (Zc (Zd 1) (Zc (Zd 2) Zk))) (Zd 4))
  (ZO (Zd 4))))))
def Zbk:GM:=Z0 4 5 ZcJ
def Zbf:SM:=(mIf (ZM (mOp ZcY (mCB Zbl (Zc (Zd 0) (Zc (Zd 1) (Zc (Zd 2) Zk)))) (mC .non))) ZkP zb)
def ZbT:SM:=(Zq Zbf
  (ZO (mCB Zbk (Zc (Zd 0) (Zc (Zd 1) (Zc (Zd 2) (Zc (mC (.bl true)) Zk)))))))
def zt:GM:=Z0 3 3 ZbT
def Zaj:SM:=(mIf (ZM (mOp ZcY (ZK ["Host"] "owed_reset" (Zd 0)) (mC .non))) (Zq (Z7 2 (mCB Zdx (Zc (ZK ["Host"] "owed_reset" (Zd 0)) Zk)))
    (Zq (ZA ["Host"] "owed_reset" (Zd 0) (mC .non))
    (ZO (Zd 2)))) zb)
def zI:SM:=(mIf (ZM (mOp gtM (mCB Zdh (Zc (Zd 2) Zk)) (mC (.int 0)))) (Zq (ZA ["Host"] "turn" (Zd 0) (mOp ZN (Zd 5) (mC (.int 1))))
      (ZO (Zd 2))) zb)
def Zai:SM:=(ZaU (zX (Zc (Zd 3) Zk)) (gNm 4) (Zq (Z7 5 (mOp zR (mOp ZN (ZK ["Host"] "turn" (Zd 0)) (Zd 4)) (Zd 3)))
    (Zq (Z7 2 (mCB Zbj (Zc (mOp ixM (ZK ["Host"] "ends" (Zd 0)) (Zd 5)) (Zc (Zd 1) Zk))))
    zI)))
def ZaG:SM:=(Zq Zaj
  (Zq (Z7 3 (mCB Zdh (Zc (ZK ["Host"] "ends" (Zd 0)) Zk)))
  (Zq Zai
  (ZO (ZaH Zk)))))
def ZC:GM:=Z0 2 6 ZaG
def Zb8:SM:=(mIf (ZM (mOp eqM (mOp zR (mCB Za5 (Zc (Zd 0) (Zc (mC (.int 1)) Zk))) (mC (.int 2))) (mC (.int 0)))) (Z7 1 (mOp Zci (mOp Zci (mC (.int 4294967296)) (mC (.int 1))) (mOp zR (Zd 1) (mC (.int 200000))))) zb)
def ZeD:SM:=(ZaU (zX (Zc (Zd 3) Zk)) (gNm 5) (Zq (Z7 6 (Za4 (Zc (mOp ZN (mOp Zcm (mC (.int 10)) (Zd 5)) (mOp zR (mCB Za5 (Zc (Zd 0) (Zc (mOp ZN (mC (.int 3)) (Zd 5)) Zk))) (mC (.int 10)))) (Zc (mOp zR (mCB Za5 (Zc (Zd 0) (Zc (mOp ZN (mC (.int 10)) (Zd 5)) Zk))) (mC (.int 65536))) Zk))))
    (Zq (Zc8 (ZaE "Host" "calls" zt (Zd 2) (Zc (mOp ixM (Zd 6) (mC (.int 0))) (Zc (mOp ixM (Zd 6) (mC (.int 1))) Zk))))
    (ZcD 4 (mCB Zbp (Zc (Za4 (Zc (mOp ixM (Zd 6) (mC (.int 0))) (Zc (mOp ixM (Zd 6) (mC (.int 1))) (Zc (mOp zR (mOp ZN (Zd 1) (mOp Zcm (mC (.int 64000)) (Zd 5))) (mC (.int 4294967296))) (Zc (mC (.int 0)) (Zc (mC (.int 2)) (Zc (mC (.int 64)) (Zc (mC (.int 16)) (Zc (Za4 Zk) Zk))))))))) Zk))))))
def ZeC:SM:=(mIf (ZM (mOp neM (ZaE "Host" "sends" ZC (Zd 2) (Zc (mC (.int 7)) Zk)) (mOp ixM (Zd 4) (Zd 5)))) (ZO (mC (.bl false))) zb)
def ZeB:SM:=(ZaU (zX (Zc (Zd 7) Zk)) (gNm 5) (zD 4 ZeC))
def Zc3:SM:=(mIf (ZM (mOp neM (ZaE "Host" "sends" ZC (Zd 2) (Zc (mC (.int 8)) Zk)) (mOp ixM (Zd 4) (mOp ZN (Zd 7) (Zd 5))))) (ZO (mC (.bl false))) zb)
def ZeA:SM:=(ZaU (zX (Zc (mOp Zci (Zd 3) (Zd 7)) Zk)) (gNm 5) (zD 4 Zc3))
def Zb7:SM:=(mIf (ZM (mOp ltM (Zd 7) (Zd 3))) ZeA zb)
def Zc2:SM:=(mIf (ZM (mOp neM (ZaE "Host" "sends" ZC (Zd 2) (Zc (mC (.int 8)) Zk)) (ZaH Zk))) (ZO (mC (.bl false))) zb)
def Zez:SM:=(mIf (ZM (mOp neM (ZaE "Host" "sends" ZC (Zd 2) (Zc (mC (.int 100000)) Zk)) (mOp ixM (Zd 4) (Zd 5)))) (ZO (mC (.bl false))) zb)
def Zd1:SM:=(ZaU (zX (Zc (Zd 8) Zk)) (gNm 5) (zD 4 Zez))
def Zd0:SM:=(mIf (ZM (mOp neM (ZaE "Host" "sends" ZC (Zd 2) (Zc (mC (.int 200000)) Zk)) (mOp ixM (Zd 4) (mOp zR (mOp ZN (Zd 8) (Zd 5)) (Zd 3))))) (ZO (mC (.bl false))) zb)
def ZdZ:SM:=(ZaU (zX (Zc (Zd 3) Zk)) (gNm 5) (zD 4 Zd0))
def Zhm:SM:=(Zq (Z7 1 (mCB Za5 (Zc (Zd 0) (Zc (mC (.int 0)) Zk))))
  (Zq Zb8
  (Zq (Z7 2 (mCB (mkG "Host" Zaq) (Zc (Zd 1) Zk)))
  (Zq (Z7 3 (mOp ZN (mC (.int 1)) (mOp zR (mCB Za5 (Zc (Zd 0) (Zc (mC (.int 2)) Zk))) (mC (.int 5)))))
  (Zq (ZeR 4 Zk)
  (Zq ZeD
  (Zq (Z7 7 (mOp zR (mCB Za5 (Zc (Zd 0) (Zc (mC (.int 20)) Zk))) (mOp ZN (Zd 3) (mC (.int 1)))))
  (Zq ZeB
  (Zq Zb7
  (Zq Zc2
  (Zq (Z7 8 (mOp zR (mCB Za5 (Zc (Zd 0) (Zc (mC (.int 21)) Zk))) (mOp ZN (Zd 3) (mC (.int 1)))))
  (Zq Zd1
  (Zq ZdZ
  (ZO (mOp eqM (ZaE "Host" "sends" ZC (Zd 2) (Zc (mC (.int 200000)) Zk)) (ZaH Zk))))))))))))))))
def Zha:GM:=Z0 1 9 Zhm
def ZgO (a b f s w r:Int):Zv:={ newEnd a b f true with nxt:=Za1 f 1,since:=s,wait:=w,tries:=r }
def Zca (a b f:Int):Seg:=⟨a,b,f,0,2,64,16,[]⟩
abbrev Ph:=Option (Int×Int×Int)
def Zc0 (a b f:Int):Ph→Zv
  | none=>newEnd a b f true
  | some (s,w,r)=>ZgO a b f s w r
def Zdv (t:Int):Ph→Prop
  | none=>True
  | some (s,w,r)=>w≤t-s∧r<6
def quiet (t:Int):Ph→Prop
  | none=>False
  | some (s,w,_)=>t-s<w
def ZaD (t:Int):Ph→Ph
  | none=>some (t,1000,0)
  | some (_,w,r)=>some (t,if 16000<2*w then 16000 else 2*w,r+1)
section
variable {a b f t:Int}
theorem ZjE {p:Ph} (h:Zdv t p):Zab (Zc0 a b f p) t=(some (Zca a b f),Zc0 a b f (ZaD t p)):=by
  cases p with
  | none=>simp [Zab,Zc0,newEnd,Zaw,Z8,Zcl,zd,ZbW,Zca,ZaD,ZgO]
  | some q=>
    obtain ⟨s,w,r⟩:=q
    obtain ⟨h1,h2⟩:=h
    have ne:¬Za1 f 1=f:=ZgR (by omega)
    have r6:¬r=6:=by omega
    simp [Zab,Zc0,ZgO,newEnd,Za7,again,ZbW,Zca,ZaD,ne,h1,r6,mn]
theorem ZjD {p:Ph} (h:quiet t p):Zab (Zc0 a b f p) t=(none,Zc0 a b f p):=by
  cases p with
  | none=>exact h.elim
  | some q=>
    obtain ⟨s,w,r⟩:=q
    have h1:¬w≤t-s:=by have:t-s<w:=h; omega
    have ne:¬Za1 f 1=f:=ZgR (by omega)
    simp [Zab,Zc0,ZgO,newEnd,Za7,ne,h1,Zaw,Z8,ZX,zz]
end
section
variable (A Bp F:Nat→Int)
def zv (n:Nat) (ph:Nat→Ph):List Zv:=(List.range n).map fun j=>Zc0 (A j) (Bp j) (F j) (ph j)
def ZaL (n:Nat):List (List Key×D):=(List.range n).map fun j=>([.inl (A j),.inl (Bp j)],.ref (4+4*j))
def H42 (n turn:Nat) (ph:Nat→Ph):Sto:=ZeX (F n) (turn:Int) none (ZaL A Bp n) [] (zv A Bp F n ph)
end
section
variable {A Bp F:Nat→Int} {n turn:Nat} {ph:Nat→Ph} {t:Int}
theorem Zba:(zv A Bp F n ph).length=n:=by simp [zv]
theorem ZkZ {j:Nat} (hj:j<n):(zv A Bp F n ph)[j]'(by rw [Zba]; exact hj)=Zc0 (A j) (Bp j) (F j) (ph j):=by simp [zv]
theorem ZjL {j:Nat} (hj:j<n) (x:Ph):(zv A Bp F n ph).set j (Zc0 (A j) (Bp j) (F j) x)=zv A Bp F n (fun i=>if i=j then x else ph i):=by
  apply List.ext_getElem
  · simp [zv]
  · intro i h1 h2
    rw [List.getElem_set]
    by_cases c:j=i
    · subst c
      simp [zv]
    · have c':¬i=j:=fun z=>c z.symm
      simp [zv,c,c']
theorem ZiO {j:Nat} {r:Option Seg} {x:Ph} (hj:j<n) (g:Zab (Zc0 (A j) (Bp j) (F j) (ph j)) t=(r,Zc0 (A j) (Bp j) (F j) x)) (hr:∀s,r=some s→s.Ok):Zbj [.ref (4+4*j),.int t] (H42 A Bp F n turn ph)=.ok (il (Zeh r)) (H42 A Bp F n turn (fun i=>if i=j then x else ph i)):=by
  have hl:j<(zv A Bp F n ph).length:=by rw [Zba]; exact hj
  have s1:=ZhJ (cf:=F n) (turn:=(turn:Int)) (r:=none) (kv:=ZaL A Bp n) (un:=[]) hl
  rw [ZkZ hj] at s1
  have:=Zkj (base:=H42 A Bp F n turn ph) (l:=4+4*j) (e:=Zc0 (A j) (Bp j) (F j) (ph j)) (t:=t) (r:=r) (by unfold H42; rw [Zga,Zba]; omega) g (fun s h=>(hr s h).put)
  unfold H42 at this ⊢
  rw [s1,Zhf hl,ZjL hj] at this
  exact this
theorem ZgP {n j:Nat} (hj:j<n):atI (Zcx n) (j:Int)=some (.ref (4+4*j)):=by
  refine Zb9 ?_
  unfold Zcx
  rw [List.getElem?_map,List.getElem?_range hj]
  rfl
abbrev Zht:SM:=Zq (Z7 5 (mOp zR (mOp ZN (ZK ["Host"] "turn" (Zd 0)) (Zd 4)) (Zd 3))) (Zq (Z7 2 (mCB Zbj (Zc (mOp ixM (ZK ["Host"] "ends" (Zd 0)) (Zd 5)) (Zc (Zd 1) Zk)))) zI)
theorem ZaM:H42 A Bp F n turn ph=zK (F n) (turn:Int) none (Zcx n) (ZaL A Bp n) [] (ZY 4 (zv A Bp F n ph)):=by
  unfold H42 ZeX
  rw [Zba]
theorem Zj9 (hn:0<n) (hn':n<1000) (hr:Zdv t (ph (turn % n))) (hok:(Zca (A (turn % n)) (Bp (turn % n)) (F (turn % n))).Ok):ZC [.ref 0,.int t] (H42 A Bp F n turn ph)=.ok (il (ZaT (Zca (A (turn % n)) (Bp (turn % n)) (F (turn % n))))) (H42 A Bp F n (turn % n+1) (fun i=>if i=turn % n then ZaD t (ph (turn % n)) else ph i)):=by
  have hj:turn % n<n:=Nat.mod_lt _ hn
  obtain ⟨j,hjd⟩:∃j,j=turn % n:=⟨_,rfl⟩
  rw [←hjd] at hr hok hj ⊢
  have sd:=ZiO (n:=n) (turn:=turn) hj (ZjE (a:=A j) (b:=Bp j) (f:=F j) hr) (fun s h=>by cases h; exact hok)
  have mdi:(turn:Int) % (n:Int)=(j:Int):=by rw [hjd]; simp
  have pl:0<(ZaT (Zca (A j) (Bp j) (F j))).length:=by
    cases h:ZaT (Zca (A j) (Bp j) (F j)) with
    | nil=>exact absurd h (Zl7 _)
    | cons _ _=>simp
  have n0:¬(n:Int)=0:=by omega
  obtain ⟨ρ',h⟩:=ZjH (fi:=zX (Zc (Zd 3) Zk)) (body:=Zht) (k:=4) (ρ:=[.val (.ref 0),.val (.int t),.no,.val (.int (n:Int)),.no,.no]) (θ:=H42 A Bp F n turn ph) (lo:=0) (n:=n) (i:=0) (d:=il (ZaT (Zca (A j) (Bp j) (F j)))) (θ':=H42 A Bp F n (j+1) (fun i=>if i=j then ZaD t (ph j) else ph i))
    (fun _ ρ θ=>ρ=[.val (.ref 0),.val (.int t),.no,.val (.int (n:Int)),.no,.no]∧θ=H42 A Bp F n turn ph) (by simp; omega) hn ⟨rfl,rfl⟩ (fun m _ _ hm=>absurd hm (Nat.not_lt_zero _)) (by
      rintro ρ θ ⟨rfl,rfl⟩
      refine ⟨[.val (.ref 0),.val (.int t),.val (il (ZaT (Zca (A j) (Bp j) (F j)))),.val (.int (n:Int)),.val (.int 0),.val (.int (j:Int))],?_⟩
      simp only [ZaM] at sd ⊢
      simp [Zht,Zjz,ZdM,hn,mdi,ix1,ZgP hj,sd,zI,pl,ZlX,Zeh]
      ) (by rintro i ρ θ ⟨rfl,rfl⟩; simp)
  have hb:Zai=ZaU (zX (Zc (Zd 3) Zk)) (gNm 4) Zht:=rfl
  rw [←hb] at h
  simp only [ZaM] at h ⊢
  simp [ZC,ZaG,Zaj,ZjA,ZdM,Zn1,Zcx,zA,z8] at h ⊢
  simp [h]
theorem ZiC (hn:0<n) (hn':n<1000) (hq:∀j,j<n→quiet t (ph j)):ZC [.ref 0,.int t] (H42 A Bp F n turn ph)=.ok (il []) (H42 A Bp F n turn ph):=by
  have n0:¬(n:Int)=0:=by omega
  obtain ⟨ρ',θ',h,x2,x4,x5,hρ,hθ⟩:=for_rng (fi:=zX (Zc (Zd 3) Zk)) (body:=Zht) (k:=4) (ρ:=[.val (.ref 0),.val (.int t),.no,.val (.int (n:Int)),.no,.no]) (θ:=H42 A Bp F n turn ph) (lo:=0) (n:=n)
    (fun _ ρ θ=>∃x2 x4 x5,ρ=[.val (.ref 0),.val (.int t),x2,.val (.int (n:Int)),x4,x5]∧θ=H42 A Bp F n turn ph) (by simp; omega) ⟨_,_,_,rfl,rfl⟩ (by
      rintro i ρ θ hi ⟨x2,x4,x5,rfl,rfl⟩
      have hj:(turn+i) % n<n:=Nat.mod_lt _ hn
      obtain ⟨j,hjd⟩:∃j,j=(turn+i) % n:=⟨_,rfl⟩
      rw [←hjd] at hj
      have sd:=ZiO (A:=A) (Bp:=Bp) (F:=F) (n:=n) (turn:=turn) (ph:=ph) hj (ZjD (a:=A j) (b:=Bp j) (f:=F j) (hq j hj)) (fun s h=>by cases h)
      have same:(fun i=>if i=j then ph j else ph i)=ph:=by funext i; split<;>simp_all
      rw [same] at sd
      have mdi:((turn:Int)+(i:Int)) % (n:Int)=(j:Int):=by rw [hjd]; simp
      refine ⟨[.val (.ref 0),.val (.int t),.val (il []),.val (.int (n:Int)),.val (.int (i:Int)),.val (.int (j:Int))],H42 A Bp F n turn ph,?_,_,_,_,rfl,rfl⟩
      simp only [ZaM] at sd ⊢
      simp [Zht,Zjz,ZdM,hn,mdi,ix1,ZgP hj,sd,zI,Zeh]) (by rintro i ρ θ ⟨x2,x4,x5,rfl,rfl⟩; simp)
  subst hρ hθ
  have hb:Zai=ZaU (zX (Zc (Zd 3) Zk)) (gNm 4) Zht:=rfl
  rw [←hb] at h
  simp only [ZaM] at h ⊢
  simp [ZC,ZaG,Zaj,ZjA,ZdM,Zn1,Zcx,zA,z8] at h ⊢
  simp [h,ZbK]
theorem Zjs {a b:Int} (h:∀j,j<n→A j≠a):valT (ZaL A Bp n) [.inl a,.inl b]=none:=by
  unfold valT ZaL
  rw [Option.map_eq_none_iff,List.find?_eq_none]
  intro p hp
  obtain ⟨j,hj,rfl⟩:=List.mem_map.mp hp
  have:=h j (List.mem_range.mp hj)
  simp
  intro z
  exact absurd z this
theorem ZkS {a b:Int} (h:∀j,j<n→A j≠a) (d:D):putT (ZaL A Bp n) [.inl a,.inl b] d=ZaL A Bp n++[([.inl a,.inl b],d)]:=by
  unfold putT
  rw [if_neg]
  rw [List.any_eq_true]
  rintro ⟨p,hp,z⟩
  obtain ⟨j,hj,rfl⟩:=List.mem_map.mp hp
  have:=h j (List.mem_range.mp hj)
  simp at z
  exact this z.1
theorem Zke (hn:n<1000) (h:∀j,j<n→A j≠A n) (hF:F (n+1)=Za1 (F n) 64000):zt [.ref 0,.int (A n),.int (Bp n)] (H42 A Bp F n turn (fun _=>none))=.ok (.ref (4+4*n)) (H42 A Bp F (n+1) turn (fun _=>none)):=by
  have len:(H42 A Bp F n turn (fun _=>none)).length=4+4*n:=by unfold H42; rw [Zga,Zba]
  have op:=ZiD (a:=A n) (b:=Bp n) (c:=F n) (act:=true) (H42 A Bp F n turn (fun _=>none))
  rw [len] at op
  have e1:zv A Bp F (n+1) (fun _=>none)=zv A Bp F n (fun _=>none)++[newEnd (A n) (Bp n) (F n) true]:=by
    unfold zv
    rw [List.range_succ,List.map_append]
    rfl
  have e2:ZY 4 (zv A Bp F (n+1) (fun _=>none))=ZY 4 (zv A Bp F n (fun _=>none))++cells (4+4*n) (newEnd (A n) (Bp n) (F n) true):=by
    rw [e1,Zbq,Zba,ZY,ZY,List.append_nil]
  have e3:ZaL A Bp (n+1)=ZaL A Bp n++[([.inl (A n),.inl (Bp n)],.ref (4+4*n))]:=by
    unfold ZaL
    rw [List.range_succ,List.map_append]
    rfl
  have e4:Zcx (n+1)=Zcx n++[.ref (4+4*n)]:=by
    unfold Zcx
    rw [List.range_succ,List.map_append]
    rfl
  have rl:(Zcx n).length<100000:=by simp [Zcx]; omega
  have ll:(ZaL A Bp n).length<100000:=by simp [ZaL]; omega
  simp only [ZaM,Zjx] at op ⊢
  rw [e2,e3,e4,hF]
  simp [zt,ZbT,Zbf,Zbl,ZcK,ZjB,dt2,kt2,Zjs h,Zbk,ZcJ,Zp7,op,ZpP,ZdM,lc1,ZpN,ZkS h,ZpM,rl,ll,z8]
end
def Zl (ns:List Int) (first:Int) (n:Nat) (x4 x5 x6 x7 x8:Sl):List Sl:=[.val (.scr ns),.val (.int first),.val (.ref 0),.val (.int (n:Int)),x4,x5,x6,x7,x8]
section
variable {A Bp F:Nat→Int}
def zL (A Bp F:Nat→Int) (n:Nat):List D:=(List.range n).map fun j=>il (ZaT (Zca (A j) (Bp j) (F j)))
theorem ZmH {n j:Nat} (hj:j<n) (θ:Sto):ixM (.lst (zL A Bp F n)) (.int (j:Int)) θ=.ok (il (ZaT (Zca (A j) (Bp j) (F j)))) θ:=by
  rw [ZfJ,Zb9 (j:=j) (v:=il (ZaT (Zca (A j) (Bp j) (F j))))]
  unfold zL
  rw [List.getElem?_map,List.getElem?_range hj]
  rfl
def Own4 (d:List D) (x:Sl):Prop:=x=.own d∨x=.val (.lst d)
variable {ns:List Int} {first:Int} {n turn:Nat} {ph:Nat→Ph} {x4 x5 x6 x7 x8:Sl} {t:Int}
theorem frz {d:List D} {f:SM} (h:Own4 d x4) (θ:Sto):zD 4 f (Zl ns first n x4 x5 x6 x7 x8) θ=f (Zl ns first n (.val (.lst d)) x5 x6 x7 x8) θ:=by
  rcases h with rfl | rfl
  · unfold Zl; simp
  · unfold Zl; simp
theorem Zjl {ρ:List Sl} (h:ρ[2]?=some (Sl.val (.ref 0))):ZaE "Host" "sends" ZC (Zd 2) (Zc (mC (.int t)) Zk) ρ (H42 A Bp F n turn ph)=ZC [.ref 0,.int t] (H42 A Bp F n turn ph):=by
  rw [ZaM]
  rw [Zg5 (θ1:=zK (F n) (turn:Int) none (Zcx n) (ZaL A Bp n) [] (ZY 4 (zv A Bp F n ph))) (d:=.ref 0) (by simp [h]) Zlr rfl]
  simp
structure G42 (A Bp F:Nat→Int) (n:Nat):Prop where
  ok:∀j,j<n→(Zca (A j) (Bp j) (F j)).Ok
  pos:0<n
  few:n≤5
theorem ZeF (g:G42 A Bp F n) {j:Nat} (hj:turn % n=j) (hr:Zdv t (ph j)) {e:EM} (he:∀θ,e (Zl ns first n (.val (.lst (zL A Bp F n))) x5 x6 x7 x8) θ=.ok (.int (j:Int)) θ) :
    mIf (ZM (mOp neM (ZaE "Host" "sends" ZC (Zd 2) (Zc (mC (.int t)) Zk)) (mOp ixM (Zd 4) e))) (ZO (mC (.bl false))) zb (Zl ns first n (.val (.lst (zL A Bp F n))) x5 x6 x7 x8) (H42 A Bp F n turn ph)=.ok (.nx,Zl ns first n (.val (.lst (zL A Bp F n))) x5 x6 x7 x8) (H42 A Bp F n (j+1) (fun i=>if i=j then ZaD t (ph j) else ph i)):=by
  have hjn:j<n:=by rw [←hj]; exact Nat.mod_lt _ g.pos
  have sd:=Zj9 (t:=t) (ph:=ph) (turn:=turn) g.pos (by have:=g.few; omega) (by rw [hj]; exact hr) (by rw [hj]; exact g.ok j hjn)
  rw [hj] at sd
  have m:=Zjl (A:=A) (Bp:=Bp) (F:=F) (n:=n) (turn:=turn) (ph:=ph) (t:=t) (ρ:=Zl ns first n (.val (.lst (zL A Bp F n))) x5 x6 x7 x8) rfl
  have v4:(Zl ns first n (.val (.lst (zL A Bp F n))) x5 x6 x7 x8)[4]?=some (Sl.val (.lst (zL A Bp F n))):=rfl
  have da:=fun θ=>ZmH (A:=A) (Bp:=Bp) (F:=F) hjn θ
  obtain ⟨ρ,hρ⟩:∃x,x=Zl ns first n (.val (.lst (zL A Bp F n))) x5 x6 x7 x8:=⟨_,rfl⟩
  rw [←hρ] at m v4 ⊢
  simp only [←hρ] at he
  obtain ⟨dl,hdl⟩:∃x,x=zL A Bp F n:=⟨_,rfl⟩
  rw [←hdl] at v4
  simp only [←hdl] at da
  simp [m,sd,v4,he,da]
theorem Zje (g:G42 A Bp F n) (hq:∀j,j<n→quiet t (ph j)) {ρ:List Sl} (h2:ρ[2]?=some (Sl.val (.ref 0))):ZaE "Host" "sends" ZC (Zd 2) (Zc (mC (.int t)) Zk) ρ (H42 A Bp F n turn ph)=.ok (il []) (H42 A Bp F n turn ph):=by
  rw [Zjl h2,ZiC g.pos (by have:=g.few; omega) hq]
theorem ZkK {n late i k:Nat} (hi:i<n) (hk:k<n) (h:(late+i) % n=(late+k) % n):i=k:=by
  rcases Nat.lt_trichotomy i k with c | c | c
  · have:=Nat.sub_mod_eq_zero_of_mod_eq h.symm
    have e:late+k-(late+i)=k-i:=by omega
    rw [e,Nat.mod_eq_of_lt (by omega)] at this
    omega
  · exact c
  · have:=Nat.sub_mod_eq_zero_of_mod_eq h
    have e:late+i-(late+k)=i-k:=by omega
    rw [e,Nat.mod_eq_of_lt (by omega)] at this
    omega
theorem ZkL {n late j:Nat} (hl:late≤n) (hj:j<n):∃i,i<n∧(late+i) % n=j:=by
  by_cases c:late≤j
  · exact ⟨j-late,by omega,by rw [show late+(j-late)=j by omega,Nat.mod_eq_of_lt hj]⟩
  · by_cases c2:late=n
    · exact ⟨j,hj,by rw [c2,Nat.add_mod_left,Nat.mod_eq_of_lt hj]⟩
    · exact ⟨n-late+j,by omega,by rw [show late+(n-late+j)=n+j by omega,Nat.add_mod_left,Nat.mod_eq_of_lt hj]⟩
abbrev Zb4 (p:Ph):Prop:=p=some (7,1000,0)∨p=some (8,1000,0)
abbrev ZkF (p:Ph):Prop:=Zb4 p∨p=some (100000,2000,1)
theorem Zl4 {p:Ph} (h:Zb4 p):quiet 8 p:=by
  rcases h with rfl | rfl
  · show (8:Int)-7<1000; omega
  · show (8:Int)-8<1000; omega
theorem Zl3 {p:Ph} (h:Zb4 p):Zdv 100000 p∧ZaD 100000 p=some (100000,2000,1):=by
  rcases h with rfl | rfl
  · exact ⟨by show (1000:Int)≤100000-7∧(0:Int)<6; omega,by simp [ZaD]⟩
  · exact ⟨by show (1000:Int)≤100000-8∧(0:Int)<6; omega,by simp [ZaD]⟩
theorem Zl2 {p:Ph} (h:ZkF p):Zdv 200000 p∧quiet 200000 (ZaD 200000 p):=by
  rcases h with (rfl | rfl) | rfl
  · exact ⟨by show (1000:Int)≤200000-7∧(0:Int)<6; omega,by simp [ZaD,quiet]⟩
  · exact ⟨by show (1000:Int)≤200000-8∧(0:Int)<6; omega,by simp [ZaD,quiet]⟩
  · exact ⟨by show (2000:Int)≤200000-100000∧(1:Int)<6; omega,by simp [ZaD,quiet]⟩
theorem Zn0 (g:G42 A Bp F n) {some':Nat} (hs:some'≤n) (h4:Own4 (zL A Bp F n) x4):∃y4 y5,Own4 (zL A Bp F n) y4∧ZeB (Zl ns first n x4 x5 x6 (.val (.int (some':Int))) x8) (H42 A Bp F n 0 (fun _=>none))=.ok (.nx,Zl ns first n y4 y5 x6 (.val (.int (some':Int))) x8) (H42 A Bp F n some' (fun j=>if j<some' then some (7,1000,0) else none)):=by
  have hn:=g.few
  obtain ⟨ρ',θ',h,y4,y5,o4,hρ,hθ⟩:=for_rng (fi:=zX (Zc (Zd 7) Zk)) (body:=zD 4 ZeC) (k:=5) (ρ:=Zl ns first n x4 x5 x6 (.val (.int (some':Int))) x8) (θ:=H42 A Bp F n 0 (fun _=>none)) (lo:=0) (n:=some')
    (fun k ρ θ=>∃y4 y5,Own4 (zL A Bp F n) y4∧ρ=Zl ns first n y4 y5 x6 (.val (.int (some':Int))) x8∧θ=H42 A Bp F n k (fun j=>if j<k then some (7,1000,0) else none)) (by simp [Zl]; omega) ⟨x4,x5,h4,rfl,by simp⟩ (by
      rintro k ρ θ hk ⟨y4,y5,o4,rfl,rfl⟩
      have e1:(Zl ns first n y4 y5 x6 (.val (.int (some':Int))) x8).set 5 (.val (.int (0+(k:Int))))=Zl ns first n y4 (.val (.int (k:Int))) x6 (.val (.int (some':Int))) x8:=by simp [Zl]
      have tt:=ZeF (ns:=ns) (first:=first) (x5:=.val (.int (k:Int))) (x6:=x6) (x7:=.val (.int (some':Int))) (x8:=x8) (t:=7) (turn:=k) (ph:=fun j=>if j<k then some (7,1000,0) else none) g (j:=k) (Nat.mod_eq_of_lt (by omega)) (by simp [Zdv]) (e:=Zd 5) (fun θ=>by simp [Zl])
      refine ⟨_,_,by rw [e1,frz o4]; exact tt,_,_,.inr rfl,rfl,?_⟩
      congr 1
      funext i
      by_cases c:i=k
      · simp [c,ZaD]
      · by_cases c2:i<k
        · rw [if_neg c,if_pos c2,if_pos (by omega)]
        · rw [if_neg c,if_neg c2,if_neg (by omega)]) (by rintro k ρ θ ⟨y4,y5,o4,rfl,rfl⟩; simp [Zl])
  subst hρ hθ
  exact ⟨y4,y5,o4,h⟩
theorem ZnZ (g:G42 A Bp F n) {some':Nat} (hs:some'≤n) (h4:Own4 (zL A Bp F n) x4):∃y4 y5 ph',Own4 (zL A Bp F n) y4∧(∀j,j<n→Zb4 (ph' j))∧Zb7 (Zl ns first n x4 x5 x6 (.val (.int (some':Int))) x8) (H42 A Bp F n some' (fun j=>if j<some' then some (7,1000,0) else none))=.ok (.nx,Zl ns first n y4 y5 x6 (.val (.int (some':Int))) x8) (H42 A Bp F n n ph'):=by
  have hn:=g.few
  by_cases c:some'<n
  · obtain ⟨ρ',θ',h,y4,y5,o4,hρ,hθ⟩:=for_rng (fi:=zX (Zc (mOp Zci (Zd 3) (Zd 7)) Zk)) (body:=zD 4 Zc3) (k:=5) (ρ:=Zl ns first n x4 x5 x6 (.val (.int (some':Int))) x8) (θ:=H42 A Bp F n some' (fun j=>if j<some' then some (7,1000,0) else none)) (lo:=0) (n:=n-some')
      (fun k ρ θ=>∃y4 y5,Own4 (zL A Bp F n) y4∧ρ=Zl ns first n y4 y5 x6 (.val (.int (some':Int))) x8∧θ=H42 A Bp F n (some'+k) (fun j=>if j<some' then some (7,1000,0) else if j<some'+k then some (8,1000,0) else none)) (by
        have e:((n:Int)-(some':Int)).toNat=n-some':=by omega
        simp [Zl,e]; omega) ⟨x4,x5,h4,rfl,by
          congr 1
          funext j
          by_cases c:j<some'
          · simp [c]
          · simp [c]⟩ (by
        rintro k ρ θ hk ⟨y4,y5,o4,rfl,rfl⟩
        have e1:(Zl ns first n y4 y5 x6 (.val (.int (some':Int))) x8).set 5 (.val (.int (0+(k:Int))))=Zl ns first n y4 (.val (.int (k:Int))) x6 (.val (.int (some':Int))) x8:=by simp [Zl]
        have nlt:¬some'+k<some':=by omega
        have tt:=ZeF (ns:=ns) (first:=first) (x5:=.val (.int (k:Int))) (x6:=x6) (x7:=.val (.int (some':Int))) (x8:=x8) (t:=8) (turn:=some'+k) (ph:=fun j=>if j<some' then some (7,1000,0) else if j<some'+k then some (8,1000,0) else none) g (j:=some'+k) (Nat.mod_eq_of_lt (by omega)) (by simp [Zdv,nlt]) (e:=mOp ZN (Zd 7) (Zd 5)) (fun θ=>by simp [Zl])
        refine ⟨_,_,by rw [e1,frz o4]; exact tt,_,_,.inr rfl,rfl,?_⟩
        congr 1
        funext i
        by_cases c:i=some'+k
        · simp [c,ZaD,nlt]
        · by_cases c1:i<some'
          · rw [if_neg c,if_pos c1,if_pos c1]
          · by_cases c2:i<some'+k
            · rw [if_neg c,if_neg c1,if_pos c2,if_neg c1,if_pos (by omega)]
            · rw [if_neg c,if_neg c1,if_neg c2,if_neg c1,if_neg (by omega)]) (by rintro k ρ θ ⟨y4,y5,o4,rfl,rfl⟩; simp [Zl])
    subst hρ hθ
    have e2:some'+(n-some')=n:=by omega
    rw [e2] at h
    refine ⟨y4,y5,fun j=>if j<some' then some (7,1000,0) else if j<n then some (8,1000,0) else none,o4,?_,?_⟩
    rotate_left
    · have hb:ZeA=ZaU (zX (Zc (mOp Zci (Zd 3) (Zd 7)) Zk)) (gNm 5) (zD 4 Zc3):=rfl
      rw [←hb] at h
      have ct:ZM (mOp ltM (Zd 7) (Zd 3)) (Zl ns first n x4 x5 x6 (.val (.int (some':Int))) x8) (H42 A Bp F n some' (fun j=>if j<some' then some (7,1000,0) else none))=.ok true (H42 A Bp F n some' (fun j=>if j<some' then some (7,1000,0) else none)):=by simp [Zl,c]
      unfold Zb7
      rw [Zng,ct,R.bind_ok,if_pos rfl]
      exact h
    · intro j hj
      by_cases c1:j<some'
      · simp only [if_pos c1]; exact .inl rfl
      · simp only [if_neg c1,if_pos hj]; exact .inr rfl
  · have e:some'=n:=by omega
    subst e
    refine ⟨x4,x5,fun j=>if j<some' then some (7,1000,0) else none,h4,?_,?_⟩
    rotate_left
    · have ct:ZM (mOp ltM (Zd 7) (Zd 3)) (Zl ns first some' x4 x5 x6 (.val (.int (some':Int))) x8) (H42 A Bp F some' some' (fun j=>if j<some' then some (7,1000,0) else none))=.ok false (H42 A Bp F some' some' (fun j=>if j<some' then some (7,1000,0) else none)):=by simp [Zl]
      unfold Zb7
      rw [Zng,ct,R.bind_ok,if_neg (by decide),ZlC]
    · intro j hj
      simp only [if_pos hj]; exact .inl rfl
theorem ZnY (g:G42 A Bp F n) {late:Nat} (hs:late≤n) (h4:Own4 (zL A Bp F n) x4) (hp:∀j,j<n→Zb4 (ph j)):∃y4 y5 T ph',Own4 (zL A Bp F n) y4∧(∀j,j<n→ZkF (ph' j))∧T % n=late % n∧Zd1 (Zl ns first n x4 x5 x6 x7 (.val (.int (late:Int)))) (H42 A Bp F n n ph)=.ok (.nx,Zl ns first n y4 y5 x6 x7 (.val (.int (late:Int)))) (H42 A Bp F n T ph'):=by
  have hn:=g.few
  have hpos:=g.pos
  obtain ⟨ρ',θ',h,y4,y5,ph',o4,q1,q2,hρ,hθ⟩:=for_rng (fi:=zX (Zc (Zd 8) Zk)) (body:=zD 4 Zez) (k:=5) (ρ:=Zl ns first n x4 x5 x6 x7 (.val (.int (late:Int)))) (θ:=H42 A Bp F n n ph) (lo:=0) (n:=late)
    (fun k ρ θ=>∃y4 y5 ph',Own4 (zL A Bp F n) y4∧(∀j,j<n→j<k→ph' j=some (100000,2000,1))∧(∀j,j<n→k≤j→Zb4 (ph' j))∧ρ=Zl ns first n y4 y5 x6 x7 (.val (.int (late:Int)))∧θ=H42 A Bp F n (if k=0 then n else k) ph') (by simp [Zl]; omega) ⟨x4,x5,ph,h4,fun j _ h=>absurd h (Nat.not_lt_zero _),fun j hj _=>hp j hj,rfl,rfl⟩ (by
      rintro k ρ θ hk ⟨y4,y5,ph',o4,q1,q2,rfl,rfl⟩
      have e1:(Zl ns first n y4 y5 x6 x7 (.val (.int (late:Int)))).set 5 (.val (.int (0+(k:Int))))=Zl ns first n y4 (.val (.int (k:Int))) x6 x7 (.val (.int (late:Int))):=by simp [Zl]
      have md:(if k=0 then n else k) % n=k:=by
        split
        · rename_i z; rw [z,Nat.mod_self]
        · exact Nat.mod_eq_of_lt (by omega)
      obtain ⟨r1,r2⟩:=Zl3 (q2 k (by omega) (Nat.le_refl _))
      have tt:=ZeF (ns:=ns) (first:=first) (x5:=.val (.int (k:Int))) (x6:=x6) (x7:=x7) (x8:=.val (.int (late:Int))) (t:=100000) (turn:=if k=0 then n else k) (ph:=ph') g (j:=k) md r1 (e:=Zd 5) (fun θ=>by simp [Zl])
      rw [r2] at tt
      refine ⟨_,_,by rw [e1,frz o4]; exact tt,_,_,_,.inr rfl,?_,?_,rfl,by rw [if_neg (by omega)]⟩
      · intro j hj hjk
        by_cases c:j=k
        · rw [if_pos c]
        · rw [if_neg c]; exact q1 j hj (by omega)
      · intro j hj hjk
        rw [if_neg (by omega)]
        exact q2 j hj (by omega)) (by rintro k ρ θ ⟨y4,y5,ph',o4,q1,q2,rfl,rfl⟩; simp [Zl])
  subst hρ hθ
  refine ⟨y4,y5,_,ph',o4,?_,?_,h⟩
  · intro j hj
    by_cases c:j<late
    · exact .inr (q1 j hj c)
    · exact .inl (q2 j hj (by omega))
  · split
    · rename_i z; rw [z,Nat.mod_self,Nat.zero_mod]
    · rfl
theorem ZnX (g:G42 A Bp F n) {late T:Nat} (hs:late≤n) (h4:Own4 (zL A Bp F n) x4) (hT:T % n=late % n) (hp:∀j,j<n→ZkF (ph j)):∃y4 y5 T' ph',Own4 (zL A Bp F n) y4∧(∀j,j<n→quiet 200000 (ph' j))∧ZdZ (Zl ns first n x4 x5 x6 x7 (.val (.int (late:Int)))) (H42 A Bp F n T ph)=.ok (.nx,Zl ns first n y4 y5 x6 x7 (.val (.int (late:Int)))) (H42 A Bp F n T' ph'):=by
  have hn:=g.few
  have hpos:=g.pos
  obtain ⟨ρ',θ',h,y4,y5,T',ph',o4,q0,q1,q2,hρ,hθ⟩:=for_rng (fi:=zX (Zc (Zd 3) Zk)) (body:=zD 4 Zd0) (k:=5) (ρ:=Zl ns first n x4 x5 x6 x7 (.val (.int (late:Int)))) (θ:=H42 A Bp F n T ph) (lo:=0) (n:=n)
    (fun k ρ θ=>∃y4 y5 T' ph',Own4 (zL A Bp F n) y4∧T' % n=(late+k) % n∧(∀i,i<k→quiet 200000 (ph' ((late+i) % n)))∧(∀i,k≤i→i<n→ZkF (ph' ((late+i) % n)))∧ρ=Zl ns first n y4 y5 x6 x7 (.val (.int (late:Int)))∧θ=H42 A Bp F n T' ph') (by simp [Zl]; omega) ⟨x4,x5,T,ph,h4,hT,fun j h=>absurd h (Nat.not_lt_zero _),fun i _ hi=>hp _ (Nat.mod_lt _ hpos),rfl,rfl⟩ (by
      rintro k ρ θ hk ⟨y4,y5,T',ph',o4,q0,q1,q2,rfl,rfl⟩
      have e1:(Zl ns first n y4 y5 x6 x7 (.val (.int (late:Int)))).set 5 (.val (.int (0+(k:Int))))=Zl ns first n y4 (.val (.int (k:Int))) x6 x7 (.val (.int (late:Int))):=by simp [Zl]
      obtain ⟨r1,r2⟩:=Zl2 (q2 k (Nat.le_refl _) hk)
      have md:((late:Int)+(k:Int)) % (n:Int)=(((late+k) % n:Nat):Int):=by simp
      have tt:=ZeF (ns:=ns) (first:=first) (x5:=.val (.int (k:Int))) (x6:=x6) (x7:=x7) (x8:=.val (.int (late:Int))) (t:=200000) (turn:=T') (ph:=ph') g (j:=(late+k) % n) q0 r1 (e:=mOp zR (mOp ZN (Zd 8) (Zd 5)) (Zd 3)) (fun θ=>by simp [Zl,hpos])
      refine ⟨_,_,by rw [e1,frz o4]; exact tt,_,_,_,_,.inr rfl,?_,?_,?_,rfl,rfl⟩
      · rw [Nat.mod_add_mod]
        rfl
      · intro i hi
        by_cases c:(late+i) % n=(late+k) % n
        · rw [if_pos c]; exact r2
        · rw [if_neg c]
          refine q1 i ?_
          have:i≠k:=fun z=>c (by rw [z])
          omega
      · intro i hi hin
        have c:¬(late+i) % n=(late+k) % n:=fun z=>by have:=ZkK hin hk z; omega
        rw [if_neg c]
        exact q2 i (by omega) hin) (by rintro k ρ θ ⟨y4,y5,T',ph',o4,q0,q1,q2,rfl,rfl⟩; simp [Zl])
  subst hρ hθ
  refine ⟨y4,y5,T',ph',o4,?_,h⟩
  intro j hj
  obtain ⟨i,hi,rfl⟩:=ZkL hs hj
  exact q1 i hi
end
theorem law_true (ns:List Int) (hn:ns.length≤63):∃θ',Zha [.scr ns] []=.ok (.bl true) θ':=by
  obtain ⟨m0,hm0⟩:∃x,x=mix ns 0:=⟨_,rfl⟩
  have m0i:=Zmt ns 0
  rw [←hm0] at m0i
  obtain ⟨first,hfirst⟩:∃x:Int,x=if mix ns 1 % 2=0 then 4294967296-1-m0 % 200000 else m0:=⟨_,rfl⟩
  have fi:0≤first∧first≤4294967295:=by rw [hfirst]; split<;>omega
  obtain ⟨A,hA⟩:∃A:Nat→Int,A=fun (j:Nat)=>10*(j:Int)+mix ns (3+(j:Int)) % 10:=⟨_,rfl⟩
  obtain ⟨Bp,hBp⟩:∃A:Nat→Int,A=fun (j:Nat)=>mix ns (10+(j:Int)) % 65536:=⟨_,rfl⟩
  obtain ⟨F,hF⟩:∃A:Nat→Int,A=fun (j:Nat)=>(first+64000*(j:Int)) % 4294967296:=⟨_,rfl⟩
  obtain ⟨n,hnn⟩:∃n:Nat,(n:Int)=1+mix ns 2 % 5:=⟨(1+mix ns 2 % 5).toNat,by omega⟩
  have Fin:∀j,F (j+1)=Za1 (F j) 64000:=fun j=>by rw [hF]; simp only; unfold Za1; omega
  have F0:F 0=first:=by rw [hF]; simp; omega
  have An:∀i j,i<j→A i≠A j:=fun i j h=>by rw [hA]; simp only; omega
  have g:∀k,k≤n→∀j,j<k→(Zca (A j) (Bp j) (F j)).Ok:=fun k hk j hj=>by
    have r1:0≤A j∧A j≤65535:=by rw [hA]; simp only; omega
    have r2:0≤Bp j∧Bp j≤65535:=by rw [hBp]; simp only; omega
    have r3:0≤F j∧F j≤4294967295:=by rw [hF]; simp only; omega
    exact ZnS r1 r2 r3 (by omega) (by omega) (by omega) (.inr ⟨by omega,by omega,by decide⟩) ZkI
  have G:G42 A Bp F n:=⟨g n (Nat.le_refl _),by omega,by omega⟩
  have hst:mCB (mkG "Host" Zaq) (Zc (Zd 1) Zk) [.val (.scr ns),.val (.int first),.no,.no,.no,.no,.no,.no,.no] []=.ok (.ref 0) (H42 A Bp F 0 0 (fun _=>none)):=by
    have e:H42 A Bp F 0 0 (fun _=>none)=zK first 0 none [] [] [] []:=by rw [ZaM,F0]; rfl
    rw [e]
    rfl
  obtain ⟨ρ1,θ1,h1,x5,x6,hρ1,hθ1⟩:=for_rng (fi:=zX (Zc (Zd 3) Zk)) (body:=(Zq (Z7 6 (Za4 (Zc (mOp ZN (mOp Zcm (mC (.int 10)) (Zd 5)) (mOp zR (mCB Za5 (Zc (Zd 0) (Zc (mOp ZN (mC (.int 3)) (Zd 5)) Zk))) (mC (.int 10)))) (Zc (mOp zR (mCB Za5 (Zc (Zd 0) (Zc (mOp ZN (mC (.int 10)) (Zd 5)) Zk))) (mC (.int 65536))) Zk))))
    (Zq (Zc8 (ZaE "Host" "calls" zt (Zd 2) (Zc (mOp ixM (Zd 6) (mC (.int 0))) (Zc (mOp ixM (Zd 6) (mC (.int 1))) Zk))))
    (ZcD 4 (mCB Zbp (Zc (Za4 (Zc (mOp ixM (Zd 6) (mC (.int 0))) (Zc (mOp ixM (Zd 6) (mC (.int 1))) (Zc (mOp zR (mOp ZN (Zd 1) (mOp Zcm (mC (.int 64000)) (Zd 5))) (mC (.int 4294967296))) (Zc (mC (.int 0)) (Zc (mC (.int 2)) (Zc (mC (.int 64)) (Zc (mC (.int 16)) (Zc (Za4 Zk) Zk))))))))) Zk)))))) (k:=5) (ρ:=Zl ns first n (.own []) .no .no .no .no) (θ:=H42 A Bp F 0 0 (fun _=>none)) (lo:=0) (n:=n)
    (fun k ρ θ=>∃x5 x6,ρ=Zl ns first n (.own (zL A Bp F k)) x5 x6 .no .no∧θ=H42 A Bp F k 0 (fun _=>none)) (by simp [Zl]; omega) ⟨_,_,rfl,rfl⟩ (by
      rintro k ρ θ hk ⟨x5,x6,rfl,rfl⟩
      have e1:(Zl ns first n (.own (zL A Bp F k)) x5 x6 .no .no).set 5 (.val (.int (0+(k:Int))))=Zl ns first n (.own (zL A Bp F k)) (.val (.int (k:Int))) x6 .no .no:=by simp [Zl]
      have cl:=Zke (A:=A) (Bp:=Bp) (F:=F) (n:=k) (turn:=0) (by omega) (fun j hj=>An j k hj) (Fin k)
      have mb:∀x:Int,Zc5 10 x:=fun x=>.inl (by omega)
      have mb2:∀x:Int,Zc5 64000 x:=fun x=>.inl (by omega)
      have a1:10*(k:Int)+mix ns (3+(k:Int)) % 10=A k:=by rw [hA]
      have a2:mix ns (10+(k:Int)) % 65536=Bp k:=by rw [hBp]
      have a3:(first+64000*(k:Int)) % 4294967296=F k:=by rw [hF]
      have mm:∀ρ:List Sl,ρ[2]?=some (Sl.val (.ref 0))→ρ[6]?=some (Sl.val (.tup [.int (A k),.int (Bp k)]))→ZaE "Host" "calls" zt (Zd 2) (Zc (mOp ixM (Zd 6) (mC (.int 0))) (Zc (mOp ixM (Zd 6) (mC (.int 1))) Zk)) ρ (H42 A Bp F k 0 (fun _=>none))=.ok (.ref (4+4*k)) (H42 A Bp F (k+1) 0 (fun _=>none)):=by
        intro ρ h2 h6
        rw [←cl,ZaM]
        rw [Zg5 (θ1:=zK (F k) ((0:Nat):Int) none (Zcx k) (ZaL A Bp k) [] (ZY 4 (zv A Bp F k (fun _=>none)))) (d:=.ref 0) (by simp [h2]) Zlr rfl]
        simp [h6]
      have lb:=fun θ=>ZiF (g (k+1) (by omega) k (by omega)) θ
      have sd:(Zca (A k) (Bp k) (F k)).d=.tup [.int (A k),.int (Bp k),.int (F k),.int 0,.int 2,.int 64,.int 16,.tup []]:=rfl
      simp only [sd] at lb
      have dl:(zL A Bp F k).length<100000:=by simp [zL]; omega
      refine ⟨Zl ns first n (.own (zL A Bp F (k+1))) (.val (.int (k:Int))) (.val (.tup [.int (A k),.int (Bp k)])) .no .no,H42 A Bp F (k+1) 0 (fun _=>none),?_,_,_,rfl,rfl⟩
      have e2:zL A Bp F (k+1)=zL A Bp F k++[il (ZaT (Zca (A k) (Bp k) (F k)))]:=by
        unfold zL
        rw [List.range_succ,List.map_append]
        rfl
      rw [e1,e2]
      obtain ⟨dk,hdk⟩:∃x,x=zL A Bp F k:=⟨_,rfl⟩
      rw [←hdk] at dl ⊢
      unfold Zl
      simp [mb,mb2,a1,a2,mm,a3,lb,dl]) (by rintro k ρ θ ⟨x5,x6,rfl,rfl⟩; simp [Zl])
  subst hρ1 hθ1
  have hb2:ZeD (Zl ns first n (.own []) .no .no .no .no) (H42 A Bp F 0 0 (fun _=>none))=_:=h1
  obtain ⟨some',hso⟩:∃k:Nat,(k:Int)=mix ns 20 % ((n:Int)+1):=⟨(mix ns 20 % ((n:Int)+1)).toNat,by have:=Int.emod_nonneg (mix ns 20) (show (n:Int)+1≠0 by omega); omega⟩
  have so:some'≤n:=by have:=Int.emod_lt_of_pos (mix ns 20) (show 0<(n:Int)+1 by omega); omega
  obtain ⟨late,hla⟩:∃k:Nat,(k:Int)=mix ns 21 % ((n:Int)+1):=⟨(mix ns 21 % ((n:Int)+1)).toNat,by have:=Int.emod_nonneg (mix ns 21) (show (n:Int)+1≠0 by omega); omega⟩
  have la:late≤n:=by have:=Int.emod_lt_of_pos (mix ns 21) (show 0<(n:Int)+1 by omega); omega
  obtain ⟨y4,y5,o4,k1⟩:=Zn0 (ns:=ns) (first:=first) (x4:=.own (zL A Bp F n)) (x5:=x5) (x6:=x6) (x8:=.no) G so (.inl rfl)
  obtain ⟨z4,z5,ph2,p4,hp2,k2⟩:=ZnZ (ns:=ns) (first:=first) (x4:=y4) (x5:=y5) (x6:=x6) (x8:=.no) G so o4
  have k3:Zc2 (Zl ns first n z4 z5 x6 (.val (.int (some':Int))) .no) (H42 A Bp F n n ph2)=.ok (.nx,Zl ns first n z4 z5 x6 (.val (.int (some':Int))) .no) (H42 A Bp F n n ph2):=by
    have:=Zje (ph:=ph2) (turn:=n) (t:=8) G (fun j hj=>Zl4 (hp2 j hj)) (ρ:=Zl ns first n z4 z5 x6 (.val (.int (some':Int))) .no) rfl
    obtain ⟨ρ,hρ⟩:∃x,x=Zl ns first n z4 z5 x6 (.val (.int (some':Int))) .no:=⟨_,rfl⟩
    rw [←hρ] at this ⊢
    simp [Zc2,this,ZbK]
  obtain ⟨w4,w5,T,ph3,q4,hp3,hT,k4⟩:=ZnY (ns:=ns) (first:=first) (x4:=z4) (x5:=z5) (x6:=x6) (x7:=.val (.int (some':Int))) G la p4 hp2
  obtain ⟨v4,v5,T',ph4,r4,hp4,k5⟩:=ZnX (ns:=ns) (first:=first) (x4:=w4) (x5:=w5) (x6:=x6) (x7:=.val (.int (some':Int))) G la q4 hT hp3
  have k6:=Zje (ph:=ph4) (turn:=T') (t:=200000) G hp4 (ρ:=Zl ns first n v4 v5 x6 (.val (.int (some':Int))) (.val (.int (late:Int)))) rfl
  have hb1:∀r θ,Zb8 (.val (.scr ns)::.val (.int m0)::r) θ=.ok (.nx,.val (.scr ns)::.val (.int first)::r) θ:=by
    intro r θ
    rw [hfirst]
    by_cases c:mix ns 1 % 2=0
    · simp [Zb8,c]
    · simp [Zb8,c]
  refine ⟨H42 A Bp F n T' ph4,?_⟩
  have np:(0:Int)<(n:Int)+1:=by omega
  simp only [Zl] at hb2 k1 k2 k3 k4 k5 k6
  have hst':mkG "Host" Zaq [.int first] []=.ok (.ref 0) (H42 A Bp F 0 0 (fun _=>none)):=by
    have:=hst
    simp at this
    exact this
  simp [Zha,Zhm,←hm0,hb1,hst',←hnn,hb2,←hso,←hla,k1,k2,k3,k4,k5,k6,ZbK]
end
def top (i:Nat):Stmt:=PySem.Challenge.pw_wirestream_k42_each_in_turn.main.body.getD i (.Pass ⟨0,0,0,0⟩)
abbrev zs0:Stmt:=ZcG (top 3) 0
abbrev zs1:Stmt:=top 4
abbrev zs2:Stmt:=top 8
abbrev zs3:Stmt:=top 9
abbrev zs4:Stmt:=ZcG (top 25) 0
abbrev zs5:Stmt:=top 26
abbrev zs6:Stmt:=top 27
abbrev zs7:Stmt:=top 34
abbrev zs8:Stmt:=top 35
abbrev zs9:Stmt:=top 52
abbrev ZfG:Stmt:=top 53
abbrev ZfF:Stmt:=top 54
abbrev ZfE:Stmt:=top 55
abbrev ZfD:Stmt:=top 56
abbrev ZfC:Stmt:=top 57
abbrev ZfB:Stmt:=top 59
abbrev ZfA:Stmt:=top 64
abbrev Zfz:Stmt:=top 65
abbrev Zfy:Stmt:=top 66
abbrev Zfx:Stmt:=top 67
abbrev Zfw:Stmt:=top 68
abbrev Zfv:Stmt:=top 69
abbrev Zfu:Stmt:=top 70
abbrev Zft:Stmt:=top 71
abbrev Zfs:Stmt:=top 72
abbrev Zfr:Stmt:=top 73
abbrev Zfq:Stmt:=top 74
abbrev Zfp:Stmt:=top 75
abbrev Zfo:Stmt:=top 76
abbrev Zfn:Stmt:=top 77
abbrev Zfm:Stmt:=top 78
abbrev Zfl:Stmt:=top 79
abbrev Zfk:Stmt:=top 80
abbrev Zfj:Stmt:=top 81
abbrev Zfi:Stmt:=top 82
abbrev Zfh:Stmt:=ZcG (top 85) 0
abbrev Zfg:Stmt:=ZcG (top 85) 2
abbrev Zff:Stmt:=ZcG (top 85) 4
abbrev Zfe:Stmt:=top 86
abbrev Zfd:Stmt:=top 87
abbrev Zfc:Stmt:=top 89
abbrev Zfb:Stmt:=top 90
abbrev Zfa:Stmt:=top 93
abbrev Ze9:Stmt:=top 94
abbrev Ze8:Stmt:=top 95
abbrev Zdm:Stmt:=top 98
abbrev zP0:List Str:=["self"]
theorem zc0:Zp ["self"] zP0 (Zf zs0):=⟨rfl,rfl,rfl,by decide +kernel,rfl,by decide +kernel,by decide +kernel⟩
abbrev zP1:List Str:=["pile"]
theorem zc1:Zp ["pile"] zP1 (Zf zs1):=⟨rfl,rfl,rfl,by decide +kernel,rfl,by decide +kernel,by decide +kernel⟩
abbrev zP2:List Str:=["number","step"]
theorem zc2:Zp ["number","step"] zP2 (Zf zs2):=⟨rfl,rfl,rfl,by decide +kernel,rfl,by decide +kernel,by decide +kernel⟩
abbrev zP3:List Str:=["number","base"]
theorem zc3:Zp ["number","base"] zP3 (Zf zs3):=⟨rfl,rfl,rfl,by decide +kernel,rfl,by decide +kernel,by decide +kernel⟩
abbrev zP4:List Str:=["self","ours","theirs","first","active"]
theorem zc4:Zp ["self","ours","theirs","first","active"] zP4 (Zf zs4):=⟨rfl,rfl,rfl,by decide +kernel,rfl,by decide +kernel,by decide +kernel⟩
abbrev zP5:List Str:=["end","now"]
theorem zc5:Zp ["end","now"] zP5 (Zf zs5):=⟨rfl,rfl,rfl,by decide +kernel,rfl,by decide +kernel,by decide +kernel⟩
abbrev zP6:List Str:=["end"]
theorem zc6:Zp ["end"] zP6 (Zf zs6):=⟨rfl,rfl,rfl,by decide +kernel,rfl,by decide +kernel,by decide +kernel⟩
abbrev zP7:List Str:=["row"]
theorem zc7:Zp ["row","total"] zP7 (Zf zs7):=⟨rfl,rfl,rfl,by decide +kernel,rfl,by decide +kernel,by decide +kernel⟩
abbrev zP8:List Str:=["row"]
theorem zc8:Zp ["row"] zP8 (Zf zs8):=⟨rfl,rfl,rfl,by decide +kernel,rfl,by decide +kernel,by decide +kernel⟩
abbrev zP9:List Str:=["segment"]
theorem zc9:Zp ["segment","ahead","behind"] zP9 (Zf zs9):=⟨rfl,rfl,rfl,by decide +kernel,rfl,by decide +kernel,by decide +kernel⟩
abbrev Ziv:List Str:=["segment"]
theorem zc10:Zp ["segment","ports","numbers","head"] Ziv (Zf ZfG):=⟨rfl,rfl,rfl,by decide +kernel,rfl,by decide +kernel,by decide +kernel⟩
abbrev Ziu:List Str:=["head"]
theorem zc11:Zp ["head"] Ziu (Zf ZfF):=⟨rfl,rfl,rfl,by decide +kernel,rfl,by decide +kernel,by decide +kernel⟩
abbrev Zit:List Str:=["most"]
theorem zc12:Zp ["most"] Zit (Zf ZfE):=⟨rfl,rfl,rfl,by decide +kernel,rfl,by decide +kernel,by decide +kernel⟩
abbrev Zis:List Str:=["number"]
theorem zc13:Zp ["number"] Zis (Zf ZfD):=⟨rfl,rfl,rfl,by decide +kernel,rfl,by decide +kernel,by decide +kernel⟩
abbrev Zir:List Str:=["number"]
theorem zc14:Zp ["number"] Zir (Zf ZfC):=⟨rfl,rfl,rfl,by decide +kernel,rfl,by decide +kernel,by decide +kernel⟩
abbrev Ziq:List Str:=["ours","theirs","first","active"]
theorem zc15:Zp ["ours","theirs","first","active"] Ziq (Zf ZfB):=⟨rfl,rfl,rfl,by decide +kernel,rfl,by decide +kernel,by decide +kernel⟩
abbrev Zip:List Str:=["end","now"]
theorem zc16:Zp ["end","now","segment"] Zip (Zf ZfA):=⟨rfl,rfl,rfl,by decide +kernel,rfl,by decide +kernel,by decide +kernel⟩
abbrev Zio:List Str:=["end","now"]
theorem zc17:Zp ["end","now","segment"] Zio (Zf Zfz):=⟨rfl,rfl,rfl,by decide +kernel,rfl,by decide +kernel,by decide +kernel⟩
abbrev Zin:List Str:=["end"]
theorem zc18:Zp ["end","segment"] Zin (Zf Zfy):=⟨rfl,rfl,rfl,by decide +kernel,rfl,by decide +kernel,by decide +kernel⟩
abbrev Zim:List Str:=["end","now"]
theorem zc19:Zp ["end","now"] Zim (Zf Zfx):=⟨rfl,rfl,rfl,by decide +kernel,rfl,by decide +kernel,by decide +kernel⟩
abbrev Zil:List Str:=["end","now"]
theorem zc20:Zp ["end","now","data"] Zil (Zf Zfw):=⟨rfl,rfl,rfl,by decide +kernel,rfl,by decide +kernel,by decide +kernel⟩
abbrev Zik:List Str:=["end"]
theorem zc21:Zp ["end"] Zik (Zf Zfv):=⟨rfl,rfl,rfl,by decide +kernel,rfl,by decide +kernel,by decide +kernel⟩
abbrev Zij:List Str:=["end"]
theorem zc22:Zp ["end"] Zij (Zf Zfu):=⟨rfl,rfl,rfl,by decide +kernel,rfl,by decide +kernel,by decide +kernel⟩
abbrev Zii:List Str:=["end","number","flags","data"]
theorem zc23:Zp ["end","number","flags","data"] Zii (Zf Zft):=⟨rfl,rfl,rfl,by decide +kernel,rfl,by decide +kernel,by decide +kernel⟩
abbrev Zih:List Str:=["end","now"]
theorem zc24:Zp ["end","now","room"] Zih (Zf Zfs):=⟨rfl,rfl,rfl,by decide +kernel,rfl,by decide +kernel,by decide +kernel⟩
abbrev Zig:List Str:=["end","now"]
theorem zc25:Zp ["end","now"] Zig (Zf Zfr):=⟨rfl,rfl,rfl,by decide +kernel,rfl,by decide +kernel,by decide +kernel⟩
abbrev Zif:List Str:=["end"]
theorem zc26:Zp ["end"] Zif (Zf Zfq):=⟨rfl,rfl,rfl,by decide +kernel,rfl,by decide +kernel,by decide +kernel⟩
abbrev Zie:List Str:=["end"]
theorem zc27:Zp ["end"] Zie (Zf Zfp):=⟨rfl,rfl,rfl,by decide +kernel,rfl,by decide +kernel,by decide +kernel⟩
abbrev Zid:List Str:=["end"]
theorem zc28:Zp ["end"] Zid (Zf Zfo):=⟨rfl,rfl,rfl,by decide +kernel,rfl,by decide +kernel,by decide +kernel⟩
abbrev Zic:List Str:=["end"]
theorem zc29:Zp ["end"] Zic (Zf Zfn):=⟨rfl,rfl,rfl,by decide +kernel,rfl,by decide +kernel,by decide +kernel⟩
abbrev Zib:List Str:=["end","room"]
theorem zc30:Zp ["end","room"] Zib (Zf Zfm):=⟨rfl,rfl,rfl,by decide +kernel,rfl,by decide +kernel,by decide +kernel⟩
abbrev Zia:List Str:=["end","room"]
theorem zc31:Zp ["end","room","number","many","place"] Zia (Zf Zfl):=⟨rfl,rfl,rfl,by decide +kernel,rfl,by decide +kernel,by decide +kernel⟩
abbrev Zh9:List Str:=["end"]
theorem zc32:Zp ["end","number"] Zh9 (Zf Zfk):=⟨rfl,rfl,rfl,by decide +kernel,rfl,by decide +kernel,by decide +kernel⟩
abbrev Zh8:List Str:=["end","now"]
theorem zc33:Zp ["end","now"] Zh8 (Zf Zfj):=⟨rfl,rfl,rfl,by decide +kernel,rfl,by decide +kernel,by decide +kernel⟩
abbrev Zh7:List Str:=["end"]
theorem zc34:Zp ["end"] Zh7 (Zf Zfi):=⟨rfl,rfl,rfl,by decide +kernel,rfl,by decide +kernel,by decide +kernel⟩
abbrev Zh6:List Str:=["self","first"]
theorem zc35:Zp ["self","first"] Zh6 (Zf Zfh):=⟨rfl,rfl,rfl,by decide +kernel,rfl,by decide +kernel,by decide +kernel⟩
abbrev Zh5:List Str:=["self","ours","theirs"]
theorem zc36:Zp ["self","ours","theirs"] Zh5 (Zf Zfg):=⟨rfl,rfl,rfl,by decide +kernel,rfl,by decide +kernel,by decide +kernel⟩
abbrev Zh4:List Str:=["self","now"]
theorem zc37:Zp ["self","now","row","many","step","place"] Zh4 (Zf Zff):=⟨rfl,rfl,rfl,by decide +kernel,rfl,by decide +kernel,by decide +kernel⟩
abbrev Zh3:List Str:=["host","ours","theirs"]
theorem zc38:Zp ["host","ours","theirs","end"] Zh3 (Zf Zfe):=⟨rfl,rfl,rfl,by decide +kernel,rfl,by decide +kernel,by decide +kernel⟩
abbrev Zh2:List Str:=["host","ours","theirs","active"]
theorem zc39:Zp ["host","ours","theirs","active","end"] Zh2 (Zf Zfd):=⟨rfl,rfl,rfl,by decide +kernel,rfl,by decide +kernel,by decide +kernel⟩
abbrev Zh1:List Str:=["_law_script","_law_k"]
theorem Zpi:Zp ["_law_script","_law_k"] Zh1 (Zf Zfc):=⟨rfl,rfl,rfl,by decide +kernel,rfl,by decide +kernel,by decide +kernel⟩
abbrev Zh0:List Str:=["_law_script","_law_k"]
theorem zc41:Zp ["_law_script","_law_k","_law_number"] Zh0 (Zf Zfb):=⟨rfl,rfl,rfl,by decide +kernel,rfl,by decide +kernel,by decide +kernel⟩
abbrev ZhZ:List Str:=["_law_number"]
theorem Zph:Zp ["_law_number"] ZhZ (Zf Zfa):=⟨rfl,rfl,rfl,by decide +kernel,rfl,by decide +kernel,by decide +kernel⟩
abbrev ZhY:List Str:=["_law_row"]
theorem zc43:Zp ["_law_row","_law_total","_law_k"] ZhY (Zf Ze9):=⟨rfl,rfl,rfl,by decide +kernel,rfl,by decide +kernel,by decide +kernel⟩
abbrev ZhX:List Str:=["_law_segment"]
theorem zc44:Zp ["_law_segment","_law_row","_law_number"] ZhX (Zf Ze8):=⟨rfl,rfl,rfl,by decide +kernel,rfl,by decide +kernel,by decide +kernel⟩
abbrev ZhW:List Str:=["_law_script"]
theorem zc45:Zp ["_law_script","_law_first","_law_host","_law_many","_law_due","_law_k","_law_ports","_law_some","_law_late"] ZhW (Zf Zdm):=⟨rfl,rfl,rfl,by decide +kernel,rfl,by decide +kernel,by decide +kernel⟩
structure Glb (K:PySem.W.Frag) (mg:Str→Option Value):Prop where
  zc0:∃t,mg "ACK"=some (.int 16 t)
  zc1:∃t,mg "ANSWER"=some (.int 3 t)
  zc2:∃t,mg "CLOSED"=some (.str "closed" t)
  zc3:∃t,mg "CLOSE_WAIT"=some (.str "close wait" t)
  zc4:∃t,mg "CLOSING"=some (.str "closing" t)
  zc5:∃t,mg "DATA"=some (.int 7 t)
  zc6:∃t,mg "FIN"=some (.int 1 t)
  zc7:∃t,mg "FIRST_WAIT"=some (.int 1000 t)
  zc8:∃t,mg "FLAGS"=some (.int 4 t)
  zc9:∃t,mg "GOAL"=some (.int 1 t)
  zc10:∃t,mg "GREATEST_DATA"=some (.int 16 t)
  zc11:∃t,mg "GREATEST_WORD"=some (.int 65535 t)
  zc12:∃t,mg "HALF_ROUND"=some (.int 2147483648 t)
  zc13:∃t,mg "LAST_ACK"=some (.str "last ack" t)
  zc14:∃t,mg "LAST_WAIT"=some (.int 120000 t)
  zc15:∃t,mg "LISTEN"=some (.str "listen" t)
  zc16:∃t,mg "LONGEST_WAIT"=some (.int 16000 t)
  zc17:∃t,mg "LONG_HEAD"=some (.int 24 t)
  zc18:∃t,mg "MOST"=some (.int 6 t)
  zc19:∃t,mg "MOST_TRIES"=some (.int 6 t)
  zc20:∃t,mg "MOST_UNTOLD"=some (.int 12 t)
  zc21:∃t,mg "NO_ERROR"=some (.str "" t)
  zc22:∃t,mg "NUMBER"=some (.int 2 t)
  zc23:∃t,mg "OPEN"=some (.str "open" t)
  zc24:∃t,mg "PSH"=some (.int 8 t)
  zc25:∃t,mg "ROOM"=some (.int 64 t)
  zc26:∃t,mg "ROUND"=some (.int 4294967296 t)
  zc27:∃t,mg "SHORT_HEAD"=some (.int 20 t)
  zc28:∃t,mg "SOURCE"=some (.int 0 t)
  zc29:∃t,mg "STEP_OF_FIRSTS"=some (.int 64000 t)
  zc30:∃t,mg "SYN"=some (.int 2 t)
  zc31:∃t,mg "SYN_COME"=some (.str "syn come" t)
  zc32:∃t,mg "SYN_SENT"=some (.str "syn sent" t)
  zc33:∃t,mg "TIME"=some (.str "time" t)
  zc34:∃t,mg "TIME_WAIT"=some (.str "time wait" t)
  zc35:∃t,mg "WAIT_ONE"=some (.str "wait one" t)
  zc36:∃t,mg "WINDOW"=some (.int 5 t)
  zc37:∃t,mg "WORDS"=some (.int 65536 t)
  b_int:mg "int"=none
  b_len:mg "len"=none
  b_list:mg "list"=none
  b_min:mg "min"=none
  b_range:mg "range"=none
  b_sum:mg "sum"=none
  b_tuple:mg "tuple"=none
  k_End:Cls K (ZU mg "End")
  k_Host:Cls K (ZU mg "Host")
  k_Pile:Cls K (ZU mg "Pile")
  zn0:NoAttr K (ZU mg "End") "behind"
  zn1:NoAttr K (ZU mg "End") "come"
  zn2:NoAttr K (ZU mg "End") "early"
  zn3:NoAttr K (ZU mg "End") "early_fin"
  zn4:NoAttr K (ZU mg "End") "error"
  zn5:NoAttr K (ZU mg "End") "first"
  zn6:NoAttr K (ZU mg "End") "has_closed"
  zn7:NoAttr K (ZU mg "End") "most"
  zn8:NoAttr K (ZU mg "End") "nxt"
  zn9:NoAttr K (ZU mg "End") "ours"
  zn10:NoAttr K (ZU mg "End") "owed_reset"
  zn11:NoAttr K (ZU mg "End") "owes_answer"
  zn12:NoAttr K (ZU mg "End") "owes_syn"
  zn13:NoAttr K (ZU mg "End") "probes"
  zn14:NoAttr K (ZU mg "End") "rcv"
  zn15:NoAttr K (ZU mg "End") "since"
  zn16:NoAttr K (ZU mg "End") "state"
  zn17:NoAttr K (ZU mg "End") "theirs"
  zn18:NoAttr K (ZU mg "End") "told"
  zn19:NoAttr K (ZU mg "End") "told_by"
  zn20:NoAttr K (ZU mg "End") "tries"
  zn21:NoAttr K (ZU mg "End") "una"
  zn22:NoAttr K (ZU mg "End") "wait"
  zn23:NoAttr K (ZU mg "End") "wnd"
  zn24:NoAttr K (ZU mg "End") "written"
  zn25:NoAttr K (ZU mg "Host") "coming_first"
  zn26:NoAttr K (ZU mg "Host") "ends"
  zn27:NoAttr K (ZU mg "Host") "latest"
  zn28:NoAttr K (ZU mg "Host") "owed_reset"
  zn29:NoAttr K (ZU mg "Host") "turn"
  zn30:NoAttr K (ZU mg "Host") "untaken"
  zn31:NoAttr K (ZU mg "Pile") "row"
section
variable {P:Program} {w:World} {K:PySem.W.Frag} {mg:Str→Option Value} {base:Heap}
theorem zo0 (D:Mk0 K mg "Pile" "Pile.__init__" zs0 zP0) (g:Glb K mg) :MMk P w K mg base 1 "Pile" zW:=
  mk0 D zc0 1 1 rfl rfl fun f cdv A outer s H E hr=>(Zi (Zw (Zs ⟨g.k_Pile,g.zn31⟩) (Za 0) (zu Zg)))
theorem zo1 (D:Zu K mg "room" zs1 zP1) (g:Glb K mg) :Zx P w K mg base 1 "room" Zdw:=
  zq D zc1 1 1 rfl rfl fun f cdv A outer s H E hr=>(Zi (Zt (Zm ZbG (Zy g.zc25) (zx Zeu g.b_len PySem.boot_len (Zb (Zo (Zs ⟨g.k_Pile,g.zn31⟩) (Za 0)) Zg)))))
theorem zo2 (D:Zu K mg "plus" zs2 zP2) (g:Glb K mg) :Zx P w K mg base 1 "plus" Zad:=
  zq D zc2 2 2 rfl rfl fun f cdv A outer s H E hr=>(Zi (Zt (Zm zC (Zm ZI (Za 0) (Za 1)) (Zy g.zc26))))
theorem zo3 (D:Zu K mg "offset" zs3 zP3) (g:Glb K mg) :Zx P w K mg base 1 "offset" zE:=
  zq D zc3 2 2 rfl rfl fun f cdv A outer s H E hr=>(Zi (Zt (Zm ZbG (Zm zC (Zm ZI (Zm ZbG (Za 0) (Za 1)) (Zy g.zc12)) (Zy g.zc26)) (Zy g.zc12))))
theorem zo4 (D:Mk0 K mg "End" "End.__init__" zs4 zP4) (g:Glb K mg) (zd0:MMk P w K mg base 1 "Pile" zW) (zd2:Zx P w K mg base 1 "plus" Zad):MMk P w K mg base 3 "End" Zaf:=
  mk0 D zc4 5 5 rfl rfl fun f cdv A outer s H E hr=>(Ze (Zw (Zs ⟨g.k_End,g.zn9⟩) (Za 0) (Za 1))
  (Ze (Zw (Zs ⟨g.k_End,g.zn17⟩) (Za 0) (Za 2))
  (Ze (Zw (Zs ⟨g.k_End,g.zn16⟩) (Za 0) (Zbo (zQ (Za 4)) (ZW g.zc32) (ZW g.zc15)))
  (Ze (Zw (Zs ⟨g.k_End,g.zn4⟩) (Za 0) (ZW g.zc21))
  (Ze (Zw (Zs ⟨g.k_End,g.zn5⟩) (Za 0) (Za 3))
  (Ze (Zw (Zs ⟨g.k_End,g.zn21⟩) (Za 0) (Za 3))
  (Ze (Zw (Zs ⟨g.k_End,g.zn8⟩) (Za 0) (Za 3))
  (Ze (Zw (Zs ⟨g.k_End,g.zn14⟩) (Za 0) Zh)
  (Ze (Zw (Zs ⟨g.k_End,g.zn23⟩) (Za 0) Zh)
  (Ze (Zw (Zs ⟨g.k_End,g.zn18⟩) (Za 0) Zh)
  (Ze (Zw (Zs ⟨g.k_End,g.zn19⟩) (Za 0) Zh)
  (Ze (Zw (Zs ⟨g.k_End,g.zn7⟩) (Za 0) (Zy g.zc20))
  (Ze (Zw (Zs ⟨g.k_End,g.zn24⟩) (Za 0) (Zf4 zd0 hr (by decide)))
  (Ze (Zw (Zs ⟨g.k_End,g.zn1⟩) (Za 0) (Zf4 zd0 hr (by decide)))
  (Ze (Zw (Zs ⟨g.k_End,g.zn2⟩) (Za 0) Zf5)
  (Ze (Zw (Zs ⟨g.k_End,g.zn3⟩) (Za 0) zo)
  (Ze (Zw (Zs ⟨g.k_End,g.zn6⟩) (Za 0) Zau)
  (Ze (Zw (Zs ⟨g.k_End,g.zn0⟩) (Za 0) (Zj zd2 hr (by decide) (Zb (Za 3) (Zb Zh Zg))))
  (Ze (Zw (Zs ⟨g.k_End,g.zn10⟩) (Za 0) zo)
  (Ze (Zw (Zs ⟨g.k_End,g.zn12⟩) (Za 0) Zau)
  (Ze (Zw (Zs ⟨g.k_End,g.zn11⟩) (Za 0) Zau)
  (Ze (Zw (Zs ⟨g.k_End,g.zn13⟩) (Za 0) Zau)
  (Ze (Zw (Zs ⟨g.k_End,g.zn15⟩) (Za 0) Zh)
  (Ze (Zw (Zs ⟨g.k_End,g.zn22⟩) (Za 0) (Zy g.zc7))
  (Zi (Zw (Zs ⟨g.k_End,g.zn20⟩) (Za 0) Zh))))))))))))))))))))))))))
theorem zo5 (D:Zu K mg "start_timer" zs5 zP5) (g:Glb K mg) :Zx P w K mg base 1 "start_timer" Z2:=
  zq D zc5 2 2 rfl rfl fun f cdv A outer s H E hr=>(Ze (Zw (Zs ⟨g.k_End,g.zn15⟩) (Za 0) (Za 1))
  (Ze (Zw (Zs ⟨g.k_End,g.zn22⟩) (Za 0) (Zy g.zc7))
  (Zi (Zw (Zs ⟨g.k_End,g.zn20⟩) (Za 0) Zh))))
theorem zo6 (D:Zu K mg "our_window" zs6 zP6) (g:Glb K mg) (zd1:Zx P w K mg base 1 "room" Zdw):Zx P w K mg base 2 "our_window" z7:=
  zq D zc6 1 1 rfl rfl fun f cdv A outer s H E hr=>(Zi (Zt (Zj zd1 hr (by decide) (Zb (Zo (Zs ⟨g.k_End,g.zn1⟩) (Za 0)) Zg))))
theorem zo7 (D:Zu K mg "folded" zs7 zP7) (g:Glb K mg) :Zx P w K mg base 1 "folded" ZbF:=
  zq D zc7 1 2 rfl rfl fun f cdv A outer s H E hr=>(Ze (ZD 1 zc7.nd (Zm ZI (Zm Zce Zh (zx Zlx g.b_sum PyProof.Rows.boot_sum (Zb (Zeo (Za 0) ZbZ ZbZ (Zal Zh)) Zg))) (zx Zlx g.b_sum PyProof.Rows.boot_sum (Zb (Zeo (Za 0) (Zal Zh) ZbZ (Zal Zh)) Zg))))
  (Ze (Zf0 200 PassesOwn.never (ZH Zgq (Za 1) (Zy g.zc11)) (Zi (ZD 1 zc7.nd (Zm ZI (Zm zC (Za 1) (Zy g.zc37)) (Zm Zc7 (Za 1) (Zy g.zc37))))))
  (Zi (Zt (Za 1)))))
theorem zo8 (D:Zu K mg "sum_of" zs8 zP8) (g:Glb K mg) (zd7:Zx P w K mg base 1 "folded" ZbF):Zx P w K mg base 2 "sum_of" ZbD:=
  zq D zc8 1 1 rfl rfl fun f cdv A outer s H E hr=>(Zi (Zt (Zm ZbG (Zy g.zc11) (Zj zd7 hr (by decide) (Zb (Za 0) Zg)))))
theorem Zpf (D:Zu K mg "byte_of_head" ZfF Ziu) (g:Glb K mg) :Zx P w K mg base 1 "byte_of_head" zF:=
  zq D zc11 1 1 rfl rfl fun f cdv A outer s H E hr=>(Zi (Zt (Zm Zce Zh (Zm Zc7 (Za 0) Zh))))
theorem Zpd (D:Zu K mg "two_bytes" ZfD Zis) (g:Glb K mg) :Zx P w K mg base 1 "two_bytes" ZQ:=
  zq D zc13 1 1 rfl rfl fun f cdv A outer s H E hr=>(Zi (Zt (zu (Zb (Zm zC (Zm Zc7 (Za 0) Zh) Zh) (Zb (Zm zC (Za 0) Zh) Zg)))))
theorem Zpc (D:Zu K mg "four_bytes" ZfC Zir) (g:Glb K mg) (zd13:Zx P w K mg base 1 "two_bytes" ZQ):Zx P w K mg base 2 "four_bytes" zH:=
  zq D zc14 1 1 rfl rfl fun f cdv A outer s H E hr=>(Zi (Zt (Zm ZI (Zj zd13 hr (by decide) (Zb (Zm Zc7 (Za 0) Zh) Zg)) (Zj zd13 hr (by decide) (Zb (Za 0) Zg)))))
theorem Zpg (D:Zu K mg "bytes_ahead_of_sum" ZfG Ziv) (g:Glb K mg) (zd11:Zx P w K mg base 1 "byte_of_head" zF) (zd14:Zx P w K mg base 2 "four_bytes" zH) (zd13:Zx P w K mg base 1 "two_bytes" ZQ):Zx P w K mg base 3 "bytes_ahead_of_sum" Z5:=
  zq D zc10 1 4 rfl rfl fun f cdv A outer s H E hr=>(Ze (ZD 1 zc10.nd (Zm ZI (Zj zd13 hr (by decide) (Zb (za zc (Za 0) (Zy g.zc28)) Zg)) (Zj zd13 hr (by decide) (Zb (za zc (Za 0) (Zy g.zc9)) Zg))))
  (Ze (ZD 2 zc10.nd (Zm ZI (Zj zd14 hr (by decide) (Zb (za zc (Za 0) (Zy g.zc22)) Zg)) (Zj zd14 hr (by decide) (Zb (za zc (Za 0) (Zy g.zc1)) Zg))))
  (Ze (ZD 3 zc10.nd (Zbo (ZH (ZcT hr.units) (za zc (Za 0) (Zy g.zc18)) Zh) (Zy g.zc27) (Zy g.zc17)))
  (Zi (Zt (Zm ZI (Zm ZI (Zm ZI (Za 1) (Za 2)) (zu (Zb (Zj zd11 hr (by decide) (Zb (Za 3) Zg)) (Zb (za zc (Za 0) (Zy g.zc8)) Zg)))) (Zj zd13 hr (by decide) (Zb (za zc (Za 0) (Zy g.zc36)) Zg))))))))
theorem Zpe (D:Zu K mg "bytes_of_most" ZfE Zit) (g:Glb K mg) (zd13:Zx P w K mg base 1 "two_bytes" ZQ):Zx P w K mg base 2 "bytes_of_most" zw:=
  zq D zc12 1 1 rfl rfl fun f cdv A outer s H E hr=>(Zi (Zt (Zbo (ZH (ZcT hr.units) (Za 0) Zh) (zu Zg) (Zm ZI (zu (Zb Zh (Zb Zh Zg))) (Zj zd13 hr (by decide) (Zb (Za 0) Zg))))))
theorem zo9 (D:Zu K mg "put" zs9 zP9) (g:Glb K mg) (zd10:Zx P w K mg base 3 "bytes_ahead_of_sum" Z5) (zd12:Zx P w K mg base 2 "bytes_of_most" zw) (zd8:Zx P w K mg base 2 "sum_of" ZbD) (zd13:Zx P w K mg base 1 "two_bytes" ZQ):Zx P w K mg base 4 "put" Zdx:=
  zq D zc9 1 3 rfl rfl fun f cdv A outer s H E hr=>(Ze (ZD 1 zc9.nd (Zj zd10 hr (by decide) (Zb (Za 0) Zg)))
  (Ze (ZD 2 zc9.nd (Zm ZI (Zm ZI (zu (Zb Zh (Zb Zh Zg))) (Zj zd12 hr (by decide) (Zb (za zc (Za 0) (Zy g.zc18)) Zg))) (Zb0 ZjV g.b_list PyProof.Rows.boot_list (Zb (za zc (Za 0) (Zy g.zc5)) Zg))))
  (Zi (Zt (Zm ZI (Zm ZI (Za 1) (Zj zd13 hr (by decide) (Zb (Zj zd8 hr (by decide) (Zb (Zm ZI (Zm ZI (Za 1) (zu (Zb Zh (Zb Zh Zg)))) (Za 2)) Zg)) Zg))) (Za 2))))))
theorem Zpb (D:Zu K mg "opened" ZfB Ziq) (g:Glb K mg) (zd4:MMk P w K mg base 3 "End" Zaf):Zx P w K mg base 5 "opened" ZbE:=
  zq D zc15 4 4 rfl rfl fun f cdv A outer s H E hr=>(Zi (Zt (Zg6 zd4 hr (by decide) (Zb (Za 0) (Zb (Za 1) (Zb (Za 2) (Zb (Za 3) Zg)))))))
theorem Zo5 (D:Zu K mg "most_at_once" Zfv Zik) (g:Glb K mg) :Zx P w K mg base 1 "most_at_once" ze:=
  zq D zc21 1 1 rfl rfl fun f cdv A outer s H E hr=>(Zi (Zt (zx Zhi g.b_min PyProof.Rows.boot_min (Zb (Zo (Zs ⟨g.k_End,g.zn7⟩) (Za 0)) (Zb (Zy g.zc10) Zg)))))
theorem Zo4 (D:Zu K mg "paid_syn" Zfu Zij) (g:Glb K mg) :Zx P w K mg base 1 "paid_syn" zS:=
  zq D zc22 1 1 rfl rfl fun f cdv A outer s H E hr=>(Ze (Zw (Zs ⟨g.k_End,g.zn12⟩) (Za 0) Zau)
  (Ze (zi (ZH (ZcT hr.units) (Zo (Zs ⟨g.k_End,g.zn16⟩) (Za 0)) (ZW g.zc32)) (Zi (Zt (zG (Zb (Zo (Zs ⟨g.k_End,g.zn9⟩) (Za 0)) (Zb (Zo (Zs ⟨g.k_End,g.zn17⟩) (Za 0)) (Zb (Zo (Zs ⟨g.k_End,g.zn5⟩) (Za 0)) (Zb Zh (Zb (Zy g.zc30) (Zb (Zy g.zc25) (Zb (Zy g.zc10) (Zb (zG Zg) Zg))))))))))) ZJ)
  (Zi (Zt (zG (Zb (Zo (Zs ⟨g.k_End,g.zn9⟩) (Za 0)) (Zb (Zo (Zs ⟨g.k_End,g.zn17⟩) (Za 0)) (Zb (Zo (Zs ⟨g.k_End,g.zn5⟩) (Za 0)) (Zb (Zo (Zs ⟨g.k_End,g.zn14⟩) (Za 0)) (Zb (Zm ZI (Zy g.zc30) (Zy g.zc0)) (Zb (Zy g.zc25) (Zb (Zy g.zc10) (Zb (zG Zg) Zg)))))))))))))
theorem Zo3 (D:Zu K mg "segment_of" Zft Zii) (g:Glb K mg) (zd6:Zx P w K mg base 2 "our_window" z7):Zx P w K mg base 3 "segment_of" ZV:=
  zq D zc23 4 4 rfl rfl fun f cdv A outer s H E hr=>(Zi (Zt (zG (Zb (Zo (Zs ⟨g.k_End,g.zn9⟩) (Za 0)) (Zb (Zo (Zs ⟨g.k_End,g.zn17⟩) (Za 0)) (Zb (Za 1) (Zb (Zo (Zs ⟨g.k_End,g.zn14⟩) (Za 0)) (Zb (Zm ZI (Za 2) (Zy g.zc0)) (Zb (Zj zd6 hr (by decide) (Zb (Za 0) Zg)) (Zb Zh (Zb (Zb0 Zk0 g.b_tuple PyProof.Rows.boot_tuple (Zb (Za 3) Zg)) Zg)))))))))))
theorem Zo6 (D:Zu K mg "again" Zfw Zil) (g:Glb K mg) (zd21:Zx P w K mg base 1 "most_at_once" ze) (zd3:Zx P w K mg base 1 "offset" zE) (zd22:Zx P w K mg base 1 "paid_syn" zS) (zd23:Zx P w K mg base 3 "segment_of" ZV):Zx P w K mg base 4 "again" ZaI:=
  zq D zc20 2 3 rfl rfl fun f cdv A outer s H E hr=>(Ze (zi (ZH (ZcT hr.units) (Zo (Zs ⟨g.k_End,g.zn20⟩) (Za 0)) (Zy g.zc19)) (Ze (Zw (Zs ⟨g.k_End,g.zn16⟩) (Za 0) (ZW g.zc2))
    (Ze (Zw (Zs ⟨g.k_End,g.zn4⟩) (Za 0) (ZW g.zc33))
    (Zi (Zt zo)))) ZJ)
  (Ze (Zw (Zs ⟨g.k_End,g.zn20⟩) (Za 0) (Zm ZI (Zo (Zs ⟨g.k_End,g.zn20⟩) (Za 0)) Zh))
  (Ze (Zw (Zs ⟨g.k_End,g.zn22⟩) (Za 0) (zx Zhi g.b_min PyProof.Rows.boot_min (Zb (Zm Zce Zh (Zo (Zs ⟨g.k_End,g.zn22⟩) (Za 0))) (Zb (Zy g.zc16) Zg))))
  (Ze (Zw (Zs ⟨g.k_End,g.zn15⟩) (Za 0) (Za 1))
  (Ze (zi (ZH Zjc (Zo (Zs ⟨g.k_End,g.zn16⟩) (Za 0)) (zG (Zb (ZW g.zc32) (Zb (ZW g.zc31) Zg))) (by with_unfolding_all rfl)) (Zi (Zt (Zj zd22 hr (by decide) (Zb (Za 0) Zg)))) ZJ)
  (Ze (ZD 2 zc20.nd (ZbJ (Zo (Zs ⟨g.k_Pile,g.zn31⟩) (Zo (Zs ⟨g.k_End,g.zn24⟩) (Za 0))) ZbZ (Zal (zx Zhi g.b_min PyProof.Rows.boot_min (Zb (Zj zd3 hr (by decide) (Zb (Zo (Zs ⟨g.k_End,g.zn8⟩) (Za 0)) (Zb (Zo (Zs ⟨g.k_End,g.zn21⟩) (Za 0)) Zg))) (Zb (Zj zd21 hr (by decide) (Zb (Za 0) Zg)) Zg))))))
  (Zi (Zt (Zj zd23 hr (by decide) (Zb (Za 0) (Zb (Zo (Zs ⟨g.k_End,g.zn21⟩) (Za 0)) (Zb (Zbo (ZH Zgq (zx Zeu g.b_len PySem.boot_len (Zb (Za 2) Zg)) Zh) Zh (Zy g.zc6)) (Zb (Za 2) Zg)))))))))))))
theorem ZoS (D:Zu K mg "going_as_answer" Zfi Zh7) (g:Glb K mg) (zd23:Zx P w K mg base 3 "segment_of" ZV):Zx P w K mg base 4 "going_as_answer" Z6:=
  zq D zc34 1 1 rfl rfl fun f cdv A outer s H E hr=>(Ze (zi (ZdD (zQ (Zo (Zs ⟨g.k_End,g.zn11⟩) (Za 0)))) (Zi (Zt zo)) ZJ)
  (Ze (Zw (Zs ⟨g.k_End,g.zn11⟩) (Za 0) Zau)
  (Zi (Zt (Zj zd23 hr (by decide) (Zb (Za 0) (Zb (Zo (Zs ⟨g.k_End,g.zn8⟩) (Za 0)) (Zb Zh (Zb (zu Zg) Zg)))))))))
theorem ZoY (D:Zu K mg "unsent" Zfo Zid) (g:Glb K mg) (zd3:Zx P w K mg base 1 "offset" zE):Zx P w K mg base 2 "unsent" zO:=
  zq D zc28 1 1 rfl rfl fun f cdv A outer s H E hr=>(Zi (Zt (Zj zd3 hr (by decide) (Zb (Zo (Zs ⟨g.k_End,g.zn0⟩) (Za 0)) (Zb (Zo (Zs ⟨g.k_End,g.zn8⟩) (Za 0)) Zg)))))
theorem ZoZ (D:Zu K mg "has_new_data" Zfp Zie) (g:Glb K mg) (zd28:Zx P w K mg base 2 "unsent" zO):Zx P w K mg base 3 "has_new_data" zf:=
  zq D zc27 1 1 rfl rfl fun f cdv A outer s H E hr=>(Zi (Zt (Zjo (Zcn Zjc (Zo (Zs ⟨g.k_End,g.zn16⟩) (Za 0)) (zG (Zb (ZW g.zc23) (Zb (ZW g.zc35) (Zb (ZW g.zc3) (Zb (ZW g.zc4) (Zb (ZW g.zc13) Zg)))))) (by with_unfolding_all rfl)) (Zgr (Zcn Zgq (Zj zd28 hr (by decide) (Zb (Za 0) Zg)) Zh)))))
theorem ZoX (D:Zu K mg "has_new_fin" Zfn Zic) (g:Glb K mg) (zd28:Zx P w K mg base 2 "unsent" zO):Zx P w K mg base 3 "has_new_fin" zP:=
  zq D zc29 1 1 rfl rfl fun f cdv A outer s H E hr=>(Zi (Zt (Zjo (Zcn Zjc (Zo (Zs ⟨g.k_End,g.zn16⟩) (Za 0)) (zG (Zb (ZW g.zc35) (Zb (ZW g.zc4) (Zb (ZW g.zc13) Zg)))) (by with_unfolding_all rfl)) (Zgr (Zcn (ZcT hr.units) (Zj zd28 hr (by decide) (Zb (Za 0) Zg)) Zh)))))
theorem Zo0 (D:Zu K mg "has_more" Zfq Zif) (g:Glb K mg) (zd27:Zx P w K mg base 3 "has_new_data" zf) (zd29:Zx P w K mg base 3 "has_new_fin" zP):Zx P w K mg base 4 "has_more" zT:=
  zq D zc26 1 1 rfl rfl fun f cdv A outer s H E hr=>(Zi (Zt (ZnW (Zj zd27 hr (by decide) (Zb (Za 0) Zg)) (Zgr (Zj zd29 hr (by decide) (Zb (Za 0) Zg))))))
theorem ZoV (D:Zu K mg "new_data" Zfl Zia) (g:Glb K mg) (zd21:Zx P w K mg base 1 "most_at_once" ze) (zd3:Zx P w K mg base 1 "offset" zE) (zd2:Zx P w K mg base 1 "plus" Zad) (zd23:Zx P w K mg base 3 "segment_of" ZV) (zd28:Zx P w K mg base 2 "unsent" zO):Zx P w K mg base 4 "new_data" Zae:=
  zq D zc31 2 5 rfl rfl fun f cdv A outer s H E hr=>(Ze (ZD 2 zc31.nd (Zo (Zs ⟨g.k_End,g.zn8⟩) (Za 0)))
  (Ze (ZD 3 zc31.nd (zx Zhi g.b_min PyProof.Rows.boot_min (Zb (Zj zd21 hr (by decide) (Zb (Za 0) Zg)) (Zb (Zj zd28 hr (by decide) (Zb (Za 0) Zg)) (Zb (Za 1) Zg)))))
  (Ze (ZD 4 zc31.nd (Zj zd3 hr (by decide) (Zb (Za 2) (Zb (Zo (Zs ⟨g.k_End,g.zn21⟩) (Za 0)) Zg))))
  (Ze (Zw (Zs ⟨g.k_End,g.zn8⟩) (Za 0) (Zj zd2 hr (by decide) (Zb (Za 2) (Zb (Za 3) Zg))))
  (Zi (Zt (Zj zd23 hr (by decide) (Zb (Za 0) (Zb (Za 2) (Zb (Zbo (ZH (ZcT hr.units) (Zj zd28 hr (by decide) (Zb (Za 0) Zg)) Zh) (Zy g.zc24) Zh) (Zb (ZbJ (Zo (Zs ⟨g.k_Pile,g.zn31⟩) (Zo (Zs ⟨g.k_End,g.zn24⟩) (Za 0))) (Zal (Za 4)) (Zal (Zm ZI (Za 4) (Za 3)))) Zg)))))))))))
theorem ZoU (D:Zu K mg "new_fin" Zfk Zh9) (g:Glb K mg) (zd2:Zx P w K mg base 1 "plus" Zad) (zd23:Zx P w K mg base 3 "segment_of" ZV):Zx P w K mg base 4 "new_fin" Za3:=
  zq D zc32 1 2 rfl rfl fun f cdv A outer s H E hr=>(Ze (ZD 1 zc32.nd (Zo (Zs ⟨g.k_End,g.zn8⟩) (Za 0)))
  (Ze (Zw (Zs ⟨g.k_End,g.zn8⟩) (Za 0) (Zj zd2 hr (by decide) (Zb (Za 1) (Zb Zh Zg))))
  (Zi (Zt (Zj zd23 hr (by decide) (Zb (Za 0) (Zb (Za 1) (Zb (Zy g.zc6) (Zb (zu Zg) Zg)))))))))
theorem ZoW (D:Zu K mg "new_piece" Zfm Zib) (g:Glb K mg) (zd27:Zx P w K mg base 3 "has_new_data" zf) (zd31:Zx P w K mg base 4 "new_data" Zae) (zd32:Zx P w K mg base 4 "new_fin" Za3):Zx P w K mg base 5 "new_piece" zr:=
  zq D zc30 2 2 rfl rfl fun f cdv A outer s H E hr=>(Ze (Zw (Zs ⟨g.k_End,g.zn13⟩) (Za 0) Zau)
  (Zi (Zt (Zbo (zQ (Zj zd27 hr (by decide) (Zb (Za 0) Zg))) (Zj zd31 hr (by decide) (Zb (Za 0) (Zb (Za 1) Zg))) (Zj zd32 hr (by decide) (Zb (Za 0) Zg))))))
theorem Zo1 (D:Zu K mg "new_syn" Zfr Zig) (g:Glb K mg) (zd22:Zx P w K mg base 1 "paid_syn" zS) (zd2:Zx P w K mg base 1 "plus" Zad) (zd5:Zx P w K mg base 1 "start_timer" Z2):Zx P w K mg base 2 "new_syn" Zay:=
  zq D zc25 2 2 rfl rfl fun f cdv A outer s H E hr=>(Ze (zi (ZH (ZcT hr.units) (Zo (Zs ⟨g.k_End,g.zn8⟩) (Za 0)) (Zo (Zs ⟨g.k_End,g.zn21⟩) (Za 0))) (Zi (ZcC (Zj zd5 hr (by decide) (Zb (Za 0) (Zb (Za 1) Zg))))) ZJ)
  (Ze (Zw (Zs ⟨g.k_End,g.zn8⟩) (Za 0) (Zj zd2 hr (by decide) (Zb (Zo (Zs ⟨g.k_End,g.zn5⟩) (Za 0)) (Zb Zh Zg))))
  (Zi (Zt (Zj zd22 hr (by decide) (Zb (Za 0) Zg))))))
theorem Zo2 (D:Zu K mg "going_as_new" Zfs Zih) (g:Glb K mg) (zd26:Zx P w K mg base 4 "has_more" zT) (zd30:Zx P w K mg base 5 "new_piece" zr) (zd25:Zx P w K mg base 2 "new_syn" Zay) (zd3:Zx P w K mg base 1 "offset" zE) (zd5:Zx P w K mg base 1 "start_timer" Z2):Zx P w K mg base 6 "going_as_new" ZF:=
  zq D zc24 2 3 rfl rfl fun f cdv A outer s H E hr=>(Ze (zi (ZH Zjc (Zo (Zs ⟨g.k_End,g.zn16⟩) (Za 0)) (zG (Zb (ZW g.zc32) (Zb (ZW g.zc31) Zg))) (by with_unfolding_all rfl)) (Zi (Zt (Zbo (MW.mt (ZfZ (ZH (ZcT hr.units) (Zo (Zs ⟨g.k_End,g.zn8⟩) (Za 0)) (Zo (Zs ⟨g.k_End,g.zn5⟩) (Za 0))) (ZbX (zQ (Zo (Zs ⟨g.k_End,g.zn12⟩) (Za 0)))))) (Zj zd25 hr (by decide) (Zb (Za 0) (Zb (Za 1) Zg))) zo))) ZJ)
  (Ze (ZD 2 zc24.nd (Zm ZbG (Zo (Zs ⟨g.k_End,g.zn23⟩) (Za 0)) (Zj zd3 hr (by decide) (Zb (Zo (Zs ⟨g.k_End,g.zn8⟩) (Za 0)) (Zb (Zo (Zs ⟨g.k_End,g.zn21⟩) (Za 0)) Zg)))))
  (Ze (zi (MW.mt (ZfZ (ZH ZpW (Za 2) Zh) (ZbX (ZdD (zQ (Zj zd26 hr (by decide) (Zb (Za 0) Zg))))))) (Zi (Zt zo)) ZJ)
  (Ze (zi (ZH (ZcT hr.units) (Zo (Zs ⟨g.k_End,g.zn8⟩) (Za 0)) (Zo (Zs ⟨g.k_End,g.zn21⟩) (Za 0))) (Zi (ZcC (Zj zd5 hr (by decide) (Zb (Za 0) (Zb (Za 1) Zg))))) ZJ)
  (Ze (Zw (Zs ⟨g.k_End,g.zn11⟩) (Za 0) Zau)
  (Zi (Zt (Zj zd30 hr (by decide) (Zb (Za 0) (Zb (Za 2) Zg))))))))))
theorem Zo7 (D:Zu K mg "is_due" Zfx Zim) (g:Glb K mg) :Zx P w K mg base 1 "is_due" ZaC:=
  zq D zc19 2 2 rfl rfl fun f cdv A outer s H E hr=>(Zi (Zt (Zcn ZnT (Zm ZbG (Za 1) (Zo (Zs ⟨g.k_End,g.zn15⟩) (Za 0))) (Zo (Zs ⟨g.k_End,g.zn22⟩) (Za 0)))))
theorem ZoT (D:Zu K mg "going_as_probe" Zfj Zh8) (g:Glb K mg) (zd26:Zx P w K mg base 4 "has_more" zT) (zd19:Zx P w K mg base 1 "is_due" ZaC) (zd30:Zx P w K mg base 5 "new_piece" zr) (zd5:Zx P w K mg base 1 "start_timer" Z2):Zx P w K mg base 6 "going_as_probe" ZG:=
  zq D zc33 2 2 rfl rfl fun f cdv A outer s H E hr=>(Ze (zi (MW.mt (ZfZ (ZH (ZfW hr.units) (Zo (Zs ⟨g.k_End,g.zn8⟩) (Za 0)) (Zo (Zs ⟨g.k_End,g.zn21⟩) (Za 0))) (ZfZ (ZH (ZfW hr.units) (Zo (Zs ⟨g.k_End,g.zn23⟩) (Za 0)) Zh) (ZbX (ZdD (zQ (Zj zd26 hr (by decide) (Zb (Za 0) Zg)))))))) (Ze (Zw (Zs ⟨g.k_End,g.zn13⟩) (Za 0) Zau)
    (Zi (Zt zo))) ZJ)
  (Ze (zi (ZdD (zQ (Zo (Zs ⟨g.k_End,g.zn13⟩) (Za 0)))) (Ze (Zw (Zs ⟨g.k_End,g.zn13⟩) (Za 0) Zau)
    (Zi (ZcC (Zj zd5 hr (by decide) (Zb (Za 0) (Zb (Za 1) Zg)))))) ZJ)
  (Ze (zi (ZdD (zQ (Zj zd19 hr (by decide) (Zb (Za 0) (Zb (Za 1) Zg))))) (Zi (Zt zo)) ZJ)
  (Ze (Zw (Zs ⟨g.k_End,g.zn15⟩) (Za 0) (Za 1))
  (Zi (Zt (Zj zd30 hr (by decide) (Zb (Za 0) (Zb Zh Zg)))))))))
theorem Zo8 (D:Zu K mg "paid_reset" Zfy Zin) (g:Glb K mg) :Zx P w K mg base 1 "paid_reset" Zav:=
  zq D zc18 1 2 rfl rfl fun f cdv A outer s H E hr=>(Ze (ZD 1 zc18.nd (Zo (Zs ⟨g.k_End,g.zn10⟩) (Za 0)))
  (Ze (Zw (Zs ⟨g.k_End,g.zn10⟩) (Za 0) zo)
  (Zi (Zt (Za 1)))))
theorem Zo9 (D:Zu K mg "going" Zfz Zio) (g:Glb K mg) (zd20:Zx P w K mg base 4 "again" ZaI) (zd34:Zx P w K mg base 4 "going_as_answer" Z6) (zd24:Zx P w K mg base 6 "going_as_new" ZF) (zd33:Zx P w K mg base 6 "going_as_probe" ZG) (zd19:Zx P w K mg base 1 "is_due" ZaC) (zd18:Zx P w K mg base 1 "paid_reset" Zav):Zx P w K mg base 7 "going" Zbm:=
  zq D zc17 2 3 rfl rfl fun f cdv A outer s H E hr=>(Ze (zi (ZH ZeP (Zo (Zs ⟨g.k_End,g.zn10⟩) (Za 0)) zo) (Zi (Zt (Zj zd18 hr (by decide) (Zb (Za 0) Zg)))) ZJ)
  (Ze (zi (MW.mt (Zjh (ZH (ZcT hr.units) (Zo (Zs ⟨g.k_End,g.zn16⟩) (Za 0)) (ZW g.zc34)) (ZdC (ZH ZnT (Zm ZbG (Za 1) (Zo (Zs ⟨g.k_End,g.zn15⟩) (Za 0))) (Zy g.zc14))))) (Zi (Zw (Zs ⟨g.k_End,g.zn16⟩) (Za 0) (ZW g.zc2))) ZJ)
  (Ze (zi (ZH Zjc (Zo (Zs ⟨g.k_End,g.zn16⟩) (Za 0)) (zG (Zb (ZW g.zc2) (Zb (ZW g.zc15) Zg))) (by with_unfolding_all rfl)) (Zi (Zt zo)) ZJ)
  (Ze (zi (MW.mt (Zjh (ZH (ZfW hr.units) (Zo (Zs ⟨g.k_End,g.zn8⟩) (Za 0)) (Zo (Zs ⟨g.k_End,g.zn21⟩) (Za 0))) (ZdC (zQ (Zj zd19 hr (by decide) (Zb (Za 0) (Zb (Za 1) Zg))))))) (Zi (Zt (Zj zd20 hr (by decide) (Zb (Za 0) (Zb (Za 1) Zg))))) ZJ)
  (Ze (ZD 2 zc17.nd (Zj zd24 hr (by decide) (Zb (Za 0) (Zb (Za 1) Zg))))
  (Ze (zi (ZH ZkH (Za 2) zo) (Zi (ZD 2 zc17.nd (Zj zd33 hr (by decide) (Zb (Za 0) (Zb (Za 1) Zg))))) ZJ)
  (Ze (zi (ZH ZkH (Za 2) zo) (Zi (ZD 2 zc17.nd (Zj zd34 hr (by decide) (Zb (Za 0) Zg)))) ZJ)
  (Zi (Zt (Za 2))))))))))
theorem Zpa (D:Zu K mg "send" ZfA Zip) (g:Glb K mg) (zd17:Zx P w K mg base 7 "going" Zbm) (zd9:Zx P w K mg base 4 "put" Zdx):Zx P w K mg base 8 "send" Zbj:=
  zq D zc16 2 3 rfl rfl fun f cdv A outer s H E hr=>(Ze (ZD 2 zc16.nd (Zj zd17 hr (by decide) (Zb (Za 0) (Zb (Za 1) Zg))))
  (Zi (Zt (Zbo (ZH ZkH (Za 2) zo) (zu Zg) (Zj zd9 hr (by decide) (Zb (Za 2) Zg))))))
theorem ZoR (D:Mk0 K mg "Host" "Host.__init__" Zfh Zh6) (g:Glb K mg) :MMk P w K mg base 1 "Host" Zaq:=
  mk0 D zc35 2 2 rfl rfl fun f cdv A outer s H E hr=>(Ze (Zw (Zs ⟨g.k_Host,g.zn25⟩) (Za 0) (Za 1))
  (Ze (Zw (Zs ⟨g.k_Host,g.zn26⟩) (Za 0) (ZkM Zg))
  (Ze (Zw (Zs ⟨g.k_Host,g.zn27⟩) (Za 0) ZhD)
  (Ze (Zw (Zs ⟨g.k_Host,g.zn30⟩) (Za 0) Zf5)
  (Ze (Zw (Zs ⟨g.k_Host,g.zn28⟩) (Za 0) zo)
  (Zi (Zw (Zs ⟨g.k_Host,g.zn29⟩) (Za 0) Zh)))))))
theorem ZoO (D:Zu K mg "live_end" Zfe Zh3) (g:Glb K mg) :Zx P w K mg base 1 "live_end" Zbl:=
  zq D zc38 3 4 rfl rfl fun f cdv A outer s H E hr=>(Ze (ZD 3 zc38.nd (Zjm hr (Zo (Zs ⟨g.k_Host,g.zn27⟩) (Za 0)) (zG (Zb (Za 1) (Zb (Za 2) Zg))) ⟨rfl,rfl,rfl,rfl⟩))
  (Zi (Zt (Zbo (MW.mt (ZfZ (ZH ZkH (Za 3) zo) (ZbX (ZH (ZcT hr.units) (Zo (Zs ⟨g.k_End,g.zn16⟩) (Za 3)) (ZW g.zc2))))) zo (Za 3)))))
theorem ZoN (D:Zu K mg "made_end" Zfd Zh2) (g:Glb K mg) (zd15:Zx P w K mg base 5 "opened" ZbE) (zd2:Zx P w K mg base 1 "plus" Zad):Zx P w K mg base 6 "made_end" Zbk:=
  zq D zc39 4 5 rfl rfl fun f cdv A outer s H E hr=>(Ze (ZD 4 zc39.nd (Zj zd15 hr (by decide) (Zb (Za 1) (Zb (Za 2) (Zb (Zo (Zs ⟨g.k_Host,g.zn25⟩) (Za 0)) (Zb (Za 3) Zg))))))
  (Ze (Zw (Zs ⟨g.k_Host,g.zn25⟩) (Za 0) (Zj zd2 hr (by decide) (Zb (Zo (Zs ⟨g.k_Host,g.zn25⟩) (Za 0)) (Zb (Zy g.zc29) Zg))))
  (Ze (ZcC (ZkN (Zlj PySem.F.plainAttrs_list PySem.F.slot_list_append PySem.F.type_list_append Zem (Zo (Zs ⟨g.k_Host,g.zn26⟩) (Za 0)) (ZeO (Za 4) Zgp))))
  (Ze (Zjk hr (Zo (Zs ⟨g.k_Host,g.zn27⟩) (Za 0)) (zG (Zb (Za 1) (Zb (Za 2) Zg))) (Za 4))
  (Zi (Zt (Za 4)))))))
theorem ZoQ (D:Me0 K mg "Host" "calls" "Host.calls" Zfg Zh5) (g:Glb K mg) (zd38:Zx P w K mg base 1 "live_end" Zbl) (zd39:Zx P w K mg base 6 "made_end" Zbk):Zd6 P w K mg base 7 "Host" "calls" zt:=
  me0 D g.k_Host zc36 3 3 rfl rfl fun f cdv A outer s H E hr=>(Ze (zi (ZH ZeP (Zj zd38 hr (by decide) (Zb (Za 0) (Zb (Za 1) (Zb (Za 2) Zg)))) zo) (Zi Zjj) ZJ)
  (Zi (Zt (Zj zd39 hr (by decide) (Zb (Za 0) (Zb (Za 1) (Zb (Za 2) (Zb Zau Zg))))))))
theorem ZoP (D:Me0 K mg "Host" "sends" "Host.sends" Zff Zh4) (g:Glb K mg) (zd9:Zx P w K mg base 4 "put" Zdx) (zd16:Zx P w K mg base 8 "send" Zbj):Zd6 P w K mg base 9 "Host" "sends" ZC:=
  me0 D g.k_Host zc37 2 6 rfl rfl fun f cdv A outer s H E hr=>(Ze (zi (ZH ZeP (Zo (Zs ⟨g.k_Host,g.zn28⟩) (Za 0)) zo) (Ze (ZD 2 zc37.nd (Zj zd9 hr (by decide) (Zb (Zo (Zs ⟨g.k_Host,g.zn28⟩) (Za 0)) Zg)))
    (Ze (Zw (Zs ⟨g.k_Host,g.zn28⟩) (Za 0) zo)
    (Zi (Zt (Za 2))))) ZJ)
  (Ze (ZD 3 zc37.nd (zx Zeu g.b_len PySem.boot_len (Zb (Zo (Zs ⟨g.k_Host,g.zn26⟩) (Za 0)) Zg)))
  (Ze (ZbH PassesOwn.never (Zah g.b_range (Zb (Za 3) Zg)) (ZaJ 4 zc37.nd) (Ze (ZD 5 zc37.nd (Zm zC (Zm ZI (Zo (Zs ⟨g.k_Host,g.zn29⟩) (Za 0)) (Za 4)) (Za 3)))
    (Ze (ZD 2 zc37.nd (Zj zd16 hr (by decide) (Zb (za zc (Zo (Zs ⟨g.k_Host,g.zn26⟩) (Za 0)) (Za 5)) (Zb (Za 1) Zg))))
    (Zi (zi (ZH Zgq (zx Zeu g.b_len PySem.boot_len (Zb (Za 2) Zg)) Zh) (Ze (Zw (Zs ⟨g.k_Host,g.zn29⟩) (Za 0) (Zm ZI (Za 5) Zh))
      (Zi (Zt (Za 2)))) ZJ)))))
  (Zi (Zt (zu Zg))))))
theorem ZoM (D:Zu K mg "_law_cell" Zfc Zh1) (g:Glb K mg) :Zx P w K mg base 1 "_law_cell" ZcW:=
  zq D Zpi 2 2 rfl rfl fun f cdv A outer s H E hr=>(Ze (zi (zQ (Za 0)) (Zi (Zt (za zc (Za 0) (Zm zC (Za 1) (zx Zeu g.b_len PySem.boot_len (Zb (Za 0) Zg)))))) ZJ)
  (Zi (Zt Zh)))
theorem ZoL (D:Zu K mg "_law_mix" Zfb Zh0) (g:Glb K mg) (zd40:Zx P w K mg base 1 "_law_cell" ZcW):Zx P w K mg base 2 "_law_mix" Za5:=
  zq D zc41 2 3 rfl rfl fun f cdv A outer s H E hr=>(Ze (ZD 2 zc41.nd (Zm zC (Zm ZI (Zj zd40 hr (by decide) (Zb (Za 0) (Zb (Za 1) Zg))) (Zm Zce Zh (Zm ZI (Za 1) Zh))) Zh))
  (Ze (ZD 2 zc41.nd (Zm zC (Zm Zce (Za 2) Zh) Zh))
  (Zi (Zt (Zm zC (Zm ZI (Zm Zce (Zm Zc7 (Za 2) Zh) Zh) (Za 2)) Zh)))))
theorem ZoK (D:Zu K mg "_law_two" Zfa ZhZ) (g:Glb K mg) :Zx P w K mg base 1 "_law_two" Zbw:=
  zq D Zph 1 1 rfl rfl fun f cdv A outer s H E hr=>(Zi (Zt (zu (Zb (Zm Zc7 (Za 0) Zh) (Zb (Zm zC (Za 0) Zh) Zg)))))
theorem ZoJ (D:Zu K mg "_law_folded" Ze9 ZhY) (g:Glb K mg) :Zx P w K mg base 1 "_law_folded" Za6:=
  zq D zc43 1 3 rfl rfl fun f cdv A outer s H E hr=>(Ze (ZD 1 zc43.nd Zh)
  (Ze (ZbH PassesOwn.never (Zah g.b_range (Zb (zx Zeu g.b_len PySem.boot_len (Zb (Za 0) Zg)) Zg)) (ZaJ 2 zc43.nd) (Zi (ZD 1 zc43.nd (Zm ZI (Za 1) (Zm Zce (za zc (Za 0) (Za 2)) (za zc (zu (Zb Zh (Zb Zh Zg))) (Zm zC (Za 2) Zh)))))))
  (Ze (Zf0 200 PassesOwn.never (ZH Zgq (Za 1) Zh) (Zi (ZD 1 zc43.nd (Zm ZI (Zm zC (Za 1) Zh) (Zm Zc7 (Za 1) Zh)))))
  (Zi (Zt (Za 1))))))
theorem ZoI (D:Zu K mg "_law_bytes" Ze8 ZhX) (g:Glb K mg) (zd43:Zx P w K mg base 1 "_law_folded" Za6) (zd42:Zx P w K mg base 1 "_law_two" Zbw):Zx P w K mg base 2 "_law_bytes" Zbp:=
  zq D zc44 1 3 rfl rfl fun f cdv A outer s H E hr=>(Ze (ZD 1 zc44.nd (Zm ZI (Zj zd42 hr (by decide) (Zb (za zc (Za 0) Zh) Zg)) (Zj zd42 hr (by decide) (Zb (za zc (Za 0) Zh) Zg))))
  (Ze (ZbH PassesOwn.never (Zmu (ZbJ (Za 0) (Zal Zh) (Zal Zh))) (ZaJ 2 zc44.nd) (Zi (ZD 1 zc44.nd (Zm ZI (Zm ZI (Za 1) (Zj zd42 hr (by decide) (Zb (Zm Zc7 (Za 2) Zh) Zg))) (Zj zd42 hr (by decide) (Zb (Zm zC (Za 2) Zh) Zg))))))
  (Ze (ZD 1 zc44.nd (Zm ZI (Zm ZI (Zm ZI (Za 1) (zu (Zb (za zc (zu (Zb Zh (Zb Zh Zg))) (Zb0 Zoi g.b_int PyProof.Rows.boot_int (Zb (Zcn Zgq (za zc (Za 0) Zh) Zh) Zg))) (Zb (za zc (Za 0) Zh) Zg)))) (Zj zd42 hr (by decide) (Zb (za zc (Za 0) Zh) Zg))) (zu (Zb Zh (Zb Zh (Zb Zh (Zb Zh Zg)))))))
  (Ze (zi (ZH Zgq (za zc (Za 0) Zh) Zh) (Zi (ZD 1 zc44.nd (Zm ZI (Zm ZI (Za 1) (zu (Zb Zh (Zb Zh Zg)))) (Zj zd42 hr (by decide) (Zb (za zc (Za 0) Zh) Zg))))) ZJ)
  (Ze (ZD 1 zc44.nd (Zm ZI (Za 1) (Zb0 ZjV g.b_list PyProof.Rows.boot_list (Zb (za zc (Za 0) Zh) Zg))))
  (Zi (Zt (Zm ZI (Zm ZI (ZbJ (Za 1) ZbZ (Zal Zh)) (Zj zd42 hr (by decide) (Zb (Zm ZbG Zh (Zj zd43 hr (by decide) (Zb (Za 1) Zg))) Zg))) (ZbJ (Za 1) (Zal Zh) ZbZ)))))))))
theorem ZoH {fl:Addr} {fdl:FuncData} (F:Fun K "law" "law" Zdm fl fdl) (g:Glb K mg) (zd35:MMk P w K mg base 1 "Host" Zaq) (zd36:Zd6 P w K mg base 7 "Host" "calls" zt) (zd37:Zd6 P w K mg base 9 "Host" "sends" ZC) (zd44:Zx P w K mg base 2 "_law_bytes" Zbp) (zd41:Zx P w K mg base 2 "_law_mix" Za5):FnOk P w K mg base CX0 10 fl fdl ZhW (spM ⟨ZU mg,K⟩ Zha):=
  mfn F zc45 1 9 rfl rfl fun cdv A outer s H E hr=>(Ze (ZD 1 zc45.nd (Zj zd41 hr (by decide) (Zb (Za 0) (Zb Zh Zg))))
  (Ze (zi (ZH (ZcT hr.units) (Zm zC (Zj zd41 hr (by decide) (Zb (Za 0) (Zb Zh Zg))) Zh) Zh) (Zi (ZD 1 zc45.nd (Zm ZbG (Zm ZbG Zh Zh) (Zm zC (Za 1) Zh)))) ZJ)
  (Ze (ZD 2 zc45.nd (Zg6 zd35 hr (by decide) (Zb (Za 1) Zg)))
  (Ze (ZD 3 zc45.nd (Zm ZI Zh (Zm zC (Zj zd41 hr (by decide) (Zb (Za 0) (Zb Zh Zg))) Zh)))
  (Ze (ZhB 4 zc45.nd Zg)
  (Ze (ZbH PassesOwn.never (Zah g.b_range (Zb (Za 3) Zg)) (ZaJ 5 zc45.nd) (Ze (ZD 6 zc45.nd (zG (Zb (Zm ZI (Zm Zce Zh (Za 5)) (Zm zC (Zj zd41 hr (by decide) (Zb (Za 0) (Zb (Zm ZI Zh (Za 5)) Zg))) Zh)) (Zb (Zm zC (Zj zd41 hr (by decide) (Zb (Za 0) (Zb (Zm ZI Zh (Za 5)) Zg))) Zh) Zg))))
    (Ze (ZcC (Zbn zd36 hr (by decide) (Za 2) (Zb (za zc (Za 6) Zh) (Zb (za zc (Za 6) Zh) Zg))))
    (Zi (ZhC 4 (Zj zd44 hr (by decide) (Zb (zG (Zb (za zc (Za 6) Zh) (Zb (za zc (Za 6) Zh) (Zb (Zm zC (Zm ZI (Za 1) (Zm Zce Zh (Za 5))) Zh) (Zb Zh (Zb Zh (Zb Zh (Zb Zh (Zb (zG Zg) Zg))))))))) Zg)) (hpe:=fun h=>Zlj PySem.F.plainAttrs_list PySem.F.slot_list_append PySem.F.type_list_append Zem h (ZeO (Zj zd44 hr (by decide) (Zb (zG (Zb (za zc (Za 6) Zh) (Zb (za zc (Za 6) Zh) (Zb (Zm zC (Zm ZI (Za 1) (Zm Zce Zh (Za 5))) Zh) (Zb Zh (Zb Zh (Zb Zh (Zb Zh (Zb (zG Zg) Zg))))))))) Zg)) Zgp)))))))
  (Ze (ZD 7 zc45.nd (Zm zC (Zj zd41 hr (by decide) (Zb (Za 0) (Zb Zh Zg))) (Zm ZI (Za 3) Zh)))
  (Ze (ZbH PassesOwn.never (Zah g.b_range (Zb (Za 7) Zg)) (ZaJ 5 zc45.nd) (Zi (ZbY 4 (zi (ZH (ZfW hr.units) (Zbn zd37 hr (by decide) (Za 2) (Zb Zh Zg)) (za zc (Za 4) (Za 5))) (Zi (Zt Zau)) ZJ))))
  (Ze (zi (ZH ZpV (Za 7) (Za 3)) (Zi (ZbH PassesOwn.never (Zah g.b_range (Zb (Zm ZbG (Za 3) (Za 7)) Zg)) (ZaJ 5 zc45.nd) (Zi (ZbY 4 (zi (ZH (ZfW hr.units) (Zbn zd37 hr (by decide) (Za 2) (Zb Zh Zg)) (za zc (Za 4) (Zm ZI (Za 7) (Za 5)))) (Zi (Zt Zau)) ZJ))))) ZJ)
  (Ze (zi (ZH (ZfW hr.units) (Zbn zd37 hr (by decide) (Za 2) (Zb Zh Zg)) (zu Zg)) (Zi (Zt Zau)) ZJ)
  (Ze (ZD 8 zc45.nd (Zm zC (Zj zd41 hr (by decide) (Zb (Za 0) (Zb Zh Zg))) (Zm ZI (Za 3) Zh)))
  (Ze (ZbH PassesOwn.never (Zah g.b_range (Zb (Za 8) Zg)) (ZaJ 5 zc45.nd) (Zi (ZbY 4 (zi (ZH (ZfW hr.units) (Zbn zd37 hr (by decide) (Za 2) (Zb Zh Zg)) (za zc (Za 4) (Za 5))) (Zi (Zt Zau)) ZJ))))
  (Ze (ZbH PassesOwn.never (Zah g.b_range (Zb (Za 3) Zg)) (ZaJ 5 zc45.nd) (Zi (ZbY 4 (zi (ZH (ZfW hr.units) (Zbn zd37 hr (by decide) (Za 2) (Zb Zh Zg)) (za zc (Za 4) (Zm zC (Zm ZI (Za 8) (Za 5)) (Za 3)))) (Zi (Zt Zau)) ZJ))))
  (Zi (Zt (Zcn (ZcT hr.units) (Zbn zd37 hr (by decide) (Za 2) (Zb Zh Zg)) (zu Zg)))))))))))))))))
theorem Zms {fl:Addr} {fdl:FuncData} (F:Fun K "law" "law" Zdm fl fdl) (zD0:Mk0 K mg "Pile" "Pile.__init__" zs0 zP0) (zD1:Zu K mg "room" zs1 zP1) (zD2:Zu K mg "plus" zs2 zP2) (zD3:Zu K mg "offset" zs3 zP3) (zD4:Mk0 K mg "End" "End.__init__" zs4 zP4) (zD5:Zu K mg "start_timer" zs5 zP5) (zD6:Zu K mg "our_window" zs6 zP6) (zD7:Zu K mg "folded" zs7 zP7) (zD8:Zu K mg "sum_of" zs8 zP8) (zD9:Zu K mg "put" zs9 zP9) (zD10:Zu K mg "bytes_ahead_of_sum" ZfG Ziv) (zD11:Zu K mg "byte_of_head" ZfF Ziu) (zD12:Zu K mg "bytes_of_most" ZfE Zit) (zD13:Zu K mg "two_bytes" ZfD Zis) (zD14:Zu K mg "four_bytes" ZfC Zir) (zD15:Zu K mg "opened" ZfB Ziq) (zD16:Zu K mg "send" ZfA Zip) (zD17:Zu K mg "going" Zfz Zio) (zD18:Zu K mg "paid_reset" Zfy Zin) (zD19:Zu K mg "is_due" Zfx Zim) (zD20:Zu K mg "again" Zfw Zil) (zD21:Zu K mg "most_at_once" Zfv Zik) (zD22:Zu K mg "paid_syn" Zfu Zij) (zD23:Zu K mg "segment_of" Zft Zii) (zD24:Zu K mg "going_as_new" Zfs Zih) (zD25:Zu K mg "new_syn" Zfr Zig) (zD26:Zu K mg "has_more" Zfq Zif) (zD27:Zu K mg "has_new_data" Zfp Zie) (zD28:Zu K mg "unsent" Zfo Zid) (zD29:Zu K mg "has_new_fin" Zfn Zic) (zD30:Zu K mg "new_piece" Zfm Zib) (zD31:Zu K mg "new_data" Zfl Zia) (zD32:Zu K mg "new_fin" Zfk Zh9) (zD33:Zu K mg "going_as_probe" Zfj Zh8) (zD34:Zu K mg "going_as_answer" Zfi Zh7) (zD35:Mk0 K mg "Host" "Host.__init__" Zfh Zh6) (zD36:Me0 K mg "Host" "calls" "Host.calls" Zfg Zh5) (zD37:Me0 K mg "Host" "sends" "Host.sends" Zff Zh4) (zD38:Zu K mg "live_end" Zfe Zh3) (zD39:Zu K mg "made_end" Zfd Zh2) (zD40:Zu K mg "_law_cell" Zfc Zh1) (zD41:Zu K mg "_law_mix" Zfb Zh0) (zD42:Zu K mg "_law_two" Zfa ZhZ) (zD43:Zu K mg "_law_folded" Ze9 ZhY) (zD44:Zu K mg "_law_bytes" Ze8 ZhX) (g:Glb K mg):FnOk P w K mg base CX0 10 fl fdl ZhW (spM ⟨ZU mg,K⟩ Zha):=by
  have zd0:=zo0 (P:=P) (w:=w) (base:=base) zD0 g
  have zd1:=zo1 (P:=P) (w:=w) (base:=base) zD1 g
  have zd2:=zo2 (P:=P) (w:=w) (base:=base) zD2 g
  have zd3:=zo3 (P:=P) (w:=w) (base:=base) zD3 g
  have zd4:=zo4 (P:=P) (w:=w) (base:=base) zD4 g zd0 zd2
  have zd5:=zo5 (P:=P) (w:=w) (base:=base) zD5 g
  have zd6:=zo6 (P:=P) (w:=w) (base:=base) zD6 g zd1
  have zd7:=zo7 (P:=P) (w:=w) (base:=base) zD7 g
  have zd8:=zo8 (P:=P) (w:=w) (base:=base) zD8 g zd7
  have zd11:=Zpf (P:=P) (w:=w) (base:=base) zD11 g
  have zd13:=Zpd (P:=P) (w:=w) (base:=base) zD13 g
  have zd14:=Zpc (P:=P) (w:=w) (base:=base) zD14 g zd13
  have zd10:=Zpg (P:=P) (w:=w) (base:=base) zD10 g zd11 zd14 zd13
  have zd12:=Zpe (P:=P) (w:=w) (base:=base) zD12 g zd13
  have zd9:=zo9 (P:=P) (w:=w) (base:=base) zD9 g zd10 zd12 zd8 zd13
  have zd15:=Zpb (P:=P) (w:=w) (base:=base) zD15 g zd4
  have zd21:=Zo5 (P:=P) (w:=w) (base:=base) zD21 g
  have zd22:=Zo4 (P:=P) (w:=w) (base:=base) zD22 g
  have zd23:=Zo3 (P:=P) (w:=w) (base:=base) zD23 g zd6
  have zd20:=Zo6 (P:=P) (w:=w) (base:=base) zD20 g zd21 zd3 zd22 zd23
  have zd34:=ZoS (P:=P) (w:=w) (base:=base) zD34 g zd23
  have zd28:=ZoY (P:=P) (w:=w) (base:=base) zD28 g zd3
  have zd27:=ZoZ (P:=P) (w:=w) (base:=base) zD27 g zd28
  have zd29:=ZoX (P:=P) (w:=w) (base:=base) zD29 g zd28
  have zd26:=Zo0 (P:=P) (w:=w) (base:=base) zD26 g zd27 zd29
  have zd31:=ZoV (P:=P) (w:=w) (base:=base) zD31 g zd21 zd3 zd2 zd23 zd28
  have zd32:=ZoU (P:=P) (w:=w) (base:=base) zD32 g zd2 zd23
  have zd30:=ZoW (P:=P) (w:=w) (base:=base) zD30 g zd27 zd31 zd32
  have zd25:=Zo1 (P:=P) (w:=w) (base:=base) zD25 g zd22 zd2 zd5
  have zd24:=Zo2 (P:=P) (w:=w) (base:=base) zD24 g zd26 zd30 zd25 zd3 zd5
  have zd19:=Zo7 (P:=P) (w:=w) (base:=base) zD19 g
  have zd33:=ZoT (P:=P) (w:=w) (base:=base) zD33 g zd26 zd19 zd30 zd5
  have zd18:=Zo8 (P:=P) (w:=w) (base:=base) zD18 g
  have zd17:=Zo9 (P:=P) (w:=w) (base:=base) zD17 g zd20 zd34 zd24 zd33 zd19 zd18
  have zd16:=Zpa (P:=P) (w:=w) (base:=base) zD16 g zd17 zd9
  have zd35:=ZoR (P:=P) (w:=w) (base:=base) zD35 g
  have zd38:=ZoO (P:=P) (w:=w) (base:=base) zD38 g
  have zd39:=ZoN (P:=P) (w:=w) (base:=base) zD39 g zd15 zd2
  have zd36:=ZoQ (P:=P) (w:=w) (base:=base) zD36 g zd38 zd39
  have zd37:=ZoP (P:=P) (w:=w) (base:=base) zD37 g zd9 zd16
  have zd40:=ZoM (P:=P) (w:=w) (base:=base) zD40 g
  have zd41:=ZoL (P:=P) (w:=w) (base:=base) zD41 g zd40
  have zd42:=ZoK (P:=P) (w:=w) (base:=base) zD42 g
  have zd43:=ZoJ (P:=P) (w:=w) (base:=base) zD43 g
  have zd44:=ZoI (P:=P) (w:=w) (base:=base) zD44 g zd43 zd42
  exact ZoH F g zd35 zd36 zd37 zd44 zd41
end
theorem us1 {p:List Value→Prop} (h:∀a,p [a]):∀us:List Value,us.length=1→p us
  | [a],_=>h a
theorem us2 {p:List Value→Prop} (h:∀a b,p [a,b]):∀us:List Value,us.length=2→p us
  | [a,b],_=>h a b
theorem us3 {p:List Value→Prop} (h:∀a b c,p [a,b,c]):∀us:List Value,us.length=3→p us
  | [a,b,c],_=>h a b c
theorem us4 {p:List Value→Prop} (h:∀a b c d,p [a,b,c,d]):∀us:List Value,us.length=4→p us
  | [a,b,c,d],_=>h a b c d
theorem us5 {p:List Value→Prop} (h:∀a b c d e,p [a,b,c,d,e]):∀us:List Value,us.length=5→p us
  | [a,b,c,d,e],_=>h a b c d e
open PySem.W
theorem ZmM {l:OpenLaw} {w:World} {K:Frag} {h:Heap} {mg:Str→Option Value} {fa:Addr} (X:K.In h) (G:h.Ns mainGlobals mg) (hfa:mg "law"=some (.ref fa))
    (aC_End:nsIn K mainGlobals "End"=some (some (.ref C_End)))
    (aC_Host:nsIn K mainGlobals "Host"=some (some (.ref C_Host)))
    (aC_Pile:nsIn K mainGlobals "Pile"=some (some (.ref C_Pile)))
    (a0:findIn K (.ref C_Pile) "__init__"=some (some (.ref f0))) (i0:isFn K (.ref f0)=true) (l0:K.lookup f0=some ⟨oc0,od0,.func (fnOf "__init__" "Pile.__init__" (Zr zs0) (Zn zs0) (Zf zs0) .none kV0 dc0 pm0 an0 cd0 ct0),sl0⟩) (c0:codeIn K cd0 "Pile.__init__"=true) (k0:keepIn K (.ref f0)=true)
    (a1:nsIn K mainGlobals "room"=some (some (.ref f1))) (l1:K.lookup f1=some ⟨oc1,od1,.func (fnOf "room" "room" (Zr zs1) (Zn zs1) (Zf zs1) .none kV1 dc1 pm1 an1 cd1 ct1),sl1⟩) (c1:codeIn K cd1 "room"=true) (k1:keepIn K (.ref f1)=true)
    (a2:nsIn K mainGlobals "plus"=some (some (.ref f2))) (l2:K.lookup f2=some ⟨oc2,od2,.func (fnOf "plus" "plus" (Zr zs2) (Zn zs2) (Zf zs2) .none kV2 dc2 pm2 an2 cd2 ct2),sl2⟩) (c2:codeIn K cd2 "plus"=true) (k2:keepIn K (.ref f2)=true)
    (a3:nsIn K mainGlobals "offset"=some (some (.ref f3))) (l3:K.lookup f3=some ⟨oc3,od3,.func (fnOf "offset" "offset" (Zr zs3) (Zn zs3) (Zf zs3) .none kV3 dc3 pm3 an3 cd3 ct3),sl3⟩) (c3:codeIn K cd3 "offset"=true) (k3:keepIn K (.ref f3)=true)
    (a4:findIn K (.ref C_End) "__init__"=some (some (.ref f4))) (i4:isFn K (.ref f4)=true) (l4:K.lookup f4=some ⟨oc4,od4,.func (fnOf "__init__" "End.__init__" (Zr zs4) (Zn zs4) (Zf zs4) .none kV4 dc4 pm4 an4 cd4 ct4),sl4⟩) (c4:codeIn K cd4 "End.__init__"=true) (k4:keepIn K (.ref f4)=true)
    (a5:nsIn K mainGlobals "start_timer"=some (some (.ref f5))) (l5:K.lookup f5=some ⟨oc5,od5,.func (fnOf "start_timer" "start_timer" (Zr zs5) (Zn zs5) (Zf zs5) .none kV5 dc5 pm5 an5 cd5 ct5),sl5⟩) (c5:codeIn K cd5 "start_timer"=true) (k5:keepIn K (.ref f5)=true)
    (a6:nsIn K mainGlobals "our_window"=some (some (.ref f6))) (l6:K.lookup f6=some ⟨oc6,od6,.func (fnOf "our_window" "our_window" (Zr zs6) (Zn zs6) (Zf zs6) .none kV6 dc6 pm6 an6 cd6 ct6),sl6⟩) (c6:codeIn K cd6 "our_window"=true) (k6:keepIn K (.ref f6)=true)
    (a7:nsIn K mainGlobals "folded"=some (some (.ref f7))) (l7:K.lookup f7=some ⟨oc7,od7,.func (fnOf "folded" "folded" (Zr zs7) (Zn zs7) (Zf zs7) .none kV7 dc7 pm7 an7 cd7 ct7),sl7⟩) (c7:codeIn K cd7 "folded"=true) (k7:keepIn K (.ref f7)=true)
    (a8:nsIn K mainGlobals "sum_of"=some (some (.ref f8))) (l8:K.lookup f8=some ⟨oc8,od8,.func (fnOf "sum_of" "sum_of" (Zr zs8) (Zn zs8) (Zf zs8) .none kV8 dc8 pm8 an8 cd8 ct8),sl8⟩) (c8:codeIn K cd8 "sum_of"=true) (k8:keepIn K (.ref f8)=true)
    (a9:nsIn K mainGlobals "put"=some (some (.ref f9))) (l9:K.lookup f9=some ⟨oc9,od9,.func (fnOf "put" "put" (Zr zs9) (Zn zs9) (Zf zs9) .none kV9 dc9 pm9 an9 cd9 ct9),sl9⟩) (c9:codeIn K cd9 "put"=true) (k9:keepIn K (.ref f9)=true)
    (a10:nsIn K mainGlobals "bytes_ahead_of_sum"=some (some (.ref f10))) (l10:K.lookup f10=some ⟨oc10,od10,.func (fnOf "bytes_ahead_of_sum" "bytes_ahead_of_sum" (Zr ZfG) (Zn ZfG) (Zf ZfG) .none kV10 dc10 pm10 an10 cd10 ct10),sl10⟩) (c10:codeIn K cd10 "bytes_ahead_of_sum"=true) (k10:keepIn K (.ref f10)=true)
    (a11:nsIn K mainGlobals "byte_of_head"=some (some (.ref f11))) (l11:K.lookup f11=some ⟨oc11,od11,.func (fnOf "byte_of_head" "byte_of_head" (Zr ZfF) (Zn ZfF) (Zf ZfF) .none kV11 dc11 pm11 an11 cd11 ct11),sl11⟩) (c11:codeIn K cd11 "byte_of_head"=true) (k11:keepIn K (.ref f11)=true)
    (a12:nsIn K mainGlobals "bytes_of_most"=some (some (.ref f12))) (l12:K.lookup f12=some ⟨oc12,od12,.func (fnOf "bytes_of_most" "bytes_of_most" (Zr ZfE) (Zn ZfE) (Zf ZfE) .none kV12 dc12 pm12 an12 cd12 ct12),sl12⟩) (c12:codeIn K cd12 "bytes_of_most"=true) (k12:keepIn K (.ref f12)=true)
    (a13:nsIn K mainGlobals "two_bytes"=some (some (.ref f13))) (l13:K.lookup f13=some ⟨oc13,od13,.func (fnOf "two_bytes" "two_bytes" (Zr ZfD) (Zn ZfD) (Zf ZfD) .none kV13 dc13 pm13 an13 cd13 ct13),sl13⟩) (c13:codeIn K cd13 "two_bytes"=true) (k13:keepIn K (.ref f13)=true)
    (a14:nsIn K mainGlobals "four_bytes"=some (some (.ref f14))) (l14:K.lookup f14=some ⟨oc14,od14,.func (fnOf "four_bytes" "four_bytes" (Zr ZfC) (Zn ZfC) (Zf ZfC) .none kV14 dc14 pm14 an14 cd14 ct14),sl14⟩) (c14:codeIn K cd14 "four_bytes"=true) (k14:keepIn K (.ref f14)=true)
    (a15:nsIn K mainGlobals "opened"=some (some (.ref f15))) (l15:K.lookup f15=some ⟨oc15,od15,.func (fnOf "opened" "opened" (Zr ZfB) (Zn ZfB) (Zf ZfB) .none kV15 dc15 pm15 an15 cd15 ct15),sl15⟩) (c15:codeIn K cd15 "opened"=true) (k15:keepIn K (.ref f15)=true)
    (a16:nsIn K mainGlobals "send"=some (some (.ref f16))) (l16:K.lookup f16=some ⟨oc16,od16,.func (fnOf "send" "send" (Zr ZfA) (Zn ZfA) (Zf ZfA) .none kV16 dc16 pm16 an16 cd16 ct16),sl16⟩) (c16:codeIn K cd16 "send"=true) (k16:keepIn K (.ref f16)=true)
    (a17:nsIn K mainGlobals "going"=some (some (.ref f17))) (l17:K.lookup f17=some ⟨oc17,od17,.func (fnOf "going" "going" (Zr Zfz) (Zn Zfz) (Zf Zfz) .none kV17 dc17 pm17 an17 cd17 ct17),sl17⟩) (c17:codeIn K cd17 "going"=true) (k17:keepIn K (.ref f17)=true)
    (a18:nsIn K mainGlobals "paid_reset"=some (some (.ref f18))) (l18:K.lookup f18=some ⟨oc18,od18,.func (fnOf "paid_reset" "paid_reset" (Zr Zfy) (Zn Zfy) (Zf Zfy) .none kV18 dc18 pm18 an18 cd18 ct18),sl18⟩) (c18:codeIn K cd18 "paid_reset"=true) (k18:keepIn K (.ref f18)=true)
    (a19:nsIn K mainGlobals "is_due"=some (some (.ref f19))) (l19:K.lookup f19=some ⟨oc19,od19,.func (fnOf "is_due" "is_due" (Zr Zfx) (Zn Zfx) (Zf Zfx) .none kV19 dc19 pm19 an19 cd19 ct19),sl19⟩) (c19:codeIn K cd19 "is_due"=true) (k19:keepIn K (.ref f19)=true)
    (a20:nsIn K mainGlobals "again"=some (some (.ref f20))) (l20:K.lookup f20=some ⟨oc20,od20,.func (fnOf "again" "again" (Zr Zfw) (Zn Zfw) (Zf Zfw) .none kV20 dc20 pm20 an20 cd20 ct20),sl20⟩) (c20:codeIn K cd20 "again"=true) (k20:keepIn K (.ref f20)=true)
    (a21:nsIn K mainGlobals "most_at_once"=some (some (.ref f21))) (l21:K.lookup f21=some ⟨oc21,od21,.func (fnOf "most_at_once" "most_at_once" (Zr Zfv) (Zn Zfv) (Zf Zfv) .none kV21 dc21 pm21 an21 cd21 ct21),sl21⟩) (c21:codeIn K cd21 "most_at_once"=true) (k21:keepIn K (.ref f21)=true)
    (a22:nsIn K mainGlobals "paid_syn"=some (some (.ref f22))) (l22:K.lookup f22=some ⟨oc22,od22,.func (fnOf "paid_syn" "paid_syn" (Zr Zfu) (Zn Zfu) (Zf Zfu) .none kV22 dc22 pm22 an22 cd22 ct22),sl22⟩) (c22:codeIn K cd22 "paid_syn"=true) (k22:keepIn K (.ref f22)=true)
    (a23:nsIn K mainGlobals "segment_of"=some (some (.ref f23))) (l23:K.lookup f23=some ⟨oc23,od23,.func (fnOf "segment_of" "segment_of" (Zr Zft) (Zn Zft) (Zf Zft) .none kV23 dc23 pm23 an23 cd23 ct23),sl23⟩) (c23:codeIn K cd23 "segment_of"=true) (k23:keepIn K (.ref f23)=true)
    (a24:nsIn K mainGlobals "going_as_new"=some (some (.ref f24))) (l24:K.lookup f24=some ⟨oc24,od24,.func (fnOf "going_as_new" "going_as_new" (Zr Zfs) (Zn Zfs) (Zf Zfs) .none kV24 dc24 pm24 an24 cd24 ct24),sl24⟩) (c24:codeIn K cd24 "going_as_new"=true) (k24:keepIn K (.ref f24)=true)
    (a25:nsIn K mainGlobals "new_syn"=some (some (.ref f25))) (l25:K.lookup f25=some ⟨oc25,od25,.func (fnOf "new_syn" "new_syn" (Zr Zfr) (Zn Zfr) (Zf Zfr) .none kV25 dc25 pm25 an25 cd25 ct25),sl25⟩) (c25:codeIn K cd25 "new_syn"=true) (k25:keepIn K (.ref f25)=true)
    (a26:nsIn K mainGlobals "has_more"=some (some (.ref f26))) (l26:K.lookup f26=some ⟨oc26,od26,.func (fnOf "has_more" "has_more" (Zr Zfq) (Zn Zfq) (Zf Zfq) .none kV26 dc26 pm26 an26 cd26 ct26),sl26⟩) (c26:codeIn K cd26 "has_more"=true) (k26:keepIn K (.ref f26)=true)
    (a27:nsIn K mainGlobals "has_new_data"=some (some (.ref f27))) (l27:K.lookup f27=some ⟨oc27,od27,.func (fnOf "has_new_data" "has_new_data" (Zr Zfp) (Zn Zfp) (Zf Zfp) .none kV27 dc27 pm27 an27 cd27 ct27),sl27⟩) (c27:codeIn K cd27 "has_new_data"=true) (k27:keepIn K (.ref f27)=true)
    (a28:nsIn K mainGlobals "unsent"=some (some (.ref f28))) (l28:K.lookup f28=some ⟨oc28,od28,.func (fnOf "unsent" "unsent" (Zr Zfo) (Zn Zfo) (Zf Zfo) .none kV28 dc28 pm28 an28 cd28 ct28),sl28⟩) (c28:codeIn K cd28 "unsent"=true) (k28:keepIn K (.ref f28)=true)
    (a29:nsIn K mainGlobals "has_new_fin"=some (some (.ref f29))) (l29:K.lookup f29=some ⟨oc29,od29,.func (fnOf "has_new_fin" "has_new_fin" (Zr Zfn) (Zn Zfn) (Zf Zfn) .none kV29 dc29 pm29 an29 cd29 ct29),sl29⟩) (c29:codeIn K cd29 "has_new_fin"=true) (k29:keepIn K (.ref f29)=true)
    (a30:nsIn K mainGlobals "new_piece"=some (some (.ref f30))) (l30:K.lookup f30=some ⟨oc30,od30,.func (fnOf "new_piece" "new_piece" (Zr Zfm) (Zn Zfm) (Zf Zfm) .none kV30 dc30 pm30 an30 cd30 ct30),sl30⟩) (c30:codeIn K cd30 "new_piece"=true) (k30:keepIn K (.ref f30)=true)
    (a31:nsIn K mainGlobals "new_data"=some (some (.ref f31))) (l31:K.lookup f31=some ⟨oc31,od31,.func (fnOf "new_data" "new_data" (Zr Zfl) (Zn Zfl) (Zf Zfl) .none kV31 dc31 pm31 an31 cd31 ct31),sl31⟩) (c31:codeIn K cd31 "new_data"=true) (k31:keepIn K (.ref f31)=true)
    (a32:nsIn K mainGlobals "new_fin"=some (some (.ref f32))) (l32:K.lookup f32=some ⟨oc32,od32,.func (fnOf "new_fin" "new_fin" (Zr Zfk) (Zn Zfk) (Zf Zfk) .none kV32 dc32 pm32 an32 cd32 ct32),sl32⟩) (c32:codeIn K cd32 "new_fin"=true) (k32:keepIn K (.ref f32)=true)
    (a33:nsIn K mainGlobals "going_as_probe"=some (some (.ref f33))) (l33:K.lookup f33=some ⟨oc33,od33,.func (fnOf "going_as_probe" "going_as_probe" (Zr Zfj) (Zn Zfj) (Zf Zfj) .none kV33 dc33 pm33 an33 cd33 ct33),sl33⟩) (c33:codeIn K cd33 "going_as_probe"=true) (k33:keepIn K (.ref f33)=true)
    (a34:nsIn K mainGlobals "going_as_answer"=some (some (.ref f34))) (l34:K.lookup f34=some ⟨oc34,od34,.func (fnOf "going_as_answer" "going_as_answer" (Zr Zfi) (Zn Zfi) (Zf Zfi) .none kV34 dc34 pm34 an34 cd34 ct34),sl34⟩) (c34:codeIn K cd34 "going_as_answer"=true) (k34:keepIn K (.ref f34)=true)
    (a35:findIn K (.ref C_Host) "__init__"=some (some (.ref f35))) (i35:isFn K (.ref f35)=true) (l35:K.lookup f35=some ⟨oc35,od35,.func (fnOf "__init__" "Host.__init__" (Zr Zfh) (Zn Zfh) (Zf Zfh) .none kV35 dc35 pm35 an35 cd35 ct35),sl35⟩) (c35:codeIn K cd35 "Host.__init__"=true) (k35:keepIn K (.ref f35)=true)
    (a36:findIn K (.ref C_Host) "calls"=some (some (.ref f36))) (i36:isFn K (.ref f36)=true) (l36:K.lookup f36=some ⟨oc36,od36,.func (fnOf "calls" "Host.calls" (Zr Zfg) (Zn Zfg) (Zf Zfg) .none kV36 dc36 pm36 an36 cd36 ct36),sl36⟩) (c36:codeIn K cd36 "Host.calls"=true) (k36:keepIn K (.ref f36)=true)
    (a37:findIn K (.ref C_Host) "sends"=some (some (.ref f37))) (i37:isFn K (.ref f37)=true) (l37:K.lookup f37=some ⟨oc37,od37,.func (fnOf "sends" "Host.sends" (Zr Zff) (Zn Zff) (Zf Zff) .none kV37 dc37 pm37 an37 cd37 ct37),sl37⟩) (c37:codeIn K cd37 "Host.sends"=true) (k37:keepIn K (.ref f37)=true)
    (a38:nsIn K mainGlobals "live_end"=some (some (.ref f38))) (l38:K.lookup f38=some ⟨oc38,od38,.func (fnOf "live_end" "live_end" (Zr Zfe) (Zn Zfe) (Zf Zfe) .none kV38 dc38 pm38 an38 cd38 ct38),sl38⟩) (c38:codeIn K cd38 "live_end"=true) (k38:keepIn K (.ref f38)=true)
    (a39:nsIn K mainGlobals "made_end"=some (some (.ref f39))) (l39:K.lookup f39=some ⟨oc39,od39,.func (fnOf "made_end" "made_end" (Zr Zfd) (Zn Zfd) (Zf Zfd) .none kV39 dc39 pm39 an39 cd39 ct39),sl39⟩) (c39:codeIn K cd39 "made_end"=true) (k39:keepIn K (.ref f39)=true)
    (a40:nsIn K mainGlobals "_law_cell"=some (some (.ref f40))) (l40:K.lookup f40=some ⟨oc40,od40,.func (fnOf "_law_cell" "_law_cell" (Zr Zfc) (Zn Zfc) (Zf Zfc) .none kV40 dc40 pm40 an40 cd40 ct40),sl40⟩) (c40:codeIn K cd40 "_law_cell"=true) (k40:keepIn K (.ref f40)=true)
    (a41:nsIn K mainGlobals "_law_mix"=some (some (.ref f41))) (l41:K.lookup f41=some ⟨oc41,od41,.func (fnOf "_law_mix" "_law_mix" (Zr Zfb) (Zn Zfb) (Zf Zfb) .none kV41 dc41 pm41 an41 cd41 ct41),sl41⟩) (c41:codeIn K cd41 "_law_mix"=true) (k41:keepIn K (.ref f41)=true)
    (a42:nsIn K mainGlobals "_law_two"=some (some (.ref f42))) (l42:K.lookup f42=some ⟨oc42,od42,.func (fnOf "_law_two" "_law_two" (Zr Zfa) (Zn Zfa) (Zf Zfa) .none kV42 dc42 pm42 an42 cd42 ct42),sl42⟩) (c42:codeIn K cd42 "_law_two"=true) (k42:keepIn K (.ref f42)=true)
    (a43:nsIn K mainGlobals "_law_folded"=some (some (.ref f43))) (l43:K.lookup f43=some ⟨oc43,od43,.func (fnOf "_law_folded" "_law_folded" (Zr Ze9) (Zn Ze9) (Zf Ze9) .none kV43 dc43 pm43 an43 cd43 ct43),sl43⟩) (c43:codeIn K cd43 "_law_folded"=true) (k43:keepIn K (.ref f43)=true)
    (a44:nsIn K mainGlobals "_law_bytes"=some (some (.ref f44))) (l44:K.lookup f44=some ⟨oc44,od44,.func (fnOf "_law_bytes" "_law_bytes" (Zr Ze8) (Zn Ze8) (Zf Ze8) .none kV44 dc44 pm44 an44 cd44 ct44),sl44⟩) (c44:codeIn K cd44 "_law_bytes"=true) (k44:keepIn K (.ref f44)=true)
    (a45:nsIn K mainGlobals "law"=some (some (.ref f45))) (l45:K.lookup f45=some ⟨oc45,od45,.func (fnOf "law" "law" (Zr Zdm) (Zn Zdm) (Zf Zdm) .none kV45 dc45 pm45 an45 cd45 ct45),sl45⟩) (c45:codeIn K cd45 "law"=true) (k45:keepIn K (.ref f45)=true)
    (pg_End:plainGet K C_End Str.empty=true) (hd_End:hasDictIn K C_End=true) (po_End:plainOver K C_End=true) (sa_End:findIn K (.ref C_End) "__setattr__"=some (some (.builtin "object.__setattr__"))) (mk_End:makesIn K C_End=true) (kc_End:keepIn K (.ref C_End)=true)
    (pg_Host:plainGet K C_Host Str.empty=true) (hd_Host:hasDictIn K C_Host=true) (po_Host:plainOver K C_Host=true) (sa_Host:findIn K (.ref C_Host) "__setattr__"=some (some (.builtin "object.__setattr__"))) (mk_Host:makesIn K C_Host=true) (kc_Host:keepIn K (.ref C_Host)=true)
    (pg_Pile:plainGet K C_Pile Str.empty=true) (hd_Pile:hasDictIn K C_Pile=true) (po_Pile:plainOver K C_Pile=true) (sa_Pile:findIn K (.ref C_Pile) "__setattr__"=some (some (.builtin "object.__setattr__"))) (mk_Pile:makesIn K C_Pile=true) (kc_Pile:keepIn K (.ref C_Pile)=true)
    (zA0:findIn K (.ref C_End) "behind"=some none)
    (zA1:findIn K (.ref C_End) "come"=some none)
    (zA2:findIn K (.ref C_End) "early"=some none)
    (zA3:findIn K (.ref C_End) "early_fin"=some none)
    (zA4:findIn K (.ref C_End) "error"=some none)
    (zA5:findIn K (.ref C_End) "first"=some none)
    (zA6:findIn K (.ref C_End) "has_closed"=some none)
    (zA7:findIn K (.ref C_End) "most"=some none)
    (zA8:findIn K (.ref C_End) "nxt"=some none)
    (zA9:findIn K (.ref C_End) "ours"=some none)
    (zA10:findIn K (.ref C_End) "owed_reset"=some none)
    (zA11:findIn K (.ref C_End) "owes_answer"=some none)
    (zA12:findIn K (.ref C_End) "owes_syn"=some none)
    (zA13:findIn K (.ref C_End) "probes"=some none)
    (zA14:findIn K (.ref C_End) "rcv"=some none)
    (zA15:findIn K (.ref C_End) "since"=some none)
    (zA16:findIn K (.ref C_End) "state"=some none)
    (zA17:findIn K (.ref C_End) "theirs"=some none)
    (zA18:findIn K (.ref C_End) "told"=some none)
    (zA19:findIn K (.ref C_End) "told_by"=some none)
    (zA20:findIn K (.ref C_End) "tries"=some none)
    (zA21:findIn K (.ref C_End) "una"=some none)
    (zA22:findIn K (.ref C_End) "wait"=some none)
    (zA23:findIn K (.ref C_End) "wnd"=some none)
    (zA24:findIn K (.ref C_End) "written"=some none)
    (zA25:findIn K (.ref C_Host) "coming_first"=some none)
    (zA26:findIn K (.ref C_Host) "ends"=some none)
    (zA27:findIn K (.ref C_Host) "latest"=some none)
    (zA28:findIn K (.ref C_Host) "owed_reset"=some none)
    (zA29:findIn K (.ref C_Host) "turn"=some none)
    (zA30:findIn K (.ref C_Host) "untaken"=some none)
    (zA31:findIn K (.ref C_Pile) "row"=some none)
    (zg0:nsIn K mainGlobals "ACK"=some (some (.int 16 zt0)))
    (zg1:nsIn K mainGlobals "ANSWER"=some (some (.int 3 zt1)))
    (zg2:nsIn K mainGlobals "CLOSED"=some (some (.str "closed" zt2)))
    (zg3:nsIn K mainGlobals "CLOSE_WAIT"=some (some (.str "close wait" zt3)))
    (zg4:nsIn K mainGlobals "CLOSING"=some (some (.str "closing" zt4)))
    (zg5:nsIn K mainGlobals "DATA"=some (some (.int 7 zt5)))
    (zg6:nsIn K mainGlobals "FIN"=some (some (.int 1 zt6)))
    (zg7:nsIn K mainGlobals "FIRST_WAIT"=some (some (.int 1000 zt7)))
    (zg8:nsIn K mainGlobals "FLAGS"=some (some (.int 4 zt8)))
    (zg9:nsIn K mainGlobals "GOAL"=some (some (.int 1 zt9)))
    (zg10:nsIn K mainGlobals "GREATEST_DATA"=some (some (.int 16 zt10)))
    (zg11:nsIn K mainGlobals "GREATEST_WORD"=some (some (.int 65535 zt11)))
    (zg12:nsIn K mainGlobals "HALF_ROUND"=some (some (.int 2147483648 zt12)))
    (zg13:nsIn K mainGlobals "LAST_ACK"=some (some (.str "last ack" zt13)))
    (zg14:nsIn K mainGlobals "LAST_WAIT"=some (some (.int 120000 zt14)))
    (zg15:nsIn K mainGlobals "LISTEN"=some (some (.str "listen" zt15)))
    (zg16:nsIn K mainGlobals "LONGEST_WAIT"=some (some (.int 16000 zt16)))
    (zg17:nsIn K mainGlobals "LONG_HEAD"=some (some (.int 24 zt17)))
    (zg18:nsIn K mainGlobals "MOST"=some (some (.int 6 zt18)))
    (zg19:nsIn K mainGlobals "MOST_TRIES"=some (some (.int 6 zt19)))
    (zg20:nsIn K mainGlobals "MOST_UNTOLD"=some (some (.int 12 zt20)))
    (zg21:nsIn K mainGlobals "NO_ERROR"=some (some (.str "" zt21)))
    (zg22:nsIn K mainGlobals "NUMBER"=some (some (.int 2 zt22)))
    (zg23:nsIn K mainGlobals "OPEN"=some (some (.str "open" zt23)))
    (zg24:nsIn K mainGlobals "PSH"=some (some (.int 8 zt24)))
    (zg25:nsIn K mainGlobals "ROOM"=some (some (.int 64 zt25)))
    (zg26:nsIn K mainGlobals "ROUND"=some (some (.int 4294967296 zt26)))
    (zg27:nsIn K mainGlobals "SHORT_HEAD"=some (some (.int 20 zt27)))
    (zg28:nsIn K mainGlobals "SOURCE"=some (some (.int 0 zt28)))
    (zg29:nsIn K mainGlobals "STEP_OF_FIRSTS"=some (some (.int 64000 zt29)))
    (zg30:nsIn K mainGlobals "SYN"=some (some (.int 2 zt30)))
    (zg31:nsIn K mainGlobals "SYN_COME"=some (some (.str "syn come" zt31)))
    (zg32:nsIn K mainGlobals "SYN_SENT"=some (some (.str "syn sent" zt32)))
    (zg33:nsIn K mainGlobals "TIME"=some (some (.str "time" zt33)))
    (zg34:nsIn K mainGlobals "TIME_WAIT"=some (some (.str "time wait" zt34)))
    (zg35:nsIn K mainGlobals "WAIT_ONE"=some (some (.str "wait one" zt35)))
    (zg36:nsIn K mainGlobals "WINDOW"=some (some (.int 5 zt36)))
    (zg37:nsIn K mainGlobals "WORDS"=some (some (.int 65536 zt37)))
    (z_int:nsIn K mainGlobals "int"=some none)
    (z_len:nsIn K mainGlobals "len"=some none)
    (z_list:nsIn K mainGlobals "list"=some none)
    (z_min:nsIn K mainGlobals "min"=some none)
    (z_range:nsIn K mainGlobals "range"=some none)
    (z_sum:nsIn K mainGlobals "sum"=some none)
    (z_tuple:nsIn K mainGlobals "tuple"=some none) :
    ∃fd:FuncData,(∀(s:Shared) (v:Value),BindsTo s fd ⟨[v],[]⟩ [("_law_script",v)])∧∀base:Heap,K.In base→base.Ns mainGlobals mg→FnOk l.prog w K mg base CX0 10 fa fd ["_law_script"] (ZgN K):=by
  have e:=hfa.symm.trans (mg_of X G a45)
  cases e
  have eC_End:C_End=ZU mg "End":=(Ze1 (mg_of X G aC_End)).symm
  have eC_Host:C_Host=ZU mg "Host":=(Ze1 (mg_of X G aC_Host)).symm
  have eC_Pile:C_Pile=ZU mg "Pile":=(Ze1 (mg_of X G aC_Pile)).symm
  subst eC_End
  subst eC_Host
  subst eC_Pile
  have g:Glb K mg:=⟨⟨_,mg_of X G zg0⟩,⟨_,mg_of X G zg1⟩,⟨_,mg_of X G zg2⟩,⟨_,mg_of X G zg3⟩,⟨_,mg_of X G zg4⟩,⟨_,mg_of X G zg5⟩,⟨_,mg_of X G zg6⟩,⟨_,mg_of X G zg7⟩,⟨_,mg_of X G zg8⟩,⟨_,mg_of X G zg9⟩,⟨_,mg_of X G zg10⟩,⟨_,mg_of X G zg11⟩,⟨_,mg_of X G zg12⟩,⟨_,mg_of X G zg13⟩,⟨_,mg_of X G zg14⟩,⟨_,mg_of X G zg15⟩,⟨_,mg_of X G zg16⟩,⟨_,mg_of X G zg17⟩,⟨_,mg_of X G zg18⟩,⟨_,mg_of X G zg19⟩,⟨_,mg_of X G zg20⟩,⟨_,mg_of X G zg21⟩,⟨_,mg_of X G zg22⟩,⟨_,mg_of X G zg23⟩,⟨_,mg_of X G zg24⟩,⟨_,mg_of X G zg25⟩,⟨_,mg_of X G zg26⟩,⟨_,mg_of X G zg27⟩,⟨_,mg_of X G zg28⟩,⟨_,mg_of X G zg29⟩,⟨_,mg_of X G zg30⟩,⟨_,mg_of X G zg31⟩,⟨_,mg_of X G zg32⟩,⟨_,mg_of X G zg33⟩,⟨_,mg_of X G zg34⟩,⟨_,mg_of X G zg35⟩,⟨_,mg_of X G zg36⟩,⟨_,mg_of X G zg37⟩,mg_none_of X G z_int,mg_none_of X G z_len,mg_none_of X G z_list,mg_none_of X G z_min,mg_none_of X G z_range,mg_none_of X G z_sum,mg_none_of X G z_tuple,⟨pg_End,hd_End,po_End,sa_End⟩,⟨pg_Host,hd_Host,po_Host,sa_Host⟩,⟨pg_Pile,hd_Pile,po_Pile,sa_Pile⟩,zA0,zA1,zA2,zA3,zA4,zA5,zA6,zA7,zA8,zA9,zA10,zA11,zA12,zA13,zA14,zA15,zA16,zA17,zA18,zA19,zA20,zA21,zA22,zA23,zA24,zA25,zA26,zA27,zA28,zA29,zA30,zA31⟩
  have F0:=Zz (st:=zs0) l0 c0 k0
  have b0:=F0.binds (ps:=zP0) fun _ _ _ _ _ _=>us1 fun _=>rfl
  have D0:Mk0 K mg "Pile" "Pile.__init__" zs0 zP0:=⟨_,_,F0,b0,⟨mk_Pile,a0,i0,kc_Pile⟩,mg_of X G aC_Pile⟩
  have F1:=Zz (st:=zs1) l1 c1 k1
  have b1:=F1.binds (ps:=zP1) fun _ _ _ _ _ _=>us1 fun _=>rfl
  have D1:Zu K mg "room" zs1 zP1:=⟨_,_,F1,b1,mg_of X G a1⟩
  have F2:=Zz (st:=zs2) l2 c2 k2
  have b2:=F2.binds (ps:=zP2) fun _ _ _ _ _ _=>us2 fun _ _=>rfl
  have D2:Zu K mg "plus" zs2 zP2:=⟨_,_,F2,b2,mg_of X G a2⟩
  have F3:=Zz (st:=zs3) l3 c3 k3
  have b3:=F3.binds (ps:=zP3) fun _ _ _ _ _ _=>us2 fun _ _=>rfl
  have D3:Zu K mg "offset" zs3 zP3:=⟨_,_,F3,b3,mg_of X G a3⟩
  have F4:=Zz (st:=zs4) l4 c4 k4
  have b4:=F4.binds (ps:=zP4) fun _ _ _ _ _ _=>us5 fun _ _ _ _ _=>rfl
  have D4:Mk0 K mg "End" "End.__init__" zs4 zP4:=⟨_,_,F4,b4,⟨mk_End,a4,i4,kc_End⟩,mg_of X G aC_End⟩
  have F5:=Zz (st:=zs5) l5 c5 k5
  have b5:=F5.binds (ps:=zP5) fun _ _ _ _ _ _=>us2 fun _ _=>rfl
  have D5:Zu K mg "start_timer" zs5 zP5:=⟨_,_,F5,b5,mg_of X G a5⟩
  have F6:=Zz (st:=zs6) l6 c6 k6
  have b6:=F6.binds (ps:=zP6) fun _ _ _ _ _ _=>us1 fun _=>rfl
  have D6:Zu K mg "our_window" zs6 zP6:=⟨_,_,F6,b6,mg_of X G a6⟩
  have F7:=Zz (st:=zs7) l7 c7 k7
  have b7:=F7.binds (ps:=zP7) fun _ _ _ _ _ _=>us1 fun _=>rfl
  have D7:Zu K mg "folded" zs7 zP7:=⟨_,_,F7,b7,mg_of X G a7⟩
  have F8:=Zz (st:=zs8) l8 c8 k8
  have b8:=F8.binds (ps:=zP8) fun _ _ _ _ _ _=>us1 fun _=>rfl
  have D8:Zu K mg "sum_of" zs8 zP8:=⟨_,_,F8,b8,mg_of X G a8⟩
  have F9:=Zz (st:=zs9) l9 c9 k9
  have b9:=F9.binds (ps:=zP9) fun _ _ _ _ _ _=>us1 fun _=>rfl
  have D9:Zu K mg "put" zs9 zP9:=⟨_,_,F9,b9,mg_of X G a9⟩
  have F10:=Zz (st:=ZfG) l10 c10 k10
  have b10:=F10.binds (ps:=Ziv) fun _ _ _ _ _ _=>us1 fun _=>rfl
  have D10:Zu K mg "bytes_ahead_of_sum" ZfG Ziv:=⟨_,_,F10,b10,mg_of X G a10⟩
  have F11:=Zz (st:=ZfF) l11 c11 k11
  have b11:=F11.binds (ps:=Ziu) fun _ _ _ _ _ _=>us1 fun _=>rfl
  have D11:Zu K mg "byte_of_head" ZfF Ziu:=⟨_,_,F11,b11,mg_of X G a11⟩
  have F12:=Zz (st:=ZfE) l12 c12 k12
  have b12:=F12.binds (ps:=Zit) fun _ _ _ _ _ _=>us1 fun _=>rfl
  have D12:Zu K mg "bytes_of_most" ZfE Zit:=⟨_,_,F12,b12,mg_of X G a12⟩
  have F13:=Zz (st:=ZfD) l13 c13 k13
  have b13:=F13.binds (ps:=Zis) fun _ _ _ _ _ _=>us1 fun _=>rfl
  have D13:Zu K mg "two_bytes" ZfD Zis:=⟨_,_,F13,b13,mg_of X G a13⟩
  have F14:=Zz (st:=ZfC) l14 c14 k14
  have b14:=F14.binds (ps:=Zir) fun _ _ _ _ _ _=>us1 fun _=>rfl
  have D14:Zu K mg "four_bytes" ZfC Zir:=⟨_,_,F14,b14,mg_of X G a14⟩
  have F15:=Zz (st:=ZfB) l15 c15 k15
  have b15:=F15.binds (ps:=Ziq) fun _ _ _ _ _ _=>us4 fun _ _ _ _=>rfl
  have D15:Zu K mg "opened" ZfB Ziq:=⟨_,_,F15,b15,mg_of X G a15⟩
  have F16:=Zz (st:=ZfA) l16 c16 k16
  have b16:=F16.binds (ps:=Zip) fun _ _ _ _ _ _=>us2 fun _ _=>rfl
  have D16:Zu K mg "send" ZfA Zip:=⟨_,_,F16,b16,mg_of X G a16⟩
  have F17:=Zz (st:=Zfz) l17 c17 k17
  have b17:=F17.binds (ps:=Zio) fun _ _ _ _ _ _=>us2 fun _ _=>rfl
  have D17:Zu K mg "going" Zfz Zio:=⟨_,_,F17,b17,mg_of X G a17⟩
  have F18:=Zz (st:=Zfy) l18 c18 k18
  have b18:=F18.binds (ps:=Zin) fun _ _ _ _ _ _=>us1 fun _=>rfl
  have D18:Zu K mg "paid_reset" Zfy Zin:=⟨_,_,F18,b18,mg_of X G a18⟩
  have F19:=Zz (st:=Zfx) l19 c19 k19
  have b19:=F19.binds (ps:=Zim) fun _ _ _ _ _ _=>us2 fun _ _=>rfl
  have D19:Zu K mg "is_due" Zfx Zim:=⟨_,_,F19,b19,mg_of X G a19⟩
  have F20:=Zz (st:=Zfw) l20 c20 k20
  have b20:=F20.binds (ps:=Zil) fun _ _ _ _ _ _=>us2 fun _ _=>rfl
  have D20:Zu K mg "again" Zfw Zil:=⟨_,_,F20,b20,mg_of X G a20⟩
  have F21:=Zz (st:=Zfv) l21 c21 k21
  have b21:=F21.binds (ps:=Zik) fun _ _ _ _ _ _=>us1 fun _=>rfl
  have D21:Zu K mg "most_at_once" Zfv Zik:=⟨_,_,F21,b21,mg_of X G a21⟩
  have F22:=Zz (st:=Zfu) l22 c22 k22
  have b22:=F22.binds (ps:=Zij) fun _ _ _ _ _ _=>us1 fun _=>rfl
  have D22:Zu K mg "paid_syn" Zfu Zij:=⟨_,_,F22,b22,mg_of X G a22⟩
  have F23:=Zz (st:=Zft) l23 c23 k23
  have b23:=F23.binds (ps:=Zii) fun _ _ _ _ _ _=>us4 fun _ _ _ _=>rfl
  have D23:Zu K mg "segment_of" Zft Zii:=⟨_,_,F23,b23,mg_of X G a23⟩
  have F24:=Zz (st:=Zfs) l24 c24 k24
  have b24:=F24.binds (ps:=Zih) fun _ _ _ _ _ _=>us2 fun _ _=>rfl
  have D24:Zu K mg "going_as_new" Zfs Zih:=⟨_,_,F24,b24,mg_of X G a24⟩
  have F25:=Zz (st:=Zfr) l25 c25 k25
  have b25:=F25.binds (ps:=Zig) fun _ _ _ _ _ _=>us2 fun _ _=>rfl
  have D25:Zu K mg "new_syn" Zfr Zig:=⟨_,_,F25,b25,mg_of X G a25⟩
  have F26:=Zz (st:=Zfq) l26 c26 k26
  have b26:=F26.binds (ps:=Zif) fun _ _ _ _ _ _=>us1 fun _=>rfl
  have D26:Zu K mg "has_more" Zfq Zif:=⟨_,_,F26,b26,mg_of X G a26⟩
  have F27:=Zz (st:=Zfp) l27 c27 k27
  have b27:=F27.binds (ps:=Zie) fun _ _ _ _ _ _=>us1 fun _=>rfl
  have D27:Zu K mg "has_new_data" Zfp Zie:=⟨_,_,F27,b27,mg_of X G a27⟩
  have F28:=Zz (st:=Zfo) l28 c28 k28
  have b28:=F28.binds (ps:=Zid) fun _ _ _ _ _ _=>us1 fun _=>rfl
  have D28:Zu K mg "unsent" Zfo Zid:=⟨_,_,F28,b28,mg_of X G a28⟩
  have F29:=Zz (st:=Zfn) l29 c29 k29
  have b29:=F29.binds (ps:=Zic) fun _ _ _ _ _ _=>us1 fun _=>rfl
  have D29:Zu K mg "has_new_fin" Zfn Zic:=⟨_,_,F29,b29,mg_of X G a29⟩
  have F30:=Zz (st:=Zfm) l30 c30 k30
  have b30:=F30.binds (ps:=Zib) fun _ _ _ _ _ _=>us2 fun _ _=>rfl
  have D30:Zu K mg "new_piece" Zfm Zib:=⟨_,_,F30,b30,mg_of X G a30⟩
  have F31:=Zz (st:=Zfl) l31 c31 k31
  have b31:=F31.binds (ps:=Zia) fun _ _ _ _ _ _=>us2 fun _ _=>rfl
  have D31:Zu K mg "new_data" Zfl Zia:=⟨_,_,F31,b31,mg_of X G a31⟩
  have F32:=Zz (st:=Zfk) l32 c32 k32
  have b32:=F32.binds (ps:=Zh9) fun _ _ _ _ _ _=>us1 fun _=>rfl
  have D32:Zu K mg "new_fin" Zfk Zh9:=⟨_,_,F32,b32,mg_of X G a32⟩
  have F33:=Zz (st:=Zfj) l33 c33 k33
  have b33:=F33.binds (ps:=Zh8) fun _ _ _ _ _ _=>us2 fun _ _=>rfl
  have D33:Zu K mg "going_as_probe" Zfj Zh8:=⟨_,_,F33,b33,mg_of X G a33⟩
  have F34:=Zz (st:=Zfi) l34 c34 k34
  have b34:=F34.binds (ps:=Zh7) fun _ _ _ _ _ _=>us1 fun _=>rfl
  have D34:Zu K mg "going_as_answer" Zfi Zh7:=⟨_,_,F34,b34,mg_of X G a34⟩
  have F35:=Zz (st:=Zfh) l35 c35 k35
  have b35:=F35.binds (ps:=Zh6) fun _ _ _ _ _ _=>us2 fun _ _=>rfl
  have D35:Mk0 K mg "Host" "Host.__init__" Zfh Zh6:=⟨_,_,F35,b35,⟨mk_Host,a35,i35,kc_Host⟩,mg_of X G aC_Host⟩
  have F36:=Zz (st:=Zfg) l36 c36 k36
  have b36:=F36.binds (ps:=Zh5) fun _ _ _ _ _ _=>us3 fun _ _ _=>rfl
  have D36:Me0 K mg "Host" "calls" "Host.calls" Zfg Zh5:=⟨_,_,F36,b36,⟨a36,i36,k36⟩⟩
  have F37:=Zz (st:=Zff) l37 c37 k37
  have b37:=F37.binds (ps:=Zh4) fun _ _ _ _ _ _=>us2 fun _ _=>rfl
  have D37:Me0 K mg "Host" "sends" "Host.sends" Zff Zh4:=⟨_,_,F37,b37,⟨a37,i37,k37⟩⟩
  have F38:=Zz (st:=Zfe) l38 c38 k38
  have b38:=F38.binds (ps:=Zh3) fun _ _ _ _ _ _=>us3 fun _ _ _=>rfl
  have D38:Zu K mg "live_end" Zfe Zh3:=⟨_,_,F38,b38,mg_of X G a38⟩
  have F39:=Zz (st:=Zfd) l39 c39 k39
  have b39:=F39.binds (ps:=Zh2) fun _ _ _ _ _ _=>us4 fun _ _ _ _=>rfl
  have D39:Zu K mg "made_end" Zfd Zh2:=⟨_,_,F39,b39,mg_of X G a39⟩
  have F40:=Zz (st:=Zfc) l40 c40 k40
  have b40:=F40.binds (ps:=Zh1) fun _ _ _ _ _ _=>us2 fun _ _=>rfl
  have D40:Zu K mg "_law_cell" Zfc Zh1:=⟨_,_,F40,b40,mg_of X G a40⟩
  have F41:=Zz (st:=Zfb) l41 c41 k41
  have b41:=F41.binds (ps:=Zh0) fun _ _ _ _ _ _=>us2 fun _ _=>rfl
  have D41:Zu K mg "_law_mix" Zfb Zh0:=⟨_,_,F41,b41,mg_of X G a41⟩
  have F42:=Zz (st:=Zfa) l42 c42 k42
  have b42:=F42.binds (ps:=ZhZ) fun _ _ _ _ _ _=>us1 fun _=>rfl
  have D42:Zu K mg "_law_two" Zfa ZhZ:=⟨_,_,F42,b42,mg_of X G a42⟩
  have F43:=Zz (st:=Ze9) l43 c43 k43
  have b43:=F43.binds (ps:=ZhY) fun _ _ _ _ _ _=>us1 fun _=>rfl
  have D43:Zu K mg "_law_folded" Ze9 ZhY:=⟨_,_,F43,b43,mg_of X G a43⟩
  have F44:=Zz (st:=Ze8) l44 c44 k44
  have b44:=F44.binds (ps:=ZhX) fun _ _ _ _ _ _=>us1 fun _=>rfl
  have D44:Zu K mg "_law_bytes" Ze8 ZhX:=⟨_,_,F44,b44,mg_of X G a44⟩
  have F45:=Zz (st:=Zdm) l45 c45 k45
  have b45:=F45.binds (ps:=ZhW) fun _ _ _ _ _ _=>us1 fun _=>rfl
  have D45:Zu K mg "law" Zdm ZhW:=⟨_,_,F45,b45,mg_of X G a45⟩
  refine ⟨fnOf "law" "law" (Zr Zdm) (Zn Zdm) (Zf Zdm) .none kV45 dc45 pm45 an45 cd45 ct45,fun s v=>.of_eq rfl,fun base _ _=>?_⟩
  exact ZkR law_true (Zms F45 D0 D1 D2 D3 D4 D5 D6 D7 D8 D9 D10 D11 D12 D13 D14 D15 D16 D17 D18 D19 D20 D21 D22 D23 D24 D25 D26 D27 D28 D29 D30 D31 D32 D33 D34 D35 D36 D37 D38 D39 D40 D41 D42 D43 D44 g)
theorem Zpt {l:OpenLaw} {q:Program} {loose:List Str} {XP:(Str→Option Value)→Heap→Prop} {YP:World→Heap→Prop} {d:DefRec} {K:Params→Frag} (hn:l.most=some 63) (hdf:d.params.defaults=[])
    (hY:∀(w:World) (h:Heap),YP w h→(K w.params).In h)
    (F:∀(w:World) (mg:Str→Option Value) (fa:Addr) (h:Heap),(K w.params).In h→h.Ns mainGlobals mg→mg d.name=some (.ref fa)→
      ∃fd:FuncData,(∀(s:Shared) (u:Value),BindsTo s fd ⟨[u],[]⟩ [("_law_script",u)])∧∀base:Heap,(K w.params).In base→base.Ns mainGlobals mg→FnOk l.prog w (K w.params) mg base CX0 10 fa fd ["_law_script"] (ZgN (K w.params))) :
    WalkO q loose XP YP l.row.toRowW d [] (fun f vs=>PySem.call f vs):=
  L2.Zj7 (n:=63) (k:=10) (x:="_law_script") (CX:=fun _=>CX0) (sp:=fun w=>ZgN (K w.params)) hn (by decide) hdf ⟨rfl,by decide,by decide⟩ hY F (fun _ H a ns hl hO hS=>⟨a,ns,rfl,hO,hS,hl,fun _=>rfl⟩) fun _ _ _ _ _ z=>z
end My
open PySem PySem.W PyProof.Rows
set_option maxRecDepth 100000 in
set_option maxHeartbeats 0 in
theorem PySem.Challenge.cw_wirestream_k42_each_in_turn_holds : PySem.Challenge.rw_wirestream_k42_each_in_turn.Holds := by
  w_on; o_law; k_head; (case hw=>w_witness2)
  k_fill
  refine My.Zpt (l:=PySem.Challenge.rw_wirestream_k42_each_in_turn) rfl rfl (fun w h Y=>PySem.W.kIn_of Y) ?F
  case F=>
    intro w mg fa h KX G hmg
    refine' My.ZmM KX G hmg ?aC_End ?aC_Host ?aC_Pile ?a0 ?i0 ?l0 ?c0 ?k0 ?a1 ?l1 ?c1 ?k1 ?a2 ?l2 ?c2 ?k2 ?a3 ?l3 ?c3 ?k3 ?a4 ?i4 ?l4 ?c4 ?k4 ?a5 ?l5 ?c5 ?k5 ?a6 ?l6 ?c6 ?k6 ?a7 ?l7 ?c7 ?k7 ?a8 ?l8 ?c8 ?k8 ?a9 ?l9 ?c9 ?k9 ?a10 ?l10 ?c10 ?k10 ?a11 ?l11 ?c11 ?k11 ?a12 ?l12 ?c12 ?k12 ?a13 ?l13 ?c13 ?k13 ?a14 ?l14 ?c14 ?k14 ?a15 ?l15 ?c15 ?k15 ?a16 ?l16 ?c16 ?k16 ?a17 ?l17 ?c17 ?k17 ?a18 ?l18 ?c18 ?k18 ?a19 ?l19 ?c19 ?k19 ?a20 ?l20 ?c20 ?k20 ?a21 ?l21 ?c21 ?k21 ?a22 ?l22 ?c22 ?k22 ?a23 ?l23 ?c23 ?k23 ?a24 ?l24 ?c24 ?k24 ?a25 ?l25 ?c25 ?k25 ?a26 ?l26 ?c26 ?k26 ?a27 ?l27 ?c27 ?k27 ?a28 ?l28 ?c28 ?k28 ?a29 ?l29 ?c29 ?k29 ?a30 ?l30 ?c30 ?k30 ?a31 ?l31 ?c31 ?k31 ?a32 ?l32 ?c32 ?k32 ?a33 ?l33 ?c33 ?k33 ?a34 ?l34 ?c34 ?k34 ?a35 ?i35 ?l35 ?c35 ?k35 ?a36 ?i36 ?l36 ?c36 ?k36 ?a37 ?i37 ?l37 ?c37 ?k37 ?a38 ?l38 ?c38 ?k38 ?a39 ?l39 ?c39 ?k39 ?a40 ?l40 ?c40 ?k40 ?a41 ?l41 ?c41 ?k41 ?a42 ?l42 ?c42 ?k42 ?a43 ?l43 ?c43 ?k43 ?a44 ?l44 ?c44 ?k44 ?a45 ?l45 ?c45 ?k45 ?pg_End ?hd_End ?po_End ?sa_End ?mk_End ?kc_End ?pg_Host ?hd_Host ?po_Host ?sa_Host ?mk_Host ?kc_Host ?pg_Pile ?hd_Pile ?po_Pile ?sa_Pile ?mk_Pile ?kc_Pile ?zA0 ?zA1 ?zA2 ?zA3 ?zA4 ?zA5 ?zA6 ?zA7 ?zA8 ?zA9 ?zA10 ?zA11 ?zA12 ?zA13 ?zA14 ?zA15 ?zA16 ?zA17 ?zA18 ?zA19 ?zA20 ?zA21 ?zA22 ?zA23 ?zA24 ?zA25 ?zA26 ?zA27 ?zA28 ?zA29 ?zA30 ?zA31 ?zg0 ?zg1 ?zg2 ?zg3 ?zg4 ?zg5 ?zg6 ?zg7 ?zg8 ?zg9 ?zg10 ?zg11 ?zg12 ?zg13 ?zg14 ?zg15 ?zg16 ?zg17 ?zg18 ?zg19 ?zg20 ?zg21 ?zg22 ?zg23 ?zg24 ?zg25 ?zg26 ?zg27 ?zg28 ?zg29 ?zg30 ?zg31 ?zg32 ?zg33 ?zg34 ?zg35 ?zg36 ?zg37 ?z_int ?z_len ?z_list ?z_min ?z_range ?z_sum ?z_tuple
    case aC_End | aC_Host | aC_Pile | a0 | i0 | l0 | c0 | k0 | a1 | l1 | c1 | k1 | a2 | l2 | c2 | k2 | a3 | l3 | c3 | k3 | a4 | i4 | l4 | c4 | k4 | a5 | l5 | c5 | k5 | a6 | l6 | c6 | k6 | a7 | l7 | c7 | k7 | a8 | l8 | c8 | k8 | a9 | l9 | c9 | k9 | a10 | l10 | c10 | k10 | a11 | l11 | c11 | k11 | a12 | l12 | c12 | k12 | a13 | l13 | c13 | k13 | a14 | l14 | c14 | k14 | a15 | l15 | c15 | k15 | a16 | l16 | c16 | k16 | a17 | l17 | c17 | k17 | a18 | l18 | c18 | k18 | a19 | l19 | c19 | k19 | a20 | l20 | c20 | k20 | a21 | l21 | c21 | k21 | a22 | l22 | c22 | k22 | a23 | l23 | c23 | k23 | a24 | l24 | c24 | k24 | a25 | l25 | c25 | k25 | a26 | l26 | c26 | k26 | a27 | l27 | c27 | k27 | a28 | l28 | c28 | k28 | a29 | l29 | c29 | k29 | a30 | l30 | c30 | k30 | a31 | l31 | c31 | k31 | a32 | l32 | c32 | k32 | a33 | l33 | c33 | k33 | a34 | l34 | c34 | k34 | a35 | i35 | l35 | c35 | k35 | a36 | i36 | l36 | c36 | k36 | a37 | i37 | l37 | c37 | k37 | a38 | l38 | c38 | k38 | a39 | l39 | c39 | k39 | a40 | l40 | c40 | k40 | a41 | l41 | c41 | k41 | a42 | l42 | c42 | k42 | a43 | l43 | c43 | k43 | a44 | l44 | c44 | k44 | a45 | l45 | c45 | k45 | pg_End | hd_End | po_End | sa_End | mk_End | kc_End | pg_Host | hd_Host | po_Host | sa_Host | mk_Host | kc_Host | pg_Pile | hd_Pile | po_Pile | sa_Pile | mk_Pile | kc_Pile | zA0 | zA1 | zA2 | zA3 | zA4 | zA5 | zA6 | zA7 | zA8 | zA9 | zA10 | zA11 | zA12 | zA13 | zA14 | zA15 | zA16 | zA17 | zA18 | zA19 | zA20 | zA21 | zA22 | zA23 | zA24 | zA25 | zA26 | zA27 | zA28 | zA29 | zA30 | zA31 | zg0 | zg1 | zg2 | zg3 | zg4 | zg5 | zg6 | zg7 | zg8 | zg9 | zg10 | zg11 | zg12 | zg13 | zg14 | zg15 | zg16 | zg17 | zg18 | zg19 | zg20 | zg21 | zg22 | zg23 | zg24 | zg25 | zg26 | zg27 | zg28 | zg29 | zg30 | zg31 | zg32 | zg33 | zg34 | zg35 | zg36 | zg37 | z_int | z_len | z_list | z_min | z_range | z_sum | z_tuple=>k_is
#print axioms PySem.Challenge.cw_wirestream_k42_each_in_turn_holds
