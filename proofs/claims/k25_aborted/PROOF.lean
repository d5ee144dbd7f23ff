import PyProof.Rows.All
import Wide.All
import OpenK.AllK
import Wide.FinOn
import Lean
import PyProof.EqAt
import PyProof.EqKinds
import PyProof.TupleCall
import PySem.Challenge.RW_wirestream_k25_aborted
set_option Elab.async false
set_option linter.all false
set_option maxRecDepth 100000
namespace L2
open PySem PySem.Spec PyProof.Rows
abbrev Key:=Sum Int Str
def ZiH:Key→Value→Bool
  | .inl k,v=>Value.isInt k v
  | .inr x,v=>Value.isStrOf x v
def Zzh (w:World):Key→Int
  | .inl k=>hashInt k
  | .inr x=>hashStr w x
theorem Zap:∀{k:Key} {v:Value},ZiH k v=true→(∃i t,k=Sum.inl i∧v=Value.int i t)∨(∃x t,k=Sum.inr x∧v=Value.str x t)
  | .inl i,v,h=>by
    obtain ⟨t,e⟩:=Value.isInt_shape (k:=i) (v:=v) h
    exact .inl ⟨i,t,rfl,e⟩
  | .inr x,v,h=>by
    obtain ⟨t,e⟩:=Value.isStrOf_shape (x:=x) (v:=v) h
    exact .inr ⟨x,t,rfl,e⟩
theorem ZnC (i:Int) (t:Tok):ZiH (.inl i) (.int i t)=true:=by simp [ZiH,Value.isInt]
theorem ZnB (x:Str) (t:Tok):ZiH (.inr x) (.str x t)=true:=by simp [ZiH,Value.isStrOf]
theorem Zua (a b:Int):decide ((Sum.inl a:Key)=Sum.inl b)=(a == b):=by
  by_cases e:a=b
  · subst e; simp
  · have h:¬(Sum.inl a:Key)=Sum.inl b:=fun q=>e (Sum.inl.inj q)
    rw [decide_eq_false h]
    exact (beq_eq_false_iff_ne.mpr e).symm
theorem Zt7 (a b:Str):decide ((Sum.inr a:Key)=Sum.inr b)=decide (a=b):=by
  by_cases e:a=b
  · subst e; simp
  · have h:¬(Sum.inr a:Key)=Sum.inr b:=fun q=>e (Sum.inr.inj q)
    rw [decide_eq_false h,decide_eq_false e]
theorem Zt9 (a:Int) (b:Str):decide ((Sum.inl a:Key)=Sum.inr b)=false:=decide_eq_false (fun q=>nomatch q)
theorem Zt8 (a:Str) (b:Int):decide ((Sum.inr a:Key)=Sum.inl b)=false:=decide_eq_false (fun q=>nomatch q)
def ZaF (prog:Program) (w:World):PySem.KeyKind prog w Key where
  is:=ZiH
  hash:=Zzh w
  inj:=fun v a b ha hb=>by
    rcases Zap ha with ⟨i,t,rfl,rfl⟩ | ⟨x,t,rfl,rfl⟩
    · rcases Zap hb with ⟨j,u,rfl,e⟩ | ⟨y,u,rfl,e⟩
      · injection e with e1 _; rw [e1]
      · exact nomatch e
    · rcases Zap hb with ⟨j,u,rfl,e⟩ | ⟨y,u,rfl,e⟩
      · exact nomatch e
      · injection e with e1 _; rw [e1]
  byValue:=fun k v h=>by
    rcases Zap h with ⟨i,t,rfl,rfl⟩ | ⟨x,t,rfl,rfl⟩<;>rfl
  pyHash:=fun hv h=>by
    rcases Zap hv with ⟨i,t,rfl,rfl⟩ | ⟨x,t,rfl,rfl⟩
    · exact wpAny_pyHash_int h
    · exact wpAny_pyHash_str h
  eqBool:=fun hu hv h=>by
    rcases Zap hu with ⟨i,t,rfl,rfl⟩ | ⟨x,t,rfl,rfl⟩
    · rcases Zap hv with ⟨j,u,rfl,rfl⟩ | ⟨y,u,rfl,rfl⟩
      · rw [Zua] at h; exact wpAny_eqBool_int h
      · rw [Zt9] at h; exact SeqAt.EqAt.int_str i t y u _ _ _ _ h
    · rcases Zap hv with ⟨j,u,rfl,rfl⟩ | ⟨y,u,rfl,rfl⟩
      · rw [Zt8] at h; exact SeqAt.EqAt.str_int x t j u _ _ _ _ h
      · rw [Zt7] at h; exact wpAny_eqBool_str h
  «strs»:=fun k x t v h=>by
    rcases Zap h with ⟨i,u,rfl,e⟩ | ⟨y,u,rfl,e⟩
    · exact nomatch e
    · injection e with e1 _
      subst e1
      cases v<;>rfl
theorem Zld (prog:Program) (w:World) (i:Int) (t:Tok):(ZaF prog w).is (.inl i) (.int i t)=true:=ZnC i t
theorem Zlc (prog:Program) (w:World) (x:Str) (t:Tok):(ZaF prog w).is (.inr x) (.str x t)=true:=ZnB x t
end L2
namespace L2
open PySem PySem.Spec PyProof.Rows
inductive V where
  | non | bl (b:Bool) | int (i:Int) | str (x:Str) | byt (b:Array UInt8) | flt (b:UInt64) | ref (a:Addr) | ty (n:String)
  deriving DecidableEq
def RelV:V→Value→Prop
  | .non,u=>u=Value.none
  | .bl b,u=>u=Value.bool b
  | .int i,u=>∃t,u=Value.int i t
  | .str x,u=>∃t,u=Value.str x t
  | .byt b,u=>∃t,u=Value.bytes b t
  | .flt b,u=>∃t,u=Value.float b t
  | .ref a,u=>u=Value.ref a
  | .ty n,u=>u=Value.type n
abbrev Vals:List V→List Value→Prop:=Paired RelV
theorem Vals.length {xs:List V} {us:List Value} (r:Vals xs us):xs.length=us.length:=Paired.length r
theorem Vals.get:∀{xs:List V} {us:List Value} {i:Nat} {x:V},Vals xs us→xs[i]?=some x→∃u,us[i]?=some u∧RelV x u
  | _,_,_,_,.nil,e=>by simp at e
  | _,_,0,_,.cons r _,e=>by simp at e; subst e; exact ⟨_,rfl,r⟩
  | _,_,i+1,x,.cons _ t,e=>by
    obtain ⟨u,h1,h2⟩:=Vals.get (i:=i) (x:=x) t (by simpa using e)
    exact ⟨u,by simpa using h1,h2⟩
theorem Vals.set {x:V} {u:Value} (r:RelV x u):∀{xs:List V} {us:List Value} (i:Nat),Vals xs us→Vals (xs.set i x) (us.set i u)
  | _,_,_,.nil=>.nil
  | _,_,0,.cons _ t=>.cons r t
  | _,_,i+1,.cons q t=>.cons q (Vals.set r i t)
theorem Vals.append:∀{xs ys:List V} {us ws:List Value},Vals xs us→Vals ys ws→Vals (xs++ys) (us++ws)
  | _,_,_,_,.nil,s=>s
  | _,_,_,_,.cons r t,s=>.cons r (Vals.append t s)
theorem Vals.take:∀{xs:List V} {us:List Value} (n:Nat),Vals xs us→Vals (xs.take n) (us.take n)
  | _,_,0,_=>.nil
  | _,_,_+1,.nil=>.nil
  | _,_,n+1,.cons r t=>.cons r (Vals.take n t)
theorem Vals.drop:∀{xs:List V} {us:List Value} (n:Nat),Vals xs us→Vals (xs.drop n) (us.drop n)
  | _,_,0,r=>r
  | _,_,_+1,.nil=>.nil
  | _,_,n+1,.cons _ t=>Vals.drop n t
theorem Vals.none_of:∀{xs:List V} {us:List Value} {i:Nat},Vals xs us→xs[i]?=none→us[i]?=none:=fun {xs us i} r e=>by
  have h1:=r.length
  have h2:xs.length≤i:=List.getElem?_eq_none_iff.mp e
  exact List.getElem?_eq_none_iff.mpr (by omega)
def RelO:Option V→Option Value→Prop
  | some v,some u=>RelV v u
  | none,none=>True
  | _,_=>False
def KV {κ:Type}:List (κ×V)→List (κ×Value)→Prop:=Paired fun (p:κ×V) (q:κ×Value)=>p.1=q.1∧RelV p.2 q.2
def kV:Key→V
  | .inl i=>.int i
  | .inr x=>.str x
inductive HO where
  | lst (xs:List V)
  | tup (xs:List V)
  | dK (kvs:List (Key×V)) | dT (kvs:List (List Key×V))
  | set (S:Int→Bool) (n:Nat)
  | ins (C dx:Addr) (fs:List (Str×V))
  | own (x:Addr)
  | xd (fs:List (Str×V))
  | met (f x:Addr)
  | rng (lo hi:Int)
  | frz (o:Obj) (u:HO)
  | tbl (ps:Array Value)
  | ext (φ:Heap→Prop)
abbrev Hp:=Addr→Option HO
def upd (H:Hp) (a:Addr) (o:HO):Hp:=fun b=>if b=a then some o else H b
theorem zE {H:Hp} {a:Addr} {o:HO}:upd H a o a=some o:=by unfold upd; rw [if_pos rfl]
theorem ZP {H:Hp} {a b:Addr} {o:HO} (h:b≠a):upd H a o b=H b:=by unfold upd; rw [if_neg h]
theorem zh {H:Hp} {a b:Addr} {o:HO} (h:H a=some o) (h':H b=none):a≠b:=by
  intro e; subst e; rw [h] at h'; cases h'
section
variable (P:Program) (w:World)
def ObjOk (H:Hp) (h:Heap) (a:Addr):HO→Prop
  | .lst xs=>xs.length≤sizeLine∧∃(its:List Value) (n:Nat),Vals xs its∧h.get? a=some { cls:=.type "list",data:=.seq its.toArray n }
  | .tup xs=>xs.length≤sizeLine∧∃its:List Value,Vals xs its∧IsTup h a its.toArray
  | .dK kvs=>kvs.length≤sizeLine∧(a == sysModules)=false∧∃vs,KV kvs vs∧h.DictOf (ZaF P w) a vs
  | .dT kvs=>kvs.length≤sizeLine∧(a == sysModules)=false∧∃xs:List (List Key×Addr×Value),
      Paired (fun (p:List Key×V) (q:List Key×Addr×Value)=>p.1=q.1∧H q.2.1=some (.tup (p.1.map kV))∧RelV p.2 q.2.2) kvs xs∧
      ∃o es ep,h.get? a=some o∧o.ExactDict∧o.data=.dict es ep∧es.toList=xs.map (entryOfKey (tupleKind (ZaF P w)))∧(xs.map (·.1)).Nodup
  | .set S n=>h.SetOf (intKind P w) a S n
  | .ins C dx fs=>H dx=some (.own a)∧fs.length≤1000∧dx≠a∧h.get? a=some (PySem.W.instObj C dx)∧
      ∃mA,h.Ns1 dx mA∧(∀f,RelO (fs.lookup f) (mA f))∧PySem.Within mA (fs.map (·.1))
  | .own _=>∃o,h.get? a=some o
  | .xd fs=>∃mA,h.Ns1 a mA∧∀f,RelO (fs.lookup f) (mA f)
  | .rng lo hi=>∃t u v,h.get? a=some { cls:=.type "range",data:=.fields #[.int lo t,.int hi u,.int 1 v] }
  | .frz o u=>h.get? a=some o∧ObjOk H h a u
  | .tbl ps=>h.get? a=some { cls:=.none,data:=.fields ps }
  | .met f x=>h.get? a=some (PySem.W.methodObj (.ref f) (.ref x))
  | .ext φ=>φ h∧(∃o,h.get? a=some o)∧∀h1 h2:Heap,φ h1→(∀o,h1.get? a=some o→h2.get? a=some o)→φ h2
def HOk (H:Hp) (h:Heap):Prop:=∀a o,H a=some o→ObjOk P w H h a o
end
section
variable {P:Program} {w:World} {H H':Hp} {h h':Heap} {a:Addr} {o:HO}
theorem ObjOk.lt (x:ObjOk P w H h a o):a<h.objs.size:=by
  cases o with
  | lst xs=>obtain ⟨_,_,_,_,e⟩:=x; exact Heap.lt_size e
  | tup xs=>obtain ⟨_,_,_,p⟩:=x; exact p.lt
  | dK kvs=>obtain ⟨_,_,_,_,o,_,_,e,_⟩:=x; exact Heap.lt_size e
  | dT kvs=>obtain ⟨_,_,_,_,o,_,_,e,_⟩:=x; exact Heap.lt_size e
  | set S n=>obtain ⟨o,_,_,_,e,_⟩:=x; exact Heap.lt_size e
  | ins C dx fs=>obtain ⟨_,_,_,e,_⟩:=x; exact Heap.lt_size e
  | own y=>obtain ⟨_,e⟩:=x; exact Heap.lt_size e
  | xd fs=>obtain ⟨_,⟨_,_,_,e,_⟩,_⟩:=x; exact Heap.lt_size e
  | rng lo hi=>obtain ⟨_,_,_,e⟩:=x; exact Heap.lt_size e
  | frz ob u=>obtain ⟨e,_⟩:=x; exact Heap.lt_size e
  | tbl ps=>exact Heap.lt_size (show h.get? a=some _ from x)
  | met f y=>exact Heap.lt_size (show h.get? a=some _ from x)
  | ext φ=>obtain ⟨_,⟨_,e⟩,_⟩:=x; exact Heap.lt_size e
theorem Paired.mapP {α β:Type} {F G:α→β→Prop}:∀{l₁:List α} {l₂:List β},Paired F l₁ l₂→(∀a b,F a b→G a b)→Paired G l₁ l₂
  | _,_,.nil,_=>.nil
  | _,_,.cons r t,f=>.cons (f _ _ r) (Paired.mapP t f)
theorem ObjOk.stay (x:ObjOk P w H h a o) (k:∀b u,(b=a∨H b=some (.own a))→h.get? b=some u→h'.get? b=some u)
    (ho:∀b,H b=some (.own a)→H' b=some (.own a)) (ht:∀b xs,H b=some (.tup xs)→H' b=some (.tup xs)):ObjOk P w H' h' a o:=by
  induction o with
  | lst xs=>obtain ⟨z,its,n,r,e⟩:=x; exact ⟨z,its,n,r,k _ _ (.inl rfl) e⟩
  | tup xs=>obtain ⟨z,its,r,ob,e,c⟩:=x; exact ⟨z,its,r,ob,k _ _ (.inl rfl) e,c⟩
  | dK kvs=>obtain ⟨z,y,vs,r,ob,es,ep,e,c⟩:=x; exact ⟨z,y,vs,r,ob,es,ep,k _ _ (.inl rfl) e,c⟩
  | dT kvs=>
    obtain ⟨z,y,xs,r,ob,es,ep,e,c⟩:=x
    exact ⟨z,y,xs,Paired.mapP r fun p q z=>⟨z.1,ht _ _ z.2.1,z.2.2⟩,ob,es,ep,k _ _ (.inl rfl) e,c⟩
  | set S n=>obtain ⟨ob,es,ep,t,e,c⟩:=x; exact ⟨ob,es,ep,t,k _ _ (.inl rfl) e,c⟩
  | ins C dx fs=>
    obtain ⟨d,z,ne,e,mA,⟨od,es,ep,e2,c⟩,r⟩:=x
    exact ⟨ho _ d,z,ne,k _ _ (.inl rfl) e,mA,⟨od,es,ep,k _ _ (.inr d) e2,c⟩,r⟩
  | own y=>obtain ⟨ob,e⟩:=x; exact ⟨ob,k _ _ (.inl rfl) e⟩
  | xd fs=>obtain ⟨mA,⟨od,es,ep,e,c⟩,r⟩:=x; exact ⟨mA,⟨od,es,ep,k _ _ (.inl rfl) e,c⟩,r⟩
  | rng lo hi=>obtain ⟨t,u,v,e⟩:=x; exact ⟨t,u,v,k _ _ (.inl rfl) e⟩
  | frz ob u ih=>obtain ⟨e,q⟩:=x; exact ⟨k _ _ (.inl rfl) e,ih q⟩
  | tbl ps=>
    have e:h.get? a=some { cls:=.none,data:=.fields ps }:=x
    show h'.get? a=some { cls:=.none,data:=.fields ps }
    exact k a _ (.inl rfl) e
  | met f y=>
    have e:h.get? a=some (PySem.W.methodObj (.ref f) (.ref y)):=x
    show h'.get? a=some (PySem.W.methodObj (.ref f) (.ref y))
    exact k a _ (.inl rfl) e
  | ext φ=>obtain ⟨p,⟨o,e⟩,st⟩:=x; exact ⟨st _ _ p fun o q=>k _ _ (.inl rfl) q,⟨o,k _ _ (.inl rfl) e⟩,st⟩
theorem HOk.lt (x:HOk P w H h) (e:H a=some o):a<h.objs.size:=(x a o e).lt
theorem HOk.fresh (x:HOk P w H h) (e:h.objs.size≤a):H a=none:=by
  cases q:H a with
  | none=>rfl
  | some u=>exact absurd (Nat.lt_of_lt_of_le (x.lt q) e) (Nat.lt_irrefl _)
theorem HOk.kept (x:HOk P w H h) (k:∀b u,h.get? b=some u→h'.get? b=some u):HOk P w H h':=fun a o e=>
  (x a o e).stay (fun b u _ q=>k b u q) (fun _ q=>q) fun _ _ q=>q
theorem HOk.laid (x:HOk P w H h) (k:∀b u,h.get? b=some u→h'.get? b=some u) (hp:h.objs.size≤a) (new:ObjOk P w (upd H a o) h' a o):HOk P w (upd H a o) h':=fun b u e=>by
  have hn:=x.fresh hp
  by_cases hb:b=a
  · subst hb; rw [zE] at e; cases e; exact new
  · rw [ZP hb] at e
    exact (x b u e).stay (fun c v _ q=>k c v q) (fun c q=>by rw [ZP (zh q hn)]; exact q) fun c xs q=>by rw [ZP (zh q hn)]; exact q
end
def Rd (H:Hp) (a:Addr) (u:HO):Prop:=H a=some u∨∃o,H a=some (.frz o u)
theorem Rd.of {H:Hp} {a:Addr} {u:HO} (h:H a=some u):Rd H a u:=.inl h
theorem Rd.ok {P:Program} {w:World} {H:Hp} {h:Heap} {a:Addr} {u:HO} (r:Rd H a u) (x:HOk P w H h):ObjOk P w H h a u:=by
  rcases r with r | ⟨o,r⟩
  · exact x a u r
  · obtain ⟨_,q⟩:=x a _ r
    exact q
def Mut:Option HO→Prop
  | some (.lst _)=>True
  | some (.dK _)=>True
  | some (.dT _)=>True
  | some (.set _ _)=>True
  | some (.ins _ _ _)=>True
  | some (.ext _)=>True
  | _=>False
section
variable {P:Program} {w:World} {H:Hp} {h h':Heap} {x e:Addr} {o':HO}
theorem HOk.write (ok:HOk P w H h) (mu:Mut (H x)) (he:e=x∨H e=some (.own x)) (k:∀b u,b≠e→h.get? b=some u→h'.get? b=some u) (heo:∃u,h'.get? e=some u)
    (new:ObjOk P w (upd H x o') h' x o'):HOk P w (upd H x o') h':=fun b u q=>by
  have nown:∀c y,H c=some (.own y)→c≠x:=fun c y r z=>by subst z; rw [r] at mu; exact mu
  have ntup:∀c xs,H c=some (.tup xs)→c≠x:=fun c xs r z=>by subst z; rw [r] at mu; exact mu
  by_cases hb:b=x
  · subst hb; rw [zE] at q; cases q; exact new
  · rw [ZP hb] at q
    by_cases hbe:b=e
    · have q':H b=some (.own x):=by
        rcases he with z | z
        · exact absurd (hbe.trans z) hb
        · rw [hbe]; exact z
      rw [q] at q'; cases q'
      obtain ⟨v,hv⟩:=heo
      exact ⟨v,by rw [hbe]; exact hv⟩
    · refine (ok b u q).stay (fun c v hc r=>k c v ?_ r) (fun c r=>by rw [ZP (nown c b r)]; exact r) fun c xs r=>by rw [ZP (ntup c xs r)]; exact r
      rcases hc with rfl | hc
      · exact hbe
      · rintro rfl
        rcases he with z | z
        · exact nown c b hc z
        · rw [hc] at z; cases z; exact hb rfl
end
structure Un (fs ex:List Addr) (H H':Hp) (h h':Heap):Prop where
  keep:∀b o,h.get? b=some o→H b=none→b∉fs→b∉ex→h'.get? b=some o
  slot:∀b o,h.get? b=some o→H b=none→b∈fs→b∉ex→∃sl,h'.get? b=some { o with slots:=sl }
  free:∀b o,h.get? b=some o→H b=none→b∉ex→H' b=none
  there:∀b o,h.get? b=some o→b∉ex→∃o',h'.get? b=some o'
  tups:∀b xs,H b=some (.tup xs)→H' b=some (.tup xs)
  frzs:∀b o u,H b=some (.frz o u)→H' b=some (.frz o u)
  tbls:∀b ps,H b=some (.tbl ps)→∃more,H' b=some (.tbl (ps++more))
section
variable {fs fs' ex ex':List Addr} {H H1 H2:Hp} {h h1 h2 h':Heap} {a x e:Addr} {o:HO}
theorem Un.any (u:Un fs ex H H1 h h1) {b:Addr} {ob:Obj} (q:h.get? b=some ob) (n:H b=none) (hx:b∉ex):∃sl,h1.get? b=some { ob with slots:=sl }:=by
  by_cases hb:b∈fs
  · exact u.slot b ob q n hb hx
  · exact ⟨ob.slots,u.keep b ob q n hb hx⟩
theorem Un.trans (a:Un fs ex H H1 h h1) (b:Un fs ex H1 H2 h1 h2):Un fs ex H H2 h h2 where
  keep:=fun c ob q n hc hx=>b.keep c ob (a.keep c ob q n hc hx) (a.free c ob q n hx) hc hx
  slot:=fun c ob q n hc hx=>by
    obtain ⟨sl,e1⟩:=a.slot c ob q n hc hx
    obtain ⟨sl',e2⟩:=b.slot c _ e1 (a.free c ob q n hx) hc hx
    exact ⟨sl',e2⟩
  free:=fun c ob q n hx=>by
    obtain ⟨o',e1⟩:=a.there c ob q hx
    exact b.free c o' e1 (a.free c ob q n hx) hx
  there:=fun c ob q hx=>by
    obtain ⟨o',e1⟩:=a.there c ob q hx
    exact b.there c o' e1 hx
  tups:=fun c xs q=>b.tups c xs (a.tups c xs q)
  frzs:=fun c ob xs q=>b.frzs c ob xs (a.frzs c ob xs q)
  tbls:=fun c ps q=>by
    obtain ⟨m1,e1⟩:=a.tbls c ps q
    obtain ⟨m2,e2⟩:=b.tbls c _ e1
    exact ⟨m1++m2,by rw [e2,Array.append_assoc]⟩
theorem Un.kept (k:∀b u,h.get? b=some u→h'.get? b=some u):Un fs ex H H h h':=
  ⟨fun b ob q _ _ _=>k b ob q,fun b ob q _ _ _=>⟨ob.slots,k b ob q⟩,fun _ _ _ n _=>n,fun b ob q _=>⟨ob,k b ob q⟩,fun _ _ q=>q,fun _ _ _ q=>q,fun _ ps q=>⟨#[],by rw [q]; simp⟩⟩
theorem Un.refl:Un fs ex H H h h:=Un.kept fun _ _ q=>q
theorem Un.laid (k:∀b u,h.get? b=some u→h'.get? b=some u) (hp:h.objs.size≤a) (hn:H a=none):Un fs ex H (upd H a o) h h' where
  keep:=fun b u q _ _ _=>k b u q
  slot:=fun b u q _ _ _=>⟨u.slots,k b u q⟩
  free:=fun b u q n _=>by rw [ZP (Nat.ne_of_lt (Nat.lt_of_lt_of_le (Heap.lt_size q) hp))]; exact n
  there:=fun b u q _=>⟨u,k b u q⟩
  tups:=fun b xs q=>by rw [ZP (zh q hn)]; exact q
  frzs:=fun b u xs q=>by rw [ZP (zh q hn)]; exact q
  tbls:=fun b ps q=>⟨#[],by rw [ZP (zh q hn),q]; simp⟩
theorem Un.write (mu:Mut (H x)) (he:e=x∨H e=some (.own x)) (k:∀b u,b≠e→h.get? b=some u→h'.get? b=some u) (heo:∃u,h'.get? e=some u):Un fs ex H (upd H x o) h h':=by
  have hx:∀b,H b=none→b≠x:=fun b n z=>by subst z; rw [n] at mu; exact mu
  have hb:∀b,H b=none→b≠e:=fun b n z=>by
    subst z
    rcases he with r | r
    · exact hx b n r
    · rw [n] at r; cases r
  have hm:∀b u,H b=some u→¬Mut (some u)→b≠x:=fun b u q nm z=>by subst z; rw [q] at mu; exact nm mu
  refine ⟨fun b u q n _ _=>k b u (hb b n) q,fun b u q n _ _=>⟨u.slots,k b u (hb b n) q⟩,fun b u q n _=>by rw [ZP (hx b n)]; exact n,fun b u q _=>?_,
    fun b xs q=>by rw [ZP (hm b _ q fun z=>z)]; exact q,fun b u xs q=>by rw [ZP (hm b _ q fun z=>z)]; exact q,fun b ps q=>⟨#[],by rw [ZP (hm b _ q fun z=>z),q]; simp⟩⟩
  by_cases hbe:b=e
  · subst hbe; exact heo
  · exact ⟨u,k b u hbe q⟩
theorem Un.mono (u:Un fs ex H H1 h h1) (hs:∀b∈fs,b∈fs') (hx:∀b∈ex,b∈ex'):Un fs' ex' H H1 h h1:=
  ⟨fun b ob q n hb he=>u.keep b ob q n (fun z=>hb (hs b z)) fun z=>he (hx b z),fun _ _ q n _ he=>u.any q n fun z=>he (hx _ z),fun b ob q n he=>u.free b ob q n fun z=>he (hx b z),fun b ob q he=>u.there b ob q fun z=>he (hx b z),u.tups,u.frzs,u.tbls⟩
end
def trk (h:Heap) (H:Hp):List Addr:=(List.range h.objs.size).filter fun a=>(H a).isSome
def Zjj (h:Heap) (H:Hp):Heap:=PySem.W.hideAll h (trk h H)
theorem ZnG (h:Heap) (H:Hp):(Zjj h H).objs.size=h.objs.size:=PySem.W.hideAll_size _ _
theorem Zqt {h:Heap} {H:Hp} {b:Addr} {o:Obj} (e:h.get? b=some o) (n:H b=none):(Zjj h H).get? b=some o:=
  PySem.W.hideAll_get _ e fun hm=>by
    have q:(H b).isSome=true:=(List.mem_filter.mp hm).2
    rw [n] at q; simp at q
theorem ZrP {h:Heap} {H:Hp} {b:Addr} {o:Obj} (e:(Zjj h H).get? b=some o):h.get? b=some o∧H b=none:=by
  have e':h.get? b=some o:=PySem.W.of_hideAll (trk h H) e
  refine ⟨e',?_⟩
  cases q:H b with
  | none=>rfl
  | some x=>
    have hm:b∈trk h H:=List.mem_filter.mpr ⟨List.mem_range.mpr (Heap.lt_size e'),by simp [q]⟩
    have z:(Zjj h H).get? b=none:=PySem.W.hideAll_none (trk h H) hm
    rw [z] at e; cases e
def Zsp (g h:Heap) (L:Addr):List (Addr×Obj):=(List.range h.objs.size).filterMap fun a=>if a=L∨(g.get? a).isSome=true then none else (h.get? a).map fun o=>(a,o)
def rest (g h:Heap) (L d:Addr):List (Addr×Obj):=(Zsp g h L).filter fun p=>decide (p.1≠d)
end L2
namespace L2
open PySem PySem.Spec PyProof.Rows
structure Mod (K:PySem.W.Frag) (mg:Str→Option Value) (base:Heap):Prop where
  kin:K.In base
  glob:base.Ns mainGlobals mg
  blt:∃mb,base.Ns builtinsNs mb∧∀x:Str,x≠"__name__"→mb x=bootBuiltins x
  nolimit:base.NoLimit
structure Cx where
  prog:Program
  w:World
  K:PySem.W.Frag
  mg:Str→Option Value
  base:Heap
  A:Around
  N:List Str
  s₀:Shared
  H₀:Hp
  env:Env
  outer:List Env
  stack:List Env
  ex:List Addr
  fn:Str→Bool
  calm:Bool
  pn:List (Addr×Obj)
  xe:Value→Shared→Prop
def frs (l:List Env):List Addr:=l.filterMap (·.frame)
abbrev Cx.fs (X:Cx):List Addr:=frs X.outer
def Vis (sc:Scope) (x:Str):Prop:=sc.names.lookup x=some .local∨sc.names.lookup x=some .cell∨sc.names.lookup x=some .free
def Loc (sc:Scope) (x:Str):Prop:=sc.names.lookup x=some .local∨sc.names.lookup x=some .cell
def ZzI (env:Env) (h:Heap) (m:Str→Option Value) (x:Str) (u:Value):Prop:=
  (env.kindOf x=some .local∧m x=some u)∨((env.kindOf x=some .cell∨env.kindOf x=some .free)∧∃c,env.cells.lookup x=some c∧h.IsCell c (some u))
structure Cx.Ok (X:Cx):Prop where
  mod:Mod X.K X.mg X.base
  kind:X.env.scope.kind=.function
  glob:X.env.globals=mainGlobals
  blt:X.env.builtins=builtinsNs
  above:X.s₀.heap.objs.size≤X.env.locals
  inj:∀x y c,X.env.cells.lookup x=some c→X.env.cells.lookup y=some c→x=y
  has:∀x,(X.env.kindOf x=some .cell∨X.env.kindOf x=some .free)→∃c,X.env.cells.lookup x=some c
  cab:∀x c,X.fn x=true→X.env.cells.lookup x=some c→X.s₀.heap.objs.size≤c
  hd:X.calm=true→X.A.handled=none
  frames:X.A.frames=some X.stack
  stk:X.stack=X.outer∨(X.stack=X.env::X.outer∧X.env.frame=some X.env.locals)
  exf:∀b∈X.ex,b≠X.env.locals∧∀x c,X.env.cells.lookup x=some c→c≠b
  bs:∀b o,X.base.get? b=some o→X.s₀.heap.get? b=some o∧X.H₀ b=none
  bsz:X.base.objs.size≤X.s₀.heap.objs.size
  noex:∀b o,X.base.get? b=some o→b∉X.ex
  exfs:∀b∈X.ex,b∉X.fs
  funs:X.s₀.heap.FunFrames X.base X.outer
  frf:∀b∈X.fs,X.H₀ b=none
structure Inv (X:Cx) (pins:List (Addr×Obj)) (σ:List (Option V)) (H:Hp) (s:Shared):Prop where
  ok:X.Ok
  os:s.os=X.s₀.os
  bare:AllBare s.gens
  base:Un X.fs X.ex X.H₀ H X.s₀.heap s.heap
  loc:∃m,s.heap.Ns X.env.locals m∧∀(i:Nat) (x:Str) (v:V),X.N[i]?=some x→σ[i]?=some (some v)→Vis X.env.scope x→∃u,RelV v u∧ZzI X.env s.heap m x u
  cell:∀x c,X.env.cells.lookup x=some c→∃v,s.heap.IsCell c v
  free:H X.env.locals=none
  freeC:∀x c,X.env.cells.lookup x=some c→H c=none
  pin:∀p∈X.pn++pins,s.heap.get? p.1=some p.2∧H p.1=none∧p.1≠X.env.locals∧p.1∉X.fs∧∀v,p.2.data≠.cell v
  hok:HOk X.prog X.w H s.heap
  len:σ.length=X.N.length
section
variable {X:Cx} {pins:List (Addr×Obj)} {σ:List (Option V)} {H H':Hp} {s:Shared} {h':Heap}
theorem Cx.Ok.nofr (ok:X.Ok) {b:Addr} {o:Obj} (e:X.base.get? b=some o):b∉X.fs:=fun hb=>by
  have:=(ok.funs.mem hb).1
  rw [e] at this; cases this
theorem Inv.bs (I:Inv X pins σ H s):∀b o,X.base.get? b=some o→s.heap.get? b=some o∧H b=none:=fun b o e=>
  ⟨I.base.keep b o (I.ok.bs b o e).1 (I.ok.bs b o e).2 (I.ok.nofr e) (I.ok.noex b o e),I.base.free b o (I.ok.bs b o e).1 (I.ok.bs b o e).2 (I.ok.noex b o e)⟩
theorem Inv.bk (I:Inv X pins σ H s):∀b o,X.base.get? b=some o→s.heap.get? b=some o:=fun b o e=>(I.bs b o e).1
theorem Inv.mod (I:Inv X pins σ H s):Mod X.K X.mg X.base:=I.ok.mod
theorem Inv.kIn (I:Inv X pins σ H s):X.K.In s.heap:=I.ok.mod.kin.keeps I.bk
theorem Inv.nolimit (I:Inv X pins σ H s):s.heap.NoLimit:=I.ok.mod.nolimit.keeps I.bk
theorem Inv.fr (I:Inv X pins σ H s):∃m,Fr X.base X.env.locals s.heap m:=
  let ⟨m,hn,_⟩:=I.loc
  ⟨m,hn,I.bk,Nat.le_trans I.ok.bsz I.ok.above⟩
theorem Inv.lt (I:Inv X pins σ H s):X.env.locals<s.heap.objs.size:=let ⟨_,hn,_⟩:=I.loc; hn.lt
theorem Inv.sz (I:Inv X pins σ H s):X.s₀.heap.objs.size≤s.heap.objs.size:=Nat.le_trans I.ok.above (Nat.le_of_lt I.lt)
theorem Inv.nofs (I:Inv X pins σ H s) {a:Addr} (h:s.heap.objs.size≤a):a∉X.fs:=fun hb=>by
  obtain ⟨_,o,ho,_⟩:=I.ok.funs.mem hb
  exact absurd (Nat.lt_of_lt_of_le (Heap.lt_size ho) (Nat.le_trans I.sz h)) (Nat.lt_irrefl _)
theorem Inv.cne (I:Inv X pins σ H s):∀x c,X.env.cells.lookup x=some c→c≠X.env.locals:=fun x c e z=>by
  obtain ⟨v,o,ho,hd⟩:=I.cell x c e
  obtain ⟨m,⟨o',es,ep,ho',hd',_⟩,_⟩:=I.loc
  rw [z,ho'] at ho; cases ho; rw [hd'] at hd; cases hd
theorem Inv.funs (I:Inv X pins σ H s):s.heap.FunFrames X.base X.outer:=by
  have all:∀(l:List Env),(∀b∈frs l,b∈X.fs)→X.s₀.heap.FunFrames X.base l→s.heap.FunFrames X.base l:=by
    intro l
    induction l with
    | nil=>intro _ _; trivial
    | cons env r ih=>
      intro hs hl
      obtain ⟨hk,⟨L,o,hf,hn,ho,hd⟩,hr⟩:=hl
      have hL:L∈X.fs:=hs L (by unfold frs; rw [List.filterMap_cons,hf]; exact List.mem_cons_self)
      obtain ⟨sl,e⟩:=I.base.slot L o ho (I.ok.frf L hL) hL fun z=>I.ok.exfs L z hL
      exact ⟨hk,⟨L,_,hf,hn,e,hd⟩,ih (fun b hb=>hs b (by unfold frs; rw [List.filterMap_cons,hf]; exact List.mem_cons_of_mem _ hb)) hr⟩
  exact all X.outer (fun _ hb=>hb) I.ok.funs
theorem Inv.stack (I:Inv X pins σ H s):s.heap.FunFrames X.base X.stack:=by
  rcases I.ok.stk with e | ⟨e,hf⟩
  · rw [e]; exact I.funs
  · rw [e]
    obtain ⟨m,hn,_⟩:=I.loc
    refine .cons (by rw [I.ok.kind]; decide) hf hn ?_ I.funs
    exact Heap.get?_none_of_le (Nat.le_trans I.ok.bsz I.ok.above)
theorem Inv.stkSub (I:Inv X pins σ H s):∀b∈frs X.stack,b∈X.env.locals::X.fs:=fun b hb=>by
  rcases I.ok.stk with e | ⟨e,hf⟩
  · rw [e] at hb; exact List.mem_cons_of_mem _ hb
  · rw [e] at hb
    unfold frs at hb
    rw [List.filterMap_cons,hf] at hb
    exact hb
theorem Inv.stkFree (I:Inv X pins σ H s):∀b∈frs X.stack,H b=none:=fun b hb=>by
  rcases List.mem_cons.mp (I.stkSub b hb) with e | hb
  · rw [e]; exact I.free
  · obtain ⟨_,o,ho,_⟩:=I.ok.funs.mem hb
    exact I.base.free b o ho (I.ok.frf b hb) fun z=>I.ok.exfs b z hb
theorem Inv.step {g':Array GenState} {t':Nat} {d':Drawn} {ch:List Addr} (I:Inv X pins σ H s)
    (hch:∀b∈ch,(b∈X.ex∨X.s₀.heap.objs.size≤b)∧b≠X.env.locals∧(∀x c,X.env.cells.lookup x=some c→c≠b)∧∀p∈X.pn++pins,p.1≠b)
    (keep:∀b o,b≠X.env.locals→b∉X.fs→b∉ch→s.heap.get? b=some o→H b=none→h'.get? b=some o)
    (slot:∀b o,b≠X.env.locals→b∈X.fs→b∉ch→s.heap.get? b=some o→H b=none→∃sl,h'.get? b=some { o with slots:=sl }) (free:∀b o,b∉ch→s.heap.get? b=some o→H b=none→H' b=none)
    (there:∀b o,b∉ch→s.heap.get? b=some o→∃o',h'.get? b=some o')
    (tups:∀b xs,H b=some (.tup xs)→H' b=some (.tup xs)) (frzs:∀b o u,H b=some (.frz o u)→H' b=some (.frz o u)) (tbls:∀b ps,H b=some (.tbl ps)→∃more,H' b=some (.tbl (ps++more)))
    (ns:∀m,s.heap.Ns X.env.locals m→h'.Ns X.env.locals m) (hok:HOk X.prog X.w H' h') (hg:AllBare g') :
    Inv X pins σ H' { s with heap:=h',gens:=g',drawn:=d',toks:=t' }:=by
  have neL:∀b o,X.s₀.heap.get? b=some o→b≠X.env.locals:=fun b o e=>Nat.ne_of_lt (Nat.lt_of_lt_of_le (Heap.lt_size e) I.ok.above)
  have neC:∀b o,X.s₀.heap.get? b=some o→b∉X.ex→b∉ch:=fun b o e hx hb=>by
    rcases (hch b hb).1 with z | z
    · exact hx z
    · exact absurd (Nat.lt_of_lt_of_le (Heap.lt_size e) z) (Nat.lt_irrefl _)
  have cellK:∀x c,X.env.cells.lookup x=some c→∀v,s.heap.IsCell c v→h'.IsCell c v:=fun x c e v ⟨o,ho,hd⟩=>by
    have nch:c∉ch:=fun z=>(hch c z).2.2.1 x c e rfl
    by_cases hc:c∈X.fs
    · obtain ⟨sl,q⟩:=slot c o (I.cne x c e) hc nch ho (I.freeC x c e)
      exact ⟨_,q,hd⟩
    · exact ⟨o,keep c o (I.cne x c e) hc nch ho (I.freeC x c e),hd⟩
  refine ⟨I.ok,I.os,hg,⟨fun b o e n hb hx=>?_,fun b o e n hb hx=>?_,fun b o e n hx=>?_,fun b o e hx=>?_,fun b xs e=>tups b xs (I.base.tups b xs e),fun b o xs e=>frzs b o xs (I.base.frzs b o xs e),fun b ps e=>?_⟩,?_,fun x c e=>?_,?_,fun x c e=>?_,fun p hp=>?_,hok,I.len⟩
  · exact keep b o (neL b o e) hb (neC b o e hx) (I.base.keep b o e n hb hx) (I.base.free b o e n hx)
  · obtain ⟨sl,e1⟩:=I.base.slot b o e n hb hx
    obtain ⟨sl',e2⟩:=slot b _ (neL b o e) hb (neC b o e hx) e1 (I.base.free b o e n hx)
    exact ⟨sl',e2⟩
  · obtain ⟨o',e1⟩:=I.base.there b o e hx
    exact free b o' (neC b o e hx) e1 (I.base.free b o e n hx)
  · obtain ⟨o',e1⟩:=I.base.there b o e hx
    exact there b o' (neC b o e hx) e1
  · obtain ⟨m1,e1⟩:=I.base.tbls b ps e
    obtain ⟨m2,e2⟩:=tbls b _ e1
    exact ⟨m1++m2,by rw [e2,Array.append_assoc]⟩
  · obtain ⟨m,hn,hl⟩:=I.loc
    refine ⟨m,ns m hn,fun i x v e1 e2 e3=>?_⟩
    obtain ⟨u,r,l⟩:=hl i x v e1 e2 e3
    refine ⟨u,r,?_⟩
    rcases l with l | ⟨k,c,e,z⟩
    · exact .inl l
    · exact .inr ⟨k,c,e,cellK x c e _ z⟩
  · obtain ⟨v,z⟩:=I.cell x c e
    exact ⟨v,cellK x c e v z⟩
  · obtain ⟨m,⟨o,_,_,ho,_⟩,_⟩:=I.loc
    exact free _ o (fun z=>(hch _ z).2.1 rfl) ho I.free
  · obtain ⟨v,o,ho,hd⟩:=I.cell x c e
    exact free c o (fun z=>(hch c z).2.2.1 x c e rfl) ho (I.freeC x c e)
  · obtain ⟨e,n,ne,nf,d⟩:=I.pin p hp
    have nch:p.1∉ch:=fun z=>(hch p.1 z).2.2.2 p hp rfl
    exact ⟨keep p.1 p.2 ne nf nch e n,free p.1 p.2 nch e n,ne,nf,d⟩
theorem Inv.un {t':Nat} (I:Inv X pins σ H s) (u:Un X.fs [] H H' s.heap h') (hok:HOk X.prog X.w H' h'):Inv X pins σ H' { s with heap:=h',toks:=t' }:=by
  obtain ⟨m,⟨o,es,ep,ho,r⟩,_⟩:=id I.loc
  obtain ⟨sl,hL⟩:=u.any ho I.free (by simp)
  exact I.step (g':=s.gens) (d':=s.drawn) (ch:=[]) (fun _ z=>nomatch z) (fun b o _ hb _ e n=>u.keep b o e n hb (by simp)) (fun b o _ hb _ e n=>u.slot b o e n hb (by simp)) (fun b o _ e n=>u.free b o e n (by simp)) (fun b o _ e=>u.there b o e (by simp)) u.tups u.frzs u.tbls (fun m' hm=>by
    obtain ⟨o',es',ep',ho',r'⟩:=hm
    rw [ho] at ho'; cases ho'
    exact ⟨_,es',ep',hL,r'⟩) hok I.bare
theorem Inv.call {g':Array GenState} {t':Nat} {d':Drawn} {ch:List Addr} (I:Inv X pins σ H s) (u:Un (frs X.stack) ch H H' s.heap h') (hok:HOk X.prog X.w H' h') (hg:AllBare g')
    (hch:∀b∈ch,(b∈X.ex∨X.s₀.heap.objs.size≤b)∧b≠X.env.locals∧(∀x c,X.env.cells.lookup x=some c→c≠b)∧∀p∈X.pn++pins,p.1≠b) :
    Inv X pins σ H' { s with heap:=h',gens:=g',drawn:=d',toks:=t' }:=by
  obtain ⟨m,⟨o,es,ep,ho,r⟩,_⟩:=id I.loc
  obtain ⟨sl,hL⟩:=u.any ho I.free fun z=>(hch _ z).2.1 rfl
  exact I.step (ch:=ch) hch (fun b o hL hb hc e n=>u.keep b o e n (fun z=>(List.mem_cons.mp (I.stkSub b z)).elim hL hb) hc) (fun b o _ _ hc e n=>u.any e n hc) (fun b o hc e n=>u.free b o e n hc) (fun b o hc e=>u.there b o e hc) u.tups u.frzs u.tbls (fun m' hm=>by
    obtain ⟨o',es',ep',ho',r'⟩:=hm
    rw [ho] at ho'; cases ho'
    exact ⟨_,es',ep',hL,r'⟩) hok hg
theorem Inv.turned {t':Nat} {it:Addr} (I:Inv X pins σ H s) (k:∀b o,b≠it→s.heap.get? b=some o→h'.get? b=some o) (hn:H it=none) (hL:it≠X.env.locals)
    (h1:it∈X.ex∨X.s₀.heap.objs.size≤it) (h2:∀x c,X.env.cells.lookup x=some c→c≠it) (h3:∀p∈X.pn++pins,p.1≠it):Inv X pins σ H { s with heap:=h',toks:=t' }:=by
  have nit:∀b u,H b=some u→b≠it:=fun b u e z=>by rw [z,hn] at e; cases e
  refine I.step (g':=s.gens) (d':=s.drawn) (ch:=[it]) (fun b hb=>?_) (fun b o _ _ hc e _=>k b o (fun z=>hc (by simp [z])) e) (fun b o _ _ hc e _=>⟨o.slots,k b o (fun z=>hc (by simp [z])) e⟩) (fun _ _ _ _ n=>n)
    (fun b o hc e=>⟨o,k b o (fun z=>hc (by simp [z])) e⟩) (fun _ _ e=>e) (fun _ _ _ e=>e) (fun b ps e=>⟨#[],by rw [e]; simp⟩) (fun m hm=>?_) (fun b u e=>?_) I.bare
  · have e:b=it:=by simpa using hb
    subst e
    exact ⟨h1,hL,h2,h3⟩
  · obtain ⟨o,es,ep,ho,r⟩:=hm
    exact ⟨o,es,ep,k _ o (Ne.symm hL) ho,r⟩
  · refine (I.hok b u e).stay (fun c v hc q=>k c v ?_ q) (fun _ q=>q) fun _ _ q=>q
    rcases hc with z | z
    · rw [z]; exact nit b u e
    · exact nit c _ z
theorem Inv.tok (I:Inv X pins σ H s) (t:Nat):Inv X pins σ H { s with toks:=t }:=I.un (h':=s.heap) (t':=t) Un.refl I.hok
theorem Inv.kept {t':Nat} (I:Inv X pins σ H s) (k:∀b u,s.heap.get? b=some u→h'.get? b=some u):Inv X pins σ H { s with heap:=h',toks:=t' }:=I.un (Un.kept k) (I.hok.kept k)
theorem Inv.laid {a:Addr} {o:HO} {t':Nat} (I:Inv X pins σ H s) (k:∀b u,s.heap.get? b=some u→h'.get? b=some u) (hp:s.heap.objs.size≤a) (new:ObjOk X.prog X.w (upd H a o) h' a o) :
    Inv X pins σ (upd H a o) { s with heap:=h',toks:=t' }:=I.un (Un.laid k hp (I.hok.fresh hp)) (I.hok.laid k hp new)
theorem Inv.write {x e:Addr} {o:HO} {t':Nat} (I:Inv X pins σ H s) (mu:Mut (H x)) (he:e=x∨H e=some (.own x)) (k:∀b u,b≠e→s.heap.get? b=some u→h'.get? b=some u) (heo:∃u,h'.get? e=some u)
    (new:ObjOk X.prog X.w (upd H x o) h' x o):Inv X pins σ (upd H x o) { s with heap:=h',toks:=t' }:=I.un (Un.write mu he k heo) (I.hok.write mu he k heo new)
theorem Inv.pins_of {pins':List (Addr×Obj)} (I:Inv X pins σ H s) (h:∀p∈pins',s.heap.get? p.1=some p.2∧H p.1=none∧p.1≠X.env.locals∧p.1∉X.fs∧∀v,p.2.data≠.cell v):Inv X pins' σ H s:=
  ⟨I.ok,I.os,I.bare,I.base,I.loc,I.cell,I.free,I.freeC,fun p hp=>(List.mem_append.mp hp).elim (fun z=>I.pin p (List.mem_append_left _ z)) (h p),I.hok,I.len⟩
theorem Zlb {N:List Str} (hN:N.Nodup) {i j:Nat} {x:Str} (a:N[i]?=some x) (b:N[j]?=some x):i=j:=by
  obtain ⟨h1,e1⟩:=List.getElem?_eq_some_iff.mp a
  obtain ⟨h2,e2⟩:=List.getElem?_eq_some_iff.mp b
  exact (List.getElem_inj hN).mp (e1.trans e2.symm)
theorem Znj {M:Model} {A:Around} {E:Value→Shared→Prop} {i:Nat} {x:Str} {v:V} {u:Value} {Q:Unit→Shared→Prop} (I:Inv X pins σ H s) (hN:X.N.Nodup) (hi:X.N[i]?=some x) (hx:Loc X.env.scope x) (r:RelV v u)
    (h:∀s',Inv X pins (σ.set i (some v)) H s'→(∃a,Heap.SameBut a s.heap s'.heap∧(a=X.env.locals∨X.env.cells.lookup x=some a))→Q () s') (hf:X.fn x=true∨X.env.scope.names.lookup x=some .local:=by first | exact .inl rfl | exact .inr rfl | assumption):wpAny M A (storeName X.env x u) Q E s:=by
  obtain ⟨m,hn,hl⟩:=id I.loc
  have hcls:(X.env.scope.kind == .class || (X.env.scope.kind == .module && X.env.locals != X.env.globals))=false:=by rw [I.ok.kind]; rfl
  have hiσ:i < σ.length:=by rw [I.len]; exact (List.getElem?_eq_some_iff.mp hi).1
  have cne:=I.cne
  have tracked:∀{a:Addr} {h':Heap},(∃o,s.heap.get? a=some o∧H a=none)→Heap.SameBut a s.heap h'→HOk X.prog X.w H h':=fun {a h'} ha hs b ob e=>by
    obtain ⟨_,_,hfree⟩:=ha
    refine (I.hok b ob e).stay (fun c w' hc q=>(hs.2 c ?_).trans q) (fun _ q=>q) fun _ _ q=>q
    rintro rfl
    rcases hc with rfl | hc
    · rw [hfree] at e; cases e
    · rw [hfree] at hc; cases hc
  rcases hx with hk | hk
  · refine wpAny_storeName_local hk hn (fun h' hn' hs=>?_) hcls
    obtain ⟨oL,_,_,hoL,_⟩:=id hn
    refine h _ ⟨I.ok,I.os,I.bare,⟨fun b o e n hb hx=>?_,fun b o e n hb hx=>?_,I.base.free,fun b o e hx=>?_,I.base.tups,I.base.frzs,I.base.tbls⟩,⟨_,hn',fun j y v' e1 e2 e3=>?_⟩,fun y c e=>?_,I.free,I.freeC,fun p hp=>?_,tracked ⟨oL,hoL,I.free⟩ hs,by simpa using I.len⟩ ⟨_,hs,.inl rfl⟩
    · exact (hs.2 b (Nat.ne_of_lt (Nat.lt_of_lt_of_le (Heap.lt_size e) I.ok.above))).trans (I.base.keep b o e n hb hx)
    · obtain ⟨sl,e1⟩:=I.base.slot b o e n hb hx
      exact ⟨sl,(hs.2 b (Nat.ne_of_lt (Nat.lt_of_lt_of_le (Heap.lt_size e) I.ok.above))).trans e1⟩
    · obtain ⟨o',e1⟩:=I.base.there b o e hx
      exact ⟨o',(hs.2 b (Nat.ne_of_lt (Nat.lt_of_lt_of_le (Heap.lt_size e) I.ok.above))).trans e1⟩
    · by_cases hj:j=i
      · subst hj
        rw [hi] at e1; cases e1
        rw [List.getElem?_set_self hiσ] at e2
        cases e2
        exact ⟨u,r,.inl ⟨hk,by simp⟩⟩
      · rw [List.getElem?_set_ne (Ne.symm hj)] at e2
        obtain ⟨u',r',q⟩:=hl j y v' e1 e2 e3
        refine ⟨u',r',?_⟩
        rcases q with ⟨k,e⟩ | ⟨k,c,e,z⟩
        · refine .inl ⟨k,?_⟩
          have:y≠x:=fun e=>hj (Zlb hN e1 (e ▸ hi))
          simp [this,e]
        · exact .inr ⟨k,c,e,z.sameBut hs (cne y c e)⟩
    · obtain ⟨w',z⟩:=I.cell y c e
      exact ⟨w',z.sameBut hs (cne y c e)⟩
    · obtain ⟨e,n,ne,nf,d⟩:=I.pin p hp
      exact ⟨(hs.2 p.1 ne).trans e,n,ne,nf,d⟩
  · have hfn:X.fn x=true:=by
      rcases hf with z | z
      · exact z
      · rw [z] at hk; cases hk
    obtain ⟨c,hc⟩:=I.ok.has x (.inl hk)
    obtain ⟨w',z⟩:=I.cell x c hc
    refine wpAny_storeName_cell I.ok.kind hk hc z (fun h' hc' hs=>?_)
    obtain ⟨oc,hoc,hocd⟩:=id z
    refine h { s with heap:=h' } ⟨I.ok,I.os,I.bare,⟨fun b o e n hb hx=>?_,fun b o e n hb hx=>?_,I.base.free,fun b o e hx=>?_,I.base.tups,I.base.frzs,I.base.tbls⟩,⟨m,hn.sameBut hs (Ne.symm (cne x c hc)),fun j y v' e1 e2 e3=>?_⟩,fun y c' e=>?_,I.free,I.freeC,fun p hp=>?_,tracked ⟨oc,hoc,I.freeC x c hc⟩ hs,by simpa using I.len⟩ ⟨c,hs,.inr hc⟩
    · exact (hs.2 b (Nat.ne_of_lt (Nat.lt_of_lt_of_le (Heap.lt_size e) (I.ok.cab x c hfn hc)))).trans (I.base.keep b o e n hb hx)
    · obtain ⟨sl,e1⟩:=I.base.slot b o e n hb hx
      exact ⟨sl,(hs.2 b (Nat.ne_of_lt (Nat.lt_of_lt_of_le (Heap.lt_size e) (I.ok.cab x c hfn hc)))).trans e1⟩
    · obtain ⟨o',e1⟩:=I.base.there b o e hx
      exact ⟨o',(hs.2 b (Nat.ne_of_lt (Nat.lt_of_lt_of_le (Heap.lt_size e) (I.ok.cab x c hfn hc)))).trans e1⟩
    · by_cases hj:j=i
      · subst hj
        rw [hi] at e1; cases e1
        rw [List.getElem?_set_self hiσ] at e2
        cases e2
        exact ⟨u,r,.inr ⟨.inl hk,c,hc,hc'⟩⟩
      · rw [List.getElem?_set_ne (Ne.symm hj)] at e2
        obtain ⟨u',r',q⟩:=hl j y v' e1 e2 e3
        refine ⟨u',r',?_⟩
        rcases q with q | ⟨k,c',e,z'⟩
        · exact .inl q
        · refine .inr ⟨k,c',e,z'.sameBut hs ?_⟩
          rintro rfl
          exact hj (Zlb hN e1 (I.ok.inj _ _ _ e hc ▸ hi))
    · by_cases hcc:c'=c
      · subst hcc; exact ⟨_,hc'⟩
      · obtain ⟨w2,z2⟩:=I.cell y c' e
        exact ⟨w2,z2.sameBut hs hcc⟩
    · obtain ⟨e,n,ne,nf,d⟩:=I.pin p hp
      refine ⟨(hs.2 p.1 ?_).trans e,n,ne,nf,d⟩
      intro q
      rw [q,hoc] at e
      have q':oc=p.2:=Option.some.inj e
      exact d w' (by rw [←q']; exact hocd)
theorem ZkW {M:Model} {A:Around} {E:Value→Shared→Prop} {i:Nat} {x:Str} {v:V} {u:Value} {Q:Unit→Shared→Prop} (I:Inv X pins σ H s) (hN:X.N.Nodup) (hi:X.N[i]?=some x) (hx:Loc X.env.scope x) (r:RelV v u)
    (h:∀s',Inv X pins (σ.set i (some v)) H s'→Q () s') (hf:X.fn x=true∨X.env.scope.names.lookup x=some .local:=by first | exact .inl rfl | exact .inr rfl | assumption):wpAny M A (storeName X.env x u) Q E s:=
  Znj I hN hi hx r (fun s' I' _=>h s' I') hf
theorem Inv.call' {s':Shared} {ch:List Addr} (I:Inv X pins σ H s) (ho:s'.os=s.os) (u:Un (frs X.stack) ch H H' s.heap s'.heap) (hok:HOk X.prog X.w H' s'.heap) (hg:AllBare s'.gens)
    (hch:∀b∈ch,(b∈X.ex∨X.s₀.heap.objs.size≤b)∧b≠X.env.locals∧(∀x c,X.env.cells.lookup x=some c→c≠b)∧∀p∈X.pn++pins,p.1≠b):Inv X pins σ H' s':=by
  obtain ⟨h',g',d',t',o'⟩:=s'
  have e:o'=s.os:=ho
  subst e
  exact I.call (g':=g') (t':=t') (d':=d') u hok hg hch
end
abbrev XK:=Value→Option Addr→Hp→Prop
abbrev St:=List (Option V)
abbrev VK:=V→Hp→Prop
abbrev TE:=St→Hp→VK→Prop
abbrev TT:=St→Hp→(Bool→Hp→Prop)→Prop
abbrev TA:=St→Hp→(List V→Hp→Prop)→Prop
structure Ze0 where
  nx:St→Hp→Prop
  rt:VK
  bk:St→Hp→Prop:=fun _ _=>False
  ct:St→Hp→Prop:=fun _ _=>False
abbrev TS:=Ze0→St→Hp→Prop
def EP (X:Cx) (pins:List (Addr×Obj)) (σ:St) (Q:VK) (u:Value) (s':Shared):Prop:=∃v H',Inv X pins σ H' s'∧RelV v u∧Q v H'
def TP (X:Cx) (pins:List (Addr×Obj)) (σ:St) (Q:Bool→Hp→Prop) (b:Bool) (s':Shared):Prop:=∃H',Inv X pins σ H' s'∧Q b H'
def AP (X:Cx) (pins:List (Addr×Obj)) (σ:St) (Q:List V→Hp→Prop) (us:List Value) (s':Shared):Prop:=∃vs H',Inv X pins σ H' s'∧Vals vs us∧Q vs H'
def SP (X:Cx) (pins:List (Addr×Obj)) (D:Ze0) (f:Flow) (s':Shared):Prop:=
  match f with
  | .next=>∃σ' H',Inv X pins σ' H' s'∧D.nx σ' H'
  | .brk=>∃σ' H',Inv X pins σ' H' s'∧D.bk σ' H'
  | .cont=>∃σ' H',Inv X pins σ' H' s'∧D.ct σ' H'
  | .ret u=>∃v σ' H',Inv X pins σ' H' s'∧RelV v u∧D.rt v H'
def PE (X:Cx) (e:Expr) (t:TE):Prop:=
  ∀(pins:List (Addr×Obj)) (s:Shared) (σ:St) (H:Hp) (Q:VK),Inv X pins σ H s→t σ H Q→wpAny (model X.prog X.w) X.A (eval e X.env) (EP X pins σ Q) X.xe s
def PT (X:Cx) (e:Expr) (t:TT):Prop:=
  ∀(pins:List (Addr×Obj)) (s:Shared) (σ:St) (H:Hp) (Q:Bool→Hp→Prop),Inv X pins σ H s→t σ H Q→wpAny (model X.prog X.w) X.A (isTrue e X.env (eval e X.env)) (TP X pins σ Q) X.xe s
def PW (X:Cx) (e:Expr) (t:TT):Prop:=
  ∀(whole:Sem Value) (pins:List (Addr×Obj)) (s:Shared) (σ:St) (H:Hp) (Q:Bool→Hp→Prop),Inv X pins σ H s→t σ H Q→wpAny (model X.prog X.w) X.A (isTrue e X.env whole) (TP X pins σ Q) X.xe s
theorem PW.pt {X:Cx} {e:Expr} {t:TT} (h:PW X e t):PT X e t:=h _
def PA (X:Cx) (es:List Expr) (t:TA):Prop:=
  ∀(pos:Pos) (pins:List (Addr×Obj)) (s:Shared) (σ:St) (H:Hp) (Q:List V→Hp→Prop),Inv X pins σ H s→t σ H Q→wpAny (model X.prog X.w) X.A (spliced (backTo pos (starEach es X.env))) (AP X pins σ Q) X.xe s
def PS (X:Cx) (st:Stmt) (t:TS):Prop:=
  ∀(pins:List (Addr×Obj)) (s:Shared) (σ:St) (H:Hp) (D:Ze0),Inv X pins σ H s→t D σ H→wpAny (model X.prog X.w) X.A (exec st X.env) (SP X pins D) X.xe s
def PSs (X:Cx) (st:List Stmt) (t:TS):Prop:=
  ∀(pins:List (Addr×Obj)) (s:Shared) (σ:St) (H:Hp) (D:Ze0),Inv X pins σ H s→t D σ H→wpAny (model X.prog X.w) X.A (execs st X.env) (SP X pins D) X.xe s
theorem thn {α:Type} {t:Sem α} {Q Q':α→Shared→Prop} {M:Model} {A:Around} {E:Value→Shared→Prop} {s:Shared} (h:wpAny M A t Q E s) (hQ:∀a s,Q a s→Q' a s):wpAny M A t Q' E s:=wpAny_mono h hQ fun _ _ x=>x
end L2
namespace L2
open PySem PySem.Spec PyProof.Rows
section
variable {X:Cx}
theorem bin {a b:Expr} {ta tb:TE} (ha:PE X a ta) (hb:PE X b tb) {pins:List (Addr×Obj)} {s:Shared} {σ:St} {H:Hp} {R:V→V→Hp→Prop} (I:Inv X pins σ H s) (h:ta σ H fun x H1=>tb σ H1 fun y H2=>R x y H2)
    {α:Type} {Q:α→Shared→Prop} {f:Value→Value→Sem α}
    (hf:∀v u s2 x y H2,Inv X pins σ H2 s2→RelV x v→RelV y u→R x y H2→wpAny (model X.prog X.w) X.A (f v u) Q X.xe s2) :
    wpAny (model X.prog X.w) X.A (eval a X.env) (fun v s₁=>wpAny (model X.prog X.w) X.A (eval b X.env) (fun u s₂=>wpAny (model X.prog X.w) X.A (f v u) Q X.xe s₂) X.xe s₁) X.xe s:=by
  refine thn (ha pins s σ H _ I h) fun v s1 ⟨x,H1,I1,r1,q1⟩=>?_
  refine thn (hb pins s1 σ H1 _ I1 q1) fun u s2 ⟨y,H2,I2,r2,q2⟩=>?_
  exact hf v u s2 x y H2 I2 r1 r2 q2
def ZyQ (i:Nat):TE:=fun σ H Q=>∃v,σ[i]?=some (some v)∧Q v H
def tC (v:V):TE:=fun _ H Q=>Q v H
theorem ZpN {i:Nat} {x:Str} {pos:Pos} (hN:X.N[i]?=some x) (hv:Vis X.env.scope x) (hd:(x == ("__debug__":Str))=false:=by decide) (hcd:(x == ("__classdict__":Str))=false:=by decide):PE X (.Name x pos) (ZyQ i):=by
  intro pins s σ H Q I h
  obtain ⟨v,e,h⟩:=h
  obtain ⟨m,hn,hl⟩:=I.loc
  obtain ⟨u,r,l⟩:=hl i x v hN e hv
  have fin:EP X pins σ Q u s:=⟨v,H,I,r,h⟩
  rcases l with ⟨hk,hm⟩ | ⟨hk,c,hc,hcell⟩
  · exact wpAny_Name (wpAny_loadName_local I.ok.kind hk hn hm fin) hd
  · rcases hk with hk | hk
    · exact wpAny_Name (wpAny_loadName_cell I.ok.kind hk hc hcell fin) hd
    · exact wpAny_Name (wpAny_loadName_free I.ok.kind hk hc hcell fin hcd) hd
theorem ZtR {i j pos}:PE X (.Constant (.int i) j pos) (tC (.int i)):=fun _ _ _ H _ I h=>wpAny_Constant_int ⟨.int i,H,I.tok _,⟨_,rfl⟩,h⟩
theorem Zvx {b j pos}:PE X (.Constant (.bool b) j pos) (tC (.bl b)):=fun _ _ _ H _ I h=>Constant_bool ⟨.bl b,H,I,rfl,h⟩
theorem ZtQ {j pos}:PE X (.Constant .none j pos) (tC .non):=fun _ _ _ H _ I h=>Constant_none ⟨.non,H,I,rfl,h⟩
theorem ZtO {x j pos}:PE X (.Constant (.str x) j pos) (tC (.str x)):=fun _ _ _ H _ I h=>Calls.Constant_str ⟨.str x,H,I.tok _,⟨_,rfl⟩,h⟩
def Gl (X:Cx) (x:Str):Prop:=X.env.kindOf x=some .globalImplicit
theorem Zhg {E:Value→Shared→Prop} {pins:List (Addr×Obj)} {s:Shared} {σ:St} {H:Hp} {x:Str} {u:Value} {pos:Pos} {Q:Value→Shared→Prop} (I:Inv X pins σ H s) (hg:Gl X x) (hm:X.mg x=some u) (h:Q u s)
    (hd:(x == ("__debug__":Str))=false:=by decide):wpAny (model X.prog X.w) X.A (eval (.Name x pos) X.env) Q E s:=
  Calls.Name_function_global I.ok.kind hg (Calls.loadGlobal_global (by rw [I.ok.glob]; exact I.mod.glob.keeps I.bk) hm h) hd
theorem ZhJ {E:Value→Shared→Prop} {pins:List (Addr×Obj)} {s:Shared} {σ:St} {H:Hp} {x:Str} {u:Value} {pos:Pos} {Q:Value→Shared→Prop} (I:Inv X pins σ H s) (hg:Gl X x) (hm:X.mg x=none) (hv:bootBuiltins x=some u) (h:Q u s)
    (hn:x≠"__name__":=by decide) (hd:(x == ("__debug__":Str))=false:=by decide):wpAny (model X.prog X.w) X.A (eval (.Name x pos) X.env) Q E s:=by
  obtain ⟨mb,h1,h2⟩:=I.mod.blt
  exact Calls.Name_function_global I.ok.kind hg (Calls.loadGlobal_builtin (by rw [I.ok.glob]; exact I.mod.glob.keeps I.bk) hm (by rw [I.ok.blt]; exact h1.keeps I.bk) ((h2 x hn).trans hv) h) hd
theorem ZmC {x:Str} {v:V} {u:Value} {pos:Pos} (hg:Gl X x) (hm:X.mg x=some u) (r:RelV v u) (hd:(x == ("__debug__":Str))=false:=by decide):PE X (.Name x pos) (tC v):=
  fun _ _ _ H _ I h=>Zhg I hg hm ⟨v,H,I,r,h⟩ hd
theorem ZrM {x:Str} {v:V} {u:Value} {pos:Pos} (hg:Gl X x) (hm:X.mg x=none) (hv:bootBuiltins x=some u) (r:RelV v u) (hn:x≠"__name__":=by decide) (hd:(x == ("__debug__":Str))=false:=by decide):PE X (.Name x pos) (tC v):=
  fun _ _ _ H _ I h=>ZhJ I hg hm hv ⟨v,H,I,r,h⟩ hn hd
variable {a b:Expr} {ta tb:TE} {pos:Pos}
def PC (X:Cx) (op:CmpOp) (a b:Expr) (t:TE):Prop:=
  ∀(pins:List (Addr×Obj)) (s:Shared) (σ:St) (H:Hp) (Q:VK),Inv X pins σ H s→t σ H Q→
    wpAny (model X.prog X.w) X.A (eval a X.env) (fun v s₁=>wpAny (model X.prog X.w) X.A (eval b X.env) (fun u s₂=>wpAny (model X.prog X.w) X.A (compareOp op v u) (EP X pins σ Q) X.xe s₂) X.xe s₁) X.xe s
theorem Zp8 (b:Expr) {op:CmpOp} (h:op≠.In) (h2:op≠.NotIn):behindInMarks op b=false:=by
  have e1:(op == CmpOp.In)=false:=by cases op<;>first | rfl | exact absurd rfl h
  have e2:(op == CmpOp.NotIn)=false:=by cases op<;>first | rfl | exact absurd rfl h2
  cases b<;>simp [behindInMarks,e1,e2]
def tB (t:TE):TT:=fun σ H Q=>t σ H fun x H1=>∃c,x=.bl c∧Q c H1
theorem ZtF {op:CmpOp} {t:TE} (h:PC X op a b t) (h1:behindInMarks op b=false:=by first | exact Zp8 _ (by decide) (by decide) | rfl):PT X (.Compare a [op] [b] pos) (tB t):=by
  intro pins s σ H Q I hw
  refine wpAny_isTrue_Compare1 (thn (h pins s σ H _ I hw) fun v s1 h1=>thn h1 fun u s2 h2=>thn h2 fun c s3 ⟨x,H1,I1,r1,q1⟩=>?_) h1
  obtain ⟨d,rfl,q⟩:=q1
  cases r1
  exact wpAny_truthy_bool ⟨H1,I1,q⟩
variable {tA tB':TT} {rest:List Expr}
def Zy1 (t u:TT):TT:=fun σ H Q=>t σ H fun c H1=>if c=true then u σ H1 Q else Q false H1
def tOr (t u:TT):TT:=fun σ H Q=>t σ H fun c H1=>if c=true then Q true H1 else u σ H1 Q
def ZyW (t:TT):TT:=fun σ H Q=>t σ H fun c H1=>Q (!c) H1
theorem Zrw (ha:PT X a tA):PW X (.BoolOp .And [a] pos) tA:=by
  intro wh pins s σ H Q I h
  refine isTrue_and (thn (ha pins s σ H Q I h) fun c s1 e=>?_)
  cases c with
  | true=>exact isTrue_and_nil e
  | false=>exact e
theorem ZtB (ha:PT X a tA):PW X (.BoolOp .Or [a] pos) tA:=by
  intro wh pins s σ H Q I h
  refine isTrue_or (thn (ha pins s σ H Q I h) fun c s1 e=>?_)
  cases c with
  | false=>exact isTrue_or_nil e
  | true=>exact e
theorem ZtC (ha:PT X a tA) (hb:PW X (.BoolOp .And (b::rest) pos) tB'):PW X (.BoolOp .And (a::b::rest) pos) (Zy1 tA tB'):=by
  intro wh pins s σ H Q I h
  refine isTrue_and (thn (ha pins s σ H _ I h) fun c s1 ⟨H1,I1,q1⟩=>?_)
  cases c with
  | true=>exact hb wh pins s1 σ H1 Q I1 q1
  | false=>exact ⟨H1,I1,q1⟩
theorem Zvo (ha:PT X a tA) (hb:PW X (.BoolOp .Or (b::rest) pos) tB'):PW X (.BoolOp .Or (a::b::rest) pos) (tOr tA tB'):=by
  intro wh pins s σ H Q I h
  refine isTrue_or (thn (ha pins s σ H _ I h) fun c s1 ⟨H1,I1,q1⟩=>?_)
  cases c with
  | true=>exact ⟨H1,I1,q1⟩
  | false=>exact hb wh pins s1 σ H1 Q I1 q1
theorem ZtE (ha:PT X a tA):PT X (.UnaryOp .Not a pos) (ZyW tA):=by
  intro pins s σ H Q I h
  exact isTrue_not (ha pins s σ H (fun c H1=>Q (!c) H1) I h)
def Zvd (ta tb:TE):TE:=fun σ H Q=>ta σ H fun x H1=>∃c,x=.bl c∧if c=true then tb σ H1 Q else Q (.bl false) H1
def ZyV (ta tb:TE):TE:=fun σ H Q=>ta σ H fun x H1=>∃c,x=.bl c∧if c=true then Q (.bl true) H1 else tb σ H1 Q
theorem ZtP {op} {t:TE} (h:PE X a t):PE X (.BoolOp op [a] pos) t:=fun pins s σ H Q I hw=>BoolOp_one (h pins s σ H Q I hw)
theorem ZtT (ha:PE X a ta) (hb:PE X (.BoolOp .And (b::rest) pos) tb):PE X (.BoolOp .And (a::b::rest) pos) (Zvd ta tb):=by
  intro pins s σ H Q I h
  refine BoolOp_and (thn (ha pins s σ H _ I h) fun v s1 ⟨x,H1,I1,r1,q1⟩=>?_)
  obtain ⟨c,rfl,q1⟩:=q1
  cases r1
  refine wpAny_truthy_bool ?_
  cases c with
  | true=>exact hb pins s1 σ H1 Q I1 q1
  | false=>exact ⟨.bl false,H1,I1,rfl,q1⟩
theorem Zvt (ha:PE X a ta) (hb:PE X (.BoolOp .Or (b::rest) pos) tb):PE X (.BoolOp .Or (a::b::rest) pos) (ZyV ta tb):=by
  intro pins s σ H Q I h
  refine BoolOp_or (thn (ha pins s σ H _ I h) fun v s1 ⟨x,H1,I1,r1,q1⟩=>?_)
  obtain ⟨c,rfl,q1⟩:=q1
  cases r1
  refine wpAny_truthy_bool ?_
  cases c with
  | false=>exact hb pins s1 σ H1 Q I1 q1
  | true=>exact ⟨.bl true,H1,I1,rfl,q1⟩
def tIf (t:TT) (ta tb:TE):TE:=fun σ H Q=>t σ H fun c H1=>if c=true then ta σ H1 Q else tb σ H1 Q
theorem ZpR {c:Expr} (hc:PT X c tA) (ha:PE X a ta) (hb:PE X b tb):PE X (.IfExp c a b pos) (tIf tA ta tb):=by
  intro pins s σ H Q I h
  refine wpAny_IfExp (thn (hc pins s σ H _ I h) fun d s1 ⟨H1,I1,q1⟩=>?_)
  cases d with
  | true=>exact ha pins s1 σ H1 Q I1 q1
  | false=>exact hb pins s1 σ H1 Q I1 q1
end
end L2
namespace L2
open PySem PySem.Spec PyProof.Rows
def SqL (K:PySem.W.Frag) (H:Hp) (a:Addr) (xs:List V):Prop:=
  Rd H a (.lst xs)∨
    ∃(o:Obj) (its:Array Value) (n:Nat),K.lookup a=some o∧o.cls=.type "list"∧o.dict=none∧o.data=.seq its n∧its.size≤sizeLine∧Vals xs its.toList
def SqT (K:PySem.W.Frag) (H:Hp) (a:Addr) (xs:List V):Prop:=
  Rd H a (.tup xs)∨
    ∃(o:Obj) (its:Array Value) (n:Nat),K.lookup a=some o∧o.cls=.type "tuple"∧o.data=.seq its n∧its.size≤sizeLine∧Vals xs its.toList
def ZzF:Value→Option V
  | .none=>some .non
  | .bool b=>some (.bl b)
  | .int i _=>some (.int i)
  | .str x _=>some (.str x)
  | .bytes b _=>some (.byt b)
  | .float b _=>some (.flt b)
  | .ref a=>some (.ref a)
  | .type n=>some (.ty n)
  | _=>none
theorem RelV.abs {x:V} {u:Value} (r:RelV x u):ZzF u=some x:=by
  cases x with
  | non=>cases r; rfl
  | bl _=>cases r; rfl
  | int _=>obtain ⟨t,rfl⟩:=r; rfl
  | str _=>obtain ⟨t,rfl⟩:=r; rfl
  | byt _=>obtain ⟨t,rfl⟩:=r; rfl
  | flt _=>obtain ⟨t,rfl⟩:=r; rfl
  | ref _=>cases r; rfl
  | ty _=>cases r; rfl
theorem RelV.inj {x y:V} {u:Value} (r:RelV x u) (q:RelV y u):x=y:=Option.some.inj (r.abs.symm.trans q.abs)
theorem Vals.inj:∀{xs ys:List V} {us:List Value},Vals xs us→Vals ys us→xs=ys
  | _,_,_,.nil,.nil=>rfl
  | _,_,_,.cons r t,.cons r' t'=>by rw [r.inj r',Vals.inj t t']
section
variable {X:Cx} {pins:List (Addr×Obj)} {σ:St} {H:Hp} {s:Shared} {a:Addr} {xs ys:List V}
theorem SqL.of {K:PySem.W.Frag} (h:H a=some (.lst xs)):SqL K H a xs:=.inl (.inl h)
theorem SqT.of {K:PySem.W.Frag} (h:H a=some (.tup xs)):SqT K H a xs:=.inl (.inl h)
theorem Inv.list (I:Inv X pins σ H s) (h:SqL X.K H a xs):∃its:List Value,Vals xs its∧PlainL s.heap a its.toArray∧xs.length≤sizeLine:=by
  rcases h with h | ⟨o,its,n,hk,hc,hd,hs,hz,r⟩
  · obtain ⟨z,its,n,r,e⟩:=h.ok I.hok
    exact ⟨its,r,⟨_,n,e,rfl,rfl,rfl⟩,z⟩
  · refine ⟨its.toList,r,⟨o,n,I.kIn a o hk,hc,hd,by simpa using hs⟩,?_⟩
    have e:=r.length
    simp only [Array.length_toList] at e
    omega
theorem Inv.tuple (I:Inv X pins σ H s) (h:SqT X.K H a xs):∃its:List Value,Vals xs its∧IsTup s.heap a its.toArray∧xs.length≤sizeLine:=by
  rcases h with h | ⟨o,its,n,hk,hc,hs,hz,r⟩
  · obtain ⟨z,its,r,p⟩:=h.ok I.hok
    exact ⟨its,r,p,z⟩
  · refine ⟨its.toList,r,⟨o,I.kIn a o hk,hc,n,by simpa using hs⟩,?_⟩
    have e:=r.length
    simp only [Array.length_toList] at e
    omega
theorem Inv.list_inj (I:Inv X pins σ H s) (h:SqL X.K H a xs) (h':SqL X.K H a ys):xs=ys:=by
  obtain ⟨its,r,⟨o,n,e,_,_,d⟩,_⟩:=I.list h
  obtain ⟨its',r',⟨o',n',e',_,_,d'⟩,_⟩:=I.list h'
  rw [e] at e'; cases e'
  rw [d] at d'
  injection d' with d1 _
  have:its=its':=by simpa using congrArg Array.toList d1
  subst this
  exact r.inj r'
theorem Inv.tuple_inj (I:Inv X pins σ H s) (h:SqT X.K H a xs) (h':SqT X.K H a ys):xs=ys:=by
  obtain ⟨its,r,⟨o,e,_,n,d⟩,_⟩:=I.tuple h
  obtain ⟨its',r',⟨o',e',_,n',d'⟩,_⟩:=I.tuple h'
  rw [e] at e'; cases e'
  rw [d] at d'
  injection d' with d1 _
  have:its=its':=by simpa using congrArg Array.toList d1
  subst this
  exact r.inj r'
end
abbrev Cx.wish (X:Cx) (E:Value→Shared→Prop):Cx:={ X with xe:=E }
abbrev Cx.nox (X:Cx):Cx:=X.wish fun _ _=>False
theorem Cx.Ok.wish {X:Cx} (ok:X.Ok) (E:Value→Shared→Prop):(X.wish E).Ok:=
  ⟨ok.mod,ok.kind,ok.glob,ok.blt,ok.above,ok.inj,ok.has,ok.cab,ok.hd,ok.frames,ok.stk,ok.exf,ok.bs,ok.bsz,ok.noex,ok.exfs,ok.funs,ok.frf⟩
theorem Cx.Ok.unwish {X:Cx} {E:Value→Shared→Prop} (ok:(X.wish E).Ok):X.Ok:=
  ⟨ok.mod,ok.kind,ok.glob,ok.blt,ok.above,ok.inj,ok.has,ok.cab,ok.hd,ok.frames,ok.stk,ok.exf,ok.bs,ok.bsz,ok.noex,ok.exfs,ok.funs,ok.frf⟩
section
variable {X:Cx} {pins:List (Addr×Obj)} {σ:St} {H:Hp} {s:Shared} {E:Value→Shared→Prop}
theorem Inv.wish (I:Inv X pins σ H s) (E:Value→Shared→Prop):Inv (X.wish E) pins σ H s:=⟨I.ok.wish E,I.os,I.bare,I.base,I.loc,I.cell,I.free,I.freeC,I.pin,I.hok,I.len⟩
theorem Inv.unwish (I:Inv (X.wish E) pins σ H s):Inv X pins σ H s:=⟨I.ok.unwish,I.os,I.bare,I.base,I.loc,I.cell,I.free,I.freeC,I.pin,I.hok,I.len⟩
theorem SP.unwish {D:Ze0} {f:Flow} {s':Shared} (h:SP (X.wish E) pins D f s'):SP X pins D f s':=by
  cases f with
  | next=>obtain ⟨σ',H',I,q⟩:=h; exact ⟨σ',H',I.unwish,q⟩
  | brk=>obtain ⟨σ',H',I,q⟩:=h; exact ⟨σ',H',I.unwish,q⟩
  | cont=>obtain ⟨σ',H',I,q⟩:=h; exact ⟨σ',H',I.unwish,q⟩
  | ret u=>obtain ⟨v,σ',H',I,r,q⟩:=h; exact ⟨v,σ',H',I.unwish,r,q⟩
theorem PE.nox {e:Expr} {t:TE} (h:PE X.nox e t):PE X e t:=fun pins s σ H Q I hw=>
  wpAny_mono (h pins s σ H Q (I.wish _) hw) (fun _ _ ⟨v,H',I',r,q⟩=>⟨v,H',I'.unwish,r,q⟩) fun _ _ z=>False.elim z
theorem PT.nox {e:Expr} {t:TT} (h:PT X.nox e t):PT X e t:=fun pins s σ H Q I hw=>
  wpAny_mono (h pins s σ H Q (I.wish _) hw) (fun _ _ ⟨H',I',q⟩=>⟨H',I'.unwish,q⟩) fun _ _ z=>False.elim z
theorem PSs.nox {st:List Stmt} {t:TS} (h:PSs X.nox st t):PSs X st t:=fun pins s σ H D I hw=>
  wpAny_mono (h pins s σ H D (I.wish _) hw) (fun _ _ q=>q.unwish) fun _ _ z=>False.elim z
end
section
variable {X:Cx} {st:Stmt} {rest:List Stmt} {t u:TS} {e:Expr} {te:TE} {pos:Pos}
def Zu9:TS:=fun D σ H=>D.nx σ H
def ZyT (t u:TS):TS:=fun D σ H=>t { D with nx:=u D } σ H
theorem ZrA:PSs X [] Zu9:=fun _ _ σ H _ I h=>wpAny_execs_nil ⟨σ,H,I,h⟩
theorem ZpG (h1:PS X st t) (h2:PSs X rest u):PSs X (st::rest) (ZyT t u):=by
  intro pins s σ H D I h
  refine wpAny_execs_cons (thn (h1 pins s σ H { D with nx:=u D } I h) fun f s1 q=>?_)
  cases f with
  | next=>
    obtain ⟨σ',H',I',q⟩:=q
    exact h2 pins s1 σ' H' D I' q
  | ret v=>exact q
  | brk=>exact q
  | cont=>exact q
theorem Zrz (h1:PS X st t):PSs X [st] t:=by
  intro pins s σ H D I h
  refine wpAny_execs_cons (thn (h1 pins s σ H D I h) fun f s1 q=>?_)
  cases f with
  | next=>exact wpAny_execs_nil q
  | ret v=>exact q
  | brk=>exact q
  | cont=>exact q
theorem Inv.quiet {pins:List (Addr×Obj)} {σ:St} {H:Hp} {s:Shared} (I:Inv X pins σ H s):interactive X.env=false:=by simp [interactive,I.ok.kind]
def Zva (te:TE):TS:=fun D σ H=>te σ H fun _ H1=>D.nx σ H1
theorem ZmA (he:PE X e te) (hs:swapsWith e none pos.line X.env=pure false:=by rfl):PS X (.Expr e pos) (Zva te):=by
  intro pins s σ H D I h
  exact wpAny_Expr_any (thn (he pins s σ H _ I h) fun v s1 ⟨x,H1,I1,r1,q1⟩=>⟨σ,H1,I1,q1⟩) I.quiet hs
def ZyU (te:TE):TS:=fun D σ H=>te σ H D.rt
theorem ZtG (he:PE X e te):PS X (.Return (some e) pos) (ZyU te):=by
  intro pins s σ H D I h
  exact wpAny_Return_some (thn (he pins s σ H _ I h) fun v s1 ⟨x,H1,I1,r1,q1⟩=>⟨x,σ,H1,I1,r1,q1⟩)
def Zu7:TS:=fun D _ H=>D.rt .non H
theorem ZrB:PS X (.Return none pos) Zu7:=fun _ _ σ H _ I h=>wpAny_Return_none ⟨.non,σ,H,I,rfl,h⟩
def ZyY (c:TT) (t u:TS):TS:=fun D σ H=>c σ H fun b H1=>if b=true then t D σ H1 else u D σ H1
theorem Zvq {c:Expr} {a b:List Stmt} {tc:TT} (hc:PT X c tc) (ha:PSs X a t) (hb:PSs X b u):PS X (.If c a b pos) (ZyY tc t u):=by
  intro pins s σ H D I h
  refine wpAny_If (thn (hc pins s σ H _ I h) fun d s1 ⟨H1,I1,q1⟩=>?_)
  cases d with
  | true=>exact ha pins s1 σ H1 D I1 q1
  | false=>exact hb pins s1 σ H1 D I1 q1
end
abbrev TG:=V→St→Hp→(St→Hp→Prop)→Prop
abbrev TGs:=List V→St→Hp→(St→Hp→Prop)→Prop
def PG (X:Cx) (target:Expr) (t:TG):Prop:=
  ∀(pins:List (Addr×Obj)) (s:Shared) (σ:St) (H:Hp) (v:V) (u:Value) (Q:St→Hp→Prop),Inv X pins σ H s→RelV v u→t v σ H Q→
    wpAny (model X.prog X.w) X.A (assign target X.env u) (fun _ s'=>∃σ' H',Inv X pins σ' H' s'∧Q σ' H') X.xe s
def PGs (X:Cx) (ts:List Expr) (t:TGs):Prop:=
  ∀(pins:List (Addr×Obj)) (s:Shared) (σ:St) (H:Hp) (vs:List V) (us:List Value) (Q:St→Hp→Prop),Inv X pins σ H s→Vals vs us→t vs σ H Q→
    wpAny (model X.prog X.w) X.A (assignInOrder ((assignEach ts X.env).map (·.2)) us) (fun _ s'=>∃σ' H',Inv X pins σ' H' s'∧Q σ' H') X.xe s
section
variable {X:Cx} {pos:Pos}
def Zlr (i:Nat):TG:=fun v σ H Q=>Q (σ.set i (some v)) H
theorem ZfE {i:Nat} {x:Str} (hN:X.N.Nodup) (hi:X.N[i]?=some x) (hx:Loc X.env.scope x) (hf:X.fn x=true∨X.env.scope.names.lookup x=some .local:=by first | exact .inl rfl | exact .inr rfl | assumption):PG X (.Name x pos) (Zlr i):=by
  intro pins s σ H v u Q I r h
  exact wpAny_assign_Name (ZkW I hN hi hx r (fun s' I'=>⟨_,H,I',h⟩) hf)
def Zzy:TGs:=fun vs σ H Q=>vs=[]∧Q σ H
def ZvW (t:TG) (u:TGs):TGs:=fun vs σ H Q=>∃v r,vs=v::r∧t v σ H fun σ' H'=>u r σ' H' Q
theorem ZrH:PGs X [] Zzy:=by
  intro pins s σ H vs us Q I r h
  obtain ⟨e,h⟩:=h
  subst e
  cases r
  exact assignInOrder_nil ⟨σ,H,I,h⟩
theorem Zk5 {e:Expr} {es:List Expr} {t:TG} {u:TGs} (h1:PG X e t) (h2:PGs X es u)
    (hs:(assignEach (e::es) X.env).map (·.2)=assign e X.env::(assignEach es X.env).map (·.2):=by rfl):PGs X (e::es) (ZvW t u):=by
  intro pins s σ H vs us Q I r h
  obtain ⟨v,vr,e1,h⟩:=h
  subst e1
  cases r with
  | cons r rr=>
    rw [hs]
    refine assignInOrder_cons (thn (h1 pins s σ H _ _ _ I r h) fun _ s1 ⟨σ1,H1,I1,q1⟩=>?_)
    exact h2 pins s1 σ1 H1 _ _ Q I1 rr q1
def Zzx (K:PySem.W.Frag) (n:Nat) (t:TGs):TG:=fun v σ H Q=>∃a xs,v=.ref a∧SqT K H a xs∧xs.length=n∧t xs σ H Q
theorem ZtM {es:List Expr} {k:Nat} {t:TGs} {n:Nat} (hc:X.calm=true) (h:PGs X es t)
    (hn:(assignEach es X.env).length=n:=by rfl) (hst:(assignEach es X.env).findIdx? (·.1)=none:=by rfl):PG X (.Tuple es k pos) (Zzx X.K n t):=by
  intro pins s σ H v u Q I r hw
  obtain ⟨a,xs,e1,hq,hl,hw⟩:=hw
  subst e1
  cases r
  obtain ⟨its,rv,ht,hz⟩:=I.tuple hq
  refine assign_Tuple_tuple (I.ok.hd hc) ht (by simp [hn,←hl,rv.length]) hst fun h' hx=>?_
  have I1:Inv X pins σ H { s with heap:=h' }:=I.kept (t':=s.toks) fun b o e=>hx b o (Nat.ne_of_lt (Heap.lt_size e)) e
  exact h pins _ σ H xs _ Q I1 (by simpa using rv) hw
def Zvc (te:TE) (g:TG):TS:=fun D σ H=>te σ H fun x H1=>g x σ H1 D.nx
theorem ZpI {i:Nat} {x:Str} {e:Expr} {te:TE} {pos':Pos} (hN:X.N.Nodup) (hi:X.N[i]?=some x) (hx:Loc X.env.scope x) (he:PE X e te) (hs:swapsWith e (some (.Name x pos')) pos.line X.env=pure false:=by rfl) (hf:X.fn x=true∨X.env.scope.names.lookup x=some .local:=by first | exact .inl rfl | exact .inr rfl | assumption) :
    PS X (.Assign [.Name x pos'] e pos) (Zvc te (Zlr i)):=by
  intro pins s σ H D I h
  refine wpAny_Assign_Name (thn (he pins s σ H _ I h) fun v s1 ⟨y,H1,I1,r1,q1⟩=>?_) hs
  exact ZkW I1 hN hi hx r1 (fun s2 I2=>⟨_,H1,I2,q1⟩) hf
end
section
variable {X:Cx} {pos:Pos}
def Ztp (c:TT) (tb:TS):TS:=fun D σ H=>∃W:Nat→St→Hp→Prop,(∃m,W m σ H)∧∀m σ H,W m σ H→
  c σ H fun b H1=>if b=true then ∃N:St→Hp→Prop,(∀σ' H',N σ' H'→∃m',m'<m∧W m' σ' H')∧tb { D with nx:=N,ct:=N,bk:=D.nx } σ H1 else D.nx σ H1
theorem ZpH {c:Expr} {body:List Stmt} {tc:TT} {tb:TS} (hp:PassesOwn (model X.prog X.w) X.A X.env X.xe) (hc:PT X c tc) (hb:PSs X body tb):PS X (.While c body [] pos) (Ztp tc tb):=by
  intro pins s σ H D I h
  obtain ⟨W,⟨m0,w0⟩,turn⟩:=h
  refine wpAny_While (codeAny_whileLoop (fun n s'=>∃σ' H',Inv X pins σ' H' s'∧W n σ' H') ?_ m0 ⟨σ,H,I,w0⟩)
  rintro n s1 ⟨σ1,H1,I1,w1⟩
  refine wpAny_passesOwn hp (thn (hc pins s1 σ1 H1 _ I1 (turn n σ1 H1 w1)) fun b s2 ⟨H2,I2,q2⟩=>?_)
  cases b with
  | true=>
    obtain ⟨N,hN,q2⟩:=q2
    rw [if_pos rfl]
    refine wpAny_passesOwn hp (thn (hb pins s2 σ1 H2 _ I2 q2) fun f s3 q3=>?_)
    cases f with
    | next=>
      obtain ⟨σ3,H3,I3,n3⟩:=q3
      obtain ⟨m',hm,w3⟩:=hN σ3 H3 n3
      exact ⟨m',hm,σ3,H3,I3,w3⟩
    | cont=>
      obtain ⟨σ3,H3,I3,n3⟩:=q3
      obtain ⟨m',hm,w3⟩:=hN σ3 H3 n3
      exact ⟨m',hm,σ3,H3,I3,w3⟩
    | brk=>exact q3
    | ret v=>exact q3
  | false=>
    rw [if_neg Bool.false_ne_true]
    exact wpAny_execs_nil ⟨σ1,H2,I2,q2⟩
end
structure It where
  go:Nat→Hp→Prop
  yld:Nat→Hp→V→Hp→Prop
  stop:Nat→Hp→Prop
def Zij (X:Cx) (pins:List (Addr×Obj)) (H:Hp) (b:Addr):Prop:=
  H b=none∧b≠X.env.locals∧b∉X.fs∧(b∈X.ex∨X.s₀.heap.objs.size≤b)∧(∀x c,X.env.cells.lookup x=some c→c≠b)∧∀p∈X.pn++pins,p.1≠b
theorem Inv.fpOk {X:Cx} {pins:List (Addr×Obj)} {σ:St} {H H':Hp} {s:Shared} {b:Addr} (I:Inv X pins σ H s) (hb:s.heap.objs.size≤b) (hn:H' b=none):Zij X pins H' b:=by
  refine ⟨hn,Nat.ne_of_gt (Nat.lt_of_lt_of_le I.lt hb),I.nofs hb,.inr (Nat.le_trans I.sz hb),fun x c e z=>?_,fun p hp z=>?_⟩
  · obtain ⟨v,q⟩:=I.cell x c e
    exact absurd (Nat.lt_of_lt_of_le q.lt (by rw [z]; exact hb)) (Nat.lt_irrefl _)
  · exact absurd (Nat.lt_of_lt_of_le (Heap.lt_size (I.pin p hp).1) (by rw [z]; exact hb)) (Nat.lt_irrefl _)
structure ZnQ (P:Program) (w:World) (K:PySem.W.Frag) (tg:Expr) (J:It) (fp:List Addr) (it:Addr) (tn:Nat→Heap→Prop):Prop where
  mem:it∈fp
  obj:∀i h,tn i h→∀b∈fp,∃o,h.get? b=some o∧∀v,o.data≠.cell v
  keep:∀i h h',tn i h→(∀b∈fp,∀o,h.get? b=some o→h'.get? b=some o)→tn i h'
  item:∀(X:Cx),X.prog=P→X.w=w→X.K=K→X.calm=true→∀(i:Nat) (pins:List (Addr×Obj)) (s:Shared) (σ:St) (H:Hp) (E:Value→Shared→Prop),Inv X pins σ H s→(∀b∈fp,Zij X pins H b)→tn i s.heap→J.go i H→
    wpAny (model P w) X.A (pyNext (.ref it)) (fun r s1=>∃u,r=some u∧
      wpAny (model P w) X.A (letOwnedTupleGo tg (.ref it) u) (fun _ s2=>∃x H',Inv X pins σ H' s2∧RelV x u∧J.yld i H x H'∧tn (i+1) s2.heap∧∀b∈fp,H' b=none) E s1) E s
  done:∀(X:Cx),X.prog=P→X.w=w→X.K=K→X.calm=true→∀(i:Nat) (pins:List (Addr×Obj)) (s:Shared) (σ:St) (H:Hp) (E:Value→Shared→Prop),Inv X pins σ H s→(∀b∈fp,Zij X pins H b)→tn i s.heap→J.stop i H→
    wpAny (model P w) X.A (pyNext (.ref it)) (fun r s1=>r=none∧Inv X pins σ H s1) E s
  self:∀(A:Around) (i:Nat) (s:Shared) (Q:Value→Shared→Prop) (E:Value→Shared→Prop),tn i s.heap→Q (.ref it) s→wpAny (model P w) A (pyIter (.ref it)) Q E s
abbrev TI:=St→Hp→(It→Hp→Prop)→Prop
def PIE (X:Cx) (pins:List (Addr×Obj)) (σ:St) (tg:Expr) (R:It→Hp→Prop) (itv:Value) (s2:Shared):Prop:=
  ∃(it:Addr) (fp:List Addr) (tn:Nat→Heap→Prop) (J:It) (H':Hp),itv=.ref it∧Inv X pins σ H' s2∧ZnQ X.prog X.w X.K tg J fp it tn∧tn 0 s2.heap∧(∀b∈fp,Zij X pins H' b)∧R J H'
def PI (X:Cx) (tg iter:Expr) (wi:TI):Prop:=
  ∀(pins:List (Addr×Obj)) (s:Shared) (σ:St) (H:Hp) (R:It→Hp→Prop),Inv X pins σ H s→wi σ H R→
    wpAny (model X.prog X.w) X.A (eval iter X.env) (fun v s1=>wpAny (model X.prog X.w) X.A (pyIter v) (PIE X pins σ tg R) X.xe s1) X.xe s
theorem Zqv {M:Model} {A:Around} {E:Value→Shared→Prop} {s:Shared} {tg:Expr} {it:Addr} {u:Value} {o:Obj} {n:String} {vs:Array Value} {Q:Unit→Shared→Prop} (ho:s.heap.get? it=some o) (hc:o.cls=.type n) (hd:o.data=.fields vs)
    (hn:["enumerate","zip","dict_itemiterator","dict_reverseitemiterator","odict_iterator","itertools.zip_longest","itertools.pairwise"].contains n=false) (hQ:Q () s):wpAny M A (letOwnedTupleGo tg (.ref it) u) Q E s:=by
  unfold letOwnedTupleGo
  cases tg<;>first
    | exact wpAny_pure hQ
    | (cases u<;>first
        | exact wpAny_pure hQ
        | (refine wpAny_bind (wpAny_load ho ?_)
           rw [hc,hd]
           show wpAny M A (if (["enumerate","zip","dict_itemiterator","dict_reverseitemiterator","odict_iterator","itertools.zip_longest","itertools.pairwise"].contains n && vs[0]? == some (rawInt _))=true then _ else _) Q E s
           rw [if_neg (by intro h; rw [hn,Bool.false_and] at h; cases h)]
           exact wpAny_pure hQ))
def Itl (K:PySem.W.Frag) (a:Addr):It:=
  ⟨fun i H=>∃xs x,SqL K H a xs∧xs[i]?=some x,fun i H x H'=>H'=H∧∀xs,SqL K H a xs→xs[i]?=some x,fun i H=>∃xs,SqL K H a xs∧xs.length≤i⟩
def Itt (K:PySem.W.Frag) (a:Addr):It:=
  ⟨fun i H=>∃xs x,SqT K H a xs∧xs[i]?=some x,fun i H x H'=>H'=H∧∀xs,SqT K H a xs→xs[i]?=some x,fun i H=>∃xs,SqT K H a xs∧xs.length≤i⟩
def Itr (lo:Int) (n:Nat):It:=⟨fun i _=>i<n,fun i H x H'=>H'=H∧x=.int (lo+i),fun i _=>n≤i⟩
theorem Zne {P:Program} {w:World} {K:PySem.W.Frag} {tg:Expr} (a it:Addr):ZnQ P w K tg (Itl K a) [it] it (fun i h=>h.IsListIter it a i) where
  mem:=by simp
  obj:=fun i h st b hb=>by
    have e:b=it:=by simpa using hb
    subst e
    obtain ⟨o,e,c,d⟩:=st
    exact ⟨o,e,fun v z=>by rw [d] at z; cases z⟩
  keep:=fun i h h' st k=>st.at fun o e=>k it (by simp) o e
  item:=by
    intro X hP hw hK hc i pins s σ H E I hf st hg
    subst hP hw hK
    obtain ⟨xs,x,hq,hx⟩:=hg
    obtain ⟨its,rv,p,hz⟩:=I.list hq
    obtain ⟨u,hu,ru⟩:=rv.get hx
    obtain ⟨f0,f1,f2,f3,f4,f5⟩:=hf it (by simp)
    refine wpAny_pyNext_list_item st p.isList (x:=u) (by simpa using hu) fun h' st' sb=>?_
    have I1:Inv X pins σ H { s with heap:=h' }:=I.turned (t':=s.toks) (fun b o hb e=>(sb.2 b hb).trans e) f0 f1 f3 f4 f5
    obtain ⟨o,e,c,d⟩:=id st'
    exact ⟨u,rfl,Zqv (s:={ s with heap:=h' }) e c d (by decide) ⟨x,H,I1,ru,⟨rfl,fun ys hy=>by rw [I.list_inj hy hq]; exact hx⟩,st',fun b hb=>(hf b hb).1⟩⟩
  done:=by
    intro X hP hw hK hc i pins s σ H E I hf st hg
    subst hP hw hK
    obtain ⟨xs,hq,hx⟩:=hg
    obtain ⟨its,rv,p,hz⟩:=I.list hq
    obtain ⟨f0,f1,f2,f3,f4,f5⟩:=hf it (by simp)
    have hl:=rv.length
    exact wpAny_pyNext_list_end (I.ok.hd hc) st p.isList (by simp; omega) fun h' eb=>⟨rfl,I.turned (t':=s.toks) (fun b o hb e=>eb b o hb e) f0 f1 f3 f4 f5⟩
  self:=fun _ _ _ _ _ st h=>wpAny_pyIter_listiter st h
theorem ZlK {P:Program} {w:World} {K:PySem.W.Frag} {tg:Expr} (a it:Addr):ZnQ P w K tg (Itt K a) [it] it (fun i h=>h.IsTupleIter it a i) where
  mem:=by simp
  obj:=fun i h st b hb=>by
    have e:b=it:=by simpa using hb
    subst e
    obtain ⟨o,e,c,d⟩:=st
    exact ⟨o,e,fun v z=>by rw [d] at z; cases z⟩
  keep:=fun i h h' st k=>st.at fun o e=>k it (by simp) o e
  item:=by
    intro X hP hw hK hc i pins s σ H E I hf st hg
    subst hP hw hK
    obtain ⟨xs,x,hq,hx⟩:=hg
    obtain ⟨its,rv,p,hz⟩:=I.tuple hq
    obtain ⟨u,hu,ru⟩:=rv.get hx
    obtain ⟨f0,f1,f2,f3,f4,f5⟩:=hf it (by simp)
    refine wpAny_pyNext_tuple_item st (show s.heap.IsTuple a its.toArray from p) (x:=u) (by simpa using hu) fun h' st' sb=>?_
    have I1:Inv X pins σ H { s with heap:=h' }:=I.turned (t':=s.toks) (fun b o hb e=>(sb.2 b hb).trans e) f0 f1 f3 f4 f5
    obtain ⟨o,e,c,d⟩:=id st'
    exact ⟨u,rfl,Zqv (s:={ s with heap:=h' }) e c d (by decide) ⟨x,H,I1,ru,⟨rfl,fun ys hy=>by rw [I.tuple_inj hy hq]; exact hx⟩,st',fun b hb=>(hf b hb).1⟩⟩
  done:=by
    intro X hP hw hK hc i pins s σ H E I hf st hg
    subst hP hw hK
    obtain ⟨xs,hq,hx⟩:=hg
    obtain ⟨its,rv,p,hz⟩:=I.tuple hq
    obtain ⟨f0,f1,f2,f3,f4,f5⟩:=hf it (by simp)
    have hl:=rv.length
    exact wpAny_pyNext_tuple_end (I.ok.hd hc) st (show s.heap.IsTuple a its.toArray from p) (by simp; omega) fun h' eb=>⟨rfl,I.turned (t':=s.toks) (fun b o hb e=>eb b o hb e) f0 f1 f3 f4 f5⟩
  self:=fun _ _ _ _ _ st h=>wpAny_pyIter_tupleiter st h
theorem ZlL {P:Program} {w:World} {K:PySem.W.Frag} {tg:Expr} (it:Addr) (lo:Int) (n:Nat):ZnQ P w K tg (Itr lo n) [it] it (fun i h=>IsRangeIter h it (lo+(i:Nat)*1) ((n:Int)-(i:Nat)) 1) where
  mem:=by simp
  obj:=fun i h st b hb=>by
    have e:b=it:=by simpa using hb
    subst e
    exact ⟨_,st,fun v z=>by
      have z':Data.fields _=Data.cell v:=z
      cases z'⟩
  keep:=fun i h h' st k=>k it (by simp) _ st
  item:=by
    intro X hP hw hK hc i pins s σ H E I hf st hg
    subst hP hw hK
    obtain ⟨f0,f1,f2,f3,f4,f5⟩:=hf it (by simp)
    have W:=Walks.range (prog:=X.prog) (w:=X.w) (I.ok.hd hc) it lo 1 n
    refine W.item i s _ _ hg st fun v h' tk hv st' kk=>?_
    obtain ⟨t,rfl⟩:=hv
    have I1:Inv X pins σ H { s with heap:=h',toks:=tk }:=I.turned (fun b o hb e=>kk b o (by simpa using hb) e) f0 f1 f3 f4 f5
    refine ⟨_,rfl,Zqv (s:={ s with heap:=h',toks:=tk }) (n:="range_iterator") st' rfl rfl (by decide) ⟨.int (lo+i),H,I1,⟨t,?_⟩,⟨rfl,rfl⟩,st',fun b hb=>(hf b hb).1⟩⟩
    rw [Int.mul_one]
  done:=by
    intro X hP hw hK hc i pins s σ H E I hf st hg
    subst hP hw hK
    obtain ⟨f0,f1,f2,f3,f4,f5⟩:=hf it (by simp)
    exact wpAny_pyNext_range_end (I.ok.hd hc) st (by have:n≤i:=hg; omega) fun h' eb=>⟨rfl,I.turned (t':=s.toks) (fun b o hb e=>eb b o hb e) f0 f1 f3 f4 f5⟩
  self:=fun _ _ _ _ _ st h=>wpAny_pyIter_rangeiter st h
end L2
namespace L2
open PySem PySem.Spec PyProof.Rows
section
variable {X:Cx} {tg:Expr}
theorem ZpA {pins:List (Addr×Obj)} {σ:St} {H:Hp} {s:Shared} {R:It→Hp→Prop} {E:Value→Shared→Prop} {lo hi:Int} {t u v:Tok} {tk:Nat} (I:Inv X pins σ H s) (h1 : -(2 ^ 62)≤lo) (h2:lo<2 ^ 62) (h3 : -(2 ^ 62)≤hi) (h4:hi<2 ^ 62)
    (q:R (Itr lo (hi-lo).toNat) H):wpAny (model X.prog X.w) X.A (pyIter (.ref s.heap.objs.size)) (PIE X pins σ tg R) E { s with heap:=s.heap.push { cls:=.type "range",data:=.fields #[.int lo t,.int hi u,.int 1 v] },toks:=tk }:=by
  refine wpAny_pyIter_range (IsRange.new ..) (small_one h1 h2 h3 h4) ?_
  have I1:Inv X pins σ H { s with heap:=s.heap.push { cls:=.type "range",data:=.fields #[.int lo t,.int hi u,.int 1 v] },toks:=tk }:=I.kept fun b o e=>Heap.get?_push_of_some _ e
  refine ⟨(s.heap.push { cls:=.type "range",data:=.fields #[.int lo t,.int hi u,.int 1 v] }).objs.size,[(s.heap.push { cls:=.type "range",data:=.fields #[.int lo t,.int hi u,.int 1 v] }).objs.size],_,_,H,rfl,
    I1.kept (t':=tk) fun b o e=>Heap.get?_push_of_some _ e,ZlL _ lo (hi-lo).toNat,?_,fun b hb=>?_,q⟩
  · have e1:lo+((0:Nat):Int)*1=lo:=by simp
    have e2:(((hi-lo).toNat:Nat):Int)-((0:Nat):Int)=Builtin.Range.rangeSize lo hi 1:=by rw [rangeSize_one]; split<;>omega
    show IsRangeIter _ _ (lo+((0:Nat):Int)*1) ((((hi-lo).toNat:Nat):Int)-((0:Nat):Int)) 1
    rw [e1,e2]
    exact Heap.get?_push_size _ rfl
  · have e:b=(s.heap.push { cls:=.type "range",data:=.fields #[.int lo t,.int hi u,.int 1 v] }).objs.size:=by simpa using hb
    subst e
    exact I1.fpOk (Nat.le_refl _) (I1.hok.fresh (Nat.le_refl _))
def ZvS (ta:TA):TI:=fun σ H R=>ta σ H fun vs H1=>∃j:Int,vs=[.int j]∧-(2 ^ 62)≤j∧j<2 ^ 62∧R (Itr 0 j.toNat) H1
theorem Znr {a:Expr} {ta:TA} {p pos:Pos} (hg:Gl X "range") (hm:X.mg "range"=none) (ha:PA X [a] ta) (hs:starEach [a] X.env=[(false,eval a X.env)]:=by rfl):PI X tg (.Call (.Name "range" p) [a] [] pos) (ZvS ta):=by
  intro pins s σ H R I h
  refine Call_ (ZhJ I hg hm boot_range (PyProof.Rows.callWith_type1 (thn (ha pos pins s σ H _ I h) fun us s1 ⟨vs,H1,I1,r1,q1⟩=>?_) hs rfl))
  obtain ⟨j,e,q1,q2,q⟩:=q1
  subst e
  cases r1 with
  | cons r rr=>
    cases rr
    obtain ⟨t,rfl⟩:=r
    exact call_range_1 (ZpA I1 (by omega) (by omega) q1 q2 (by simpa using q))
def ZyZ (wi:TI) (g:TG) (tb:TS):TS:=fun D σ H=>wi σ H fun J H1=>∃W:Nat→Nat→St→Hp→Prop,(∃m,W 0 m σ H1)∧∀i m σ H,W i m σ H→
  (J.stop i H∧D.nx σ H)∨(J.go i H∧∃N:St→Hp→Prop,(∀σ' H',N σ' H'→∃m',m'<m∧W (i+1) m' σ' H')∧∀x H',J.yld i H x H'→g x σ H' fun σ2 H2=>tb { D with nx:=N,ct:=N,bk:=D.nx } σ2 H2)
def Zi9 (fp:List Addr) (h:Heap):List (Addr×Obj):=fp.filterMap fun b=>(h.get? b).map fun o=>(b,o)
theorem Zd1 {fp:List Addr} {h:Heap} {b:Addr} {o:Obj} (hb:b∈fp) (e:h.get? b=some o):(b,o)∈Zi9 fp h:=List.mem_filterMap.mpr ⟨b,hb,by rw [e]; rfl⟩
theorem Znv {fp:List Addr} {h:Heap} {p:Addr×Obj} (hp:p∈Zi9 fp h):p.1∈fp∧h.get? p.1=some p.2:=by
  obtain ⟨b,hb,e⟩:=List.mem_filterMap.mp hp
  cases q:h.get? b with
  | none=>rw [q] at e; cases e
  | some o=>
    rw [q] at e
    have e':(b,o)=p:=Option.some.inj e
    subst e'
    exact ⟨hb,q⟩
theorem Inv.pinned {pins:List (Addr×Obj)} {σ:St} {H:Hp} {s:Shared} {fp:List Addr} (I:Inv X pins σ H s) (hf:∀b∈fp,Zij X pins H b) (ho:∀b∈fp,∃o,s.heap.get? b=some o∧∀v,o.data≠.cell v):Inv X (pins++Zi9 fp s.heap) σ H s:=
  I.pins_of fun p hp=>(List.mem_append.mp hp).elim (fun z=>I.pin p (List.mem_append_right _ z)) fun z=>by
    obtain ⟨hb,e⟩:=Znv z
    obtain ⟨f0,f1,f2,_⟩:=hf p.1 hb
    obtain ⟨o,e',d⟩:=ho p.1 hb
    rw [e] at e'; cases e'
    exact ⟨e,f0,f1,f2,d⟩
theorem Inv.unpinned {pins pl:List (Addr×Obj)} {σ:St} {H:Hp} {s:Shared} (I:Inv X (pins++pl) σ H s):Inv X pins σ H s:=I.pins_of fun p hp=>I.pin p (List.mem_append_right _ (List.mem_append_left _ hp))
theorem ZpJ {iter:Expr} {body:List Stmt} {wi:TI} {g:TG} {tb:TS} {pos:Pos} (hp:PassesOwn (model X.prog X.w) X.A X.env X.xe) (hc:X.calm=true) (hi:PI X tg iter wi) (hg:PG X tg g) (hb:PSs X body tb)
    (hs:∀x,foldedSetIterable iter X.env x=pure x:=by intro _; rfl):PS X (.For tg iter body [] pos) (ZyZ wi g tb):=by
  intro pins s σ H D I h
  refine wpAny_For (thn (hi pins s σ H _ I h) fun v s1 h1=>thn h1 fun itv s2 h2=>?_) hs
  obtain ⟨it,fp,tn,J,H2,e,I2,T,st2,f2,W,⟨m0,w0⟩,turn⟩:=h2
  subst e
  have stat:∀{H':Hp},(∀b∈fp,H' b=none)→∀b∈fp,Zij X pins H' b:=fun hn b hb=>⟨hn b hb,(f2 b hb).2⟩
  refine codeAny_forLoop_any (fun n s'=>∃i σ' H',Inv X pins σ' H' s'∧tn i s'.heap∧(∀b∈fp,H' b=none)∧W i n σ' H') ?_ m0 ⟨0,σ,H2,I2,st2,fun b hb=>(f2 b hb).1,w0⟩
  rintro n s3 ⟨i,σ3,H3,I3,st3,fr3,w3⟩
  rcases turn i n σ3 H3 w3 with ⟨stop,qn⟩ | ⟨go,N,hN,step⟩
  · refine wpAny_passesOwn hp (thn (T.done X rfl rfl rfl hc i pins s3 σ3 H3 X.xe I3 (stat fr3) st3 stop) fun r s4 ⟨hr,I4⟩=>?_)
    subst hr
    exact wpAny_execs_nil ⟨σ3,H3,I4,qn⟩
  · refine wpAny_passesOwn hp (thn (T.item X rfl rfl rfl hc i pins s3 σ3 H3 X.xe I3 (stat fr3) st3 go) fun r s4 ⟨u,hr,h4⟩=>?_)
    subst hr
    refine wpAny_passesOwn hp (thn h4 fun _ s5 ⟨x,H5,I5,r5,y5,st5,fr5⟩=>?_)
    have I5':=I5.pinned (stat fr5) (T.obj _ _ st5)
    refine wpAny_passesOwn hp (thn (hg _ s5 σ3 H5 x u _ I5' r5 (step x H5 y5)) fun _ s6 ⟨σ6,H6,I6,q6⟩=>?_)
    refine wpAny_passesOwn hp (thn (hb _ s6 σ6 H6 _ I6 q6) fun f s7 q7=>?_)
    have again:∀{σ7:St} {H7:Hp},Inv X (pins++Zi9 fp s5.heap) σ7 H7 s7→N σ7 H7→∃m,m<n∧∃i σ' H',Inv X pins σ' H' s7∧tn i s7.heap∧(∀b∈fp,H' b=none)∧W i m σ' H':=fun {σ7 H7} I7 n7=>by
      obtain ⟨m',hm,w7⟩:=hN σ7 H7 n7
      refine ⟨m',hm,i+1,σ7,H7,I7.unpinned,T.keep _ _ _ st5 fun b hb o e=>(I7.pin (b,o) (List.mem_append_right _ (List.mem_append_right _ (Zd1 hb e)))).1,fun b hb=>?_,w7⟩
      obtain ⟨o,e,d⟩:=T.obj _ _ st5 b hb
      exact (I7.pin (b,o) (List.mem_append_right _ (List.mem_append_right _ (Zd1 hb e)))).2.1
    cases f with
    | next=>obtain ⟨σ7,H7,I7,n7⟩:=q7; exact again I7 n7
    | cont=>obtain ⟨σ7,H7,I7,n7⟩:=q7; exact again I7 n7
    | brk=>obtain ⟨σ7,H7,I7,q7⟩:=q7; exact ⟨σ7,H7,I7.unpinned,q7⟩
    | ret v=>obtain ⟨x7,σ7,H7,I7,r7,q7⟩:=q7; exact ⟨x7,σ7,H7,I7.unpinned,r7,q7⟩
end
end L2
namespace L2
open PySem PySem.Spec PyProof.Rows
abbrev R2:=V→V→Hp→VK→Prop
def OpR (X:Cx) (f:Value→Value→Sem Value) (r:R2):Prop:=
  ∀(pins:List (Addr×Obj)) (s:Shared) (σ:St) (H:Hp) (x y:V) (v u:Value) (Q:VK),Inv X pins σ H s→RelV x v→RelV y u→r x y H Q→
    wpAny (model X.prog X.w) X.A (f v u) (EP X pins σ Q) X.xe s
def CallR (X:Cx) (f:Value) (r:List V→Hp→VK→Prop):Prop:=
  ∀(pins:List (Addr×Obj)) (s:Shared) (σ:St) (H:Hp) (xs:List V) (us:List Value) (Q:VK),Inv X pins σ H s→Vals xs us→r xs H Q→
    wpAny (model X.prog X.w) X.A (call f us) (EP X pins σ Q) X.xe s
def ZzG (X:Cx) (r:V→Hp→(Bool→Hp→Prop)→Prop):Prop:=
  ∀(pins:List (Addr×Obj)) (s:Shared) (σ:St) (H:Hp) (x:V) (v:Value) (Q:Bool→Hp→Prop),Inv X pins σ H s→RelV x v→r x H Q→
    wpAny (model X.prog X.w) X.A (truthy v) (TP X pins σ Q) X.xe s
def tOp (r:R2) (ta tb:TE):TE:=fun σ H Q=>ta σ H fun x H1=>tb σ H1 fun y H2=>r x y H2 Q
def rI (C:Int→Int→Prop) (g:Int→Int→V):R2:=fun x y H Q=>∃i j,x=.int i∧y=.int j∧C i j∧Q (g i j) H
def rI0 (g:Int→Int→V):R2:=fun x y H Q=>∃i j,x=.int i∧y=.int j∧Q (g i j) H
section
variable {X:Cx} {a b c:Expr} {ta tb tc:TE} {pos:Pos}
theorem Zuj (ha:PE X a ta) (hb:PE X b tb) {pins:List (Addr×Obj)} {s:Shared} {σ:St} {H:Hp} {R:V→V→Hp→Prop} (I:Inv X pins σ H s)
    (h:ta σ H fun x H1=>tb σ H1 fun y H2=>R x y H2) {Q:Value→Shared→Prop} {f:Value→Value→Sem Value}
    (hf:∀v u s2 x y H2,Inv X pins σ H2 s2→RelV x v→RelV y u→R x y H2→wpAny (model X.prog X.w) X.A (f v u) Q X.xe s2) :
    wpAny (model X.prog X.w) X.A (eval a X.env) (fun v s₁=>wpAny (model X.prog X.w) X.A (eval b X.env) (fun u s₂=>wpAny (model X.prog X.w) X.A (f v u) Q X.xe s₂) X.xe s₁) X.xe s:=by
  refine thn (ha pins s σ H _ I h) fun v s1 ⟨x,H1,I1,r1,q1⟩=>?_
  refine thn (hb pins s1 σ H1 _ I1 q1) fun u s2 ⟨y,H2,I2,r2,q2⟩=>?_
  exact hf v u s2 x y H2 I2 r1 r2 q2
theorem Zvu {op:Operator} {r:R2} (ho:OpR X (binaryOp op) r) (ha:PE X a ta) (hb:PE X b tb):PE X (.BinOp a op b pos) (tOp r ta tb):=by
  intro pins s σ H Q I h
  exact wpAny_BinOp (Zuj ha hb I h fun v u s2 x y H2 I2 rx ry q=>ho pins s2 σ H2 x y v u Q I2 rx ry q)
theorem opI {f:Value→Value→Sem Value} {C:Int→Int→Prop} {g:Int→Int→Int}
    (rule:∀(i j:Int) (t u:Tok) (s:Shared) (Q:Value→Shared→Prop) (E:Value→Shared→Prop),C i j→Q (.int (g i j) s.toks) { s with toks:=s.toks+1 }→wpAny (model X.prog X.w) X.A (f (.int i t) (.int j u)) Q E s) :
    OpR X f (rI C fun i j=>.int (g i j)):=by
  intro pins s σ H x y v u Q I rx ry h
  obtain ⟨i,j,rfl,rfl,hc,q⟩:=h
  obtain ⟨t,rfl⟩:=rx
  obtain ⟨t',rfl⟩:=ry
  exact rule i j t t' s _ _ hc ⟨.int (g i j),H,I.tok _,⟨_,rfl⟩,q⟩
theorem Zt3 {f:Value→Value→Sem Value} {g:Int→Int→Int}
    (rule:∀(i j:Int) (t u:Tok) (s:Shared) (Q:Value→Shared→Prop) (E:Value→Shared→Prop),Q (.int (g i j) s.toks) { s with toks:=s.toks+1 }→wpAny (model X.prog X.w) X.A (f (.int i t) (.int j u)) Q E s) :
    OpR X f (rI0 fun i j=>.int (g i j)):=by
  intro pins s σ H x y v u Q I rx ry h
  obtain ⟨i,j,rfl,rfl,q⟩:=h
  obtain ⟨t,rfl⟩:=rx
  obtain ⟨t',rfl⟩:=ry
  exact rule i j t t' s _ _ ⟨.int (g i j),H,I.tok _,⟨_,rfl⟩,q⟩
theorem ZrO {f:Value→Value→Sem Value} {g:Int→Int→Bool}
    (rule:∀(i j:Int) (t u:Tok) (s:Shared) (Q:Value→Shared→Prop) (E:Value→Shared→Prop),Q (.bool (g i j)) s→wpAny (model X.prog X.w) X.A (f (.int i t) (.int j u)) Q E s) :
    OpR X f (rI0 fun i j=>.bl (g i j)):=by
  intro pins s σ H x y v u Q I rx ry h
  obtain ⟨i,j,rfl,rfl,q⟩:=h
  obtain ⟨t,rfl⟩:=rx
  obtain ⟨t',rfl⟩:=ry
  exact rule i j t t' s _ _ ⟨.bl (g i j),H,I,rfl,q⟩
def CMul (i j:Int):Prop:=(-(2 ^ 64)<i∧i<2 ^ 64)∨(-(2 ^ 64)<j∧j<2 ^ 64)
theorem CMul.ok {i j:Int} (h:CMul i j):IntMulOk i j:=by
  rcases h with ⟨h1,h2⟩ | ⟨h1,h2⟩
  · exact .of_left (intBits_le_64 h1 h2)
  · exact .of_right (intBits_le_64 h1 h2)
theorem op_add:OpR X (binaryOp .Add) (rI0 fun i j=>.int (i+j)):=Zt3 fun _ _ _ _ _ _ _ q=>add_int q
theorem ZtV:OpR X (binaryOp .Sub) (rI0 fun i j=>.int (i-j)):=Zt3 fun _ _ _ _ _ _ _ q=>sub_int q
theorem op_mul:OpR X (binaryOp .Mult) (rI CMul fun i j=>.int (i*j)):=opI fun _ _ _ _ _ _ _ hc q=>mul_int q hc.ok
theorem ZtY:OpR X (binaryOp .Mod) (rI (fun _ j=>0<j) fun i j=>.int (i % j)):=opI fun i j _ _ _ _ _ hc q=>by
  have h1:(0:Int)<j:=hc
  exact mod_int' (by omega) (by rw [Int.fmod_eq_emod_of_nonneg i (by omega)]; exact q)
theorem Zt2:OpR X (binaryOp .BitAnd) (rI0 fun i j=>.int (Builtin.bitAnd i j)):=Zt3 fun _ _ _ _ _ _ _ q=>and_int q
end
section
variable {X:Cx} {a b c:Expr} {ta tb tc:TE} {pos:Pos}
theorem Zqz {pins:List (Addr×Obj)} {σ:St} {H:Hp} {s:Shared} {Q:VK} {k k':Bool} (I:Inv X pins σ H s) (q:Q (.bl k) H) (e:k=k'):EP X pins σ Q (.bool k') s:=by
  subst e
  exact ⟨.bl k,H,I,rfl,q⟩
theorem ZvC:OpR X (compareOp .Lt) (rI0 fun i j=>.bl (decide (i<j))):=ZrO fun _ _ _ _ _ _ _ q=>lt_int q
theorem ZvD:OpR X (compareOp .LtE) (rI0 fun i j=>.bl (decide (i≤j))):=ZrO fun _ _ _ _ _ _ _ q=>le_int q
theorem ZvE:OpR X (compareOp .Gt) (rI0 fun i j=>.bl (decide (j<i))):=ZrO fun _ _ _ _ _ _ _ q=>gt_int q
theorem ZvF:OpR X (compareOp .GtE) (rI0 fun i j=>.bl (decide (j≤i))):=ZrO fun _ _ _ _ _ _ _ q=>ge_int q
theorem op_isN:OpR X (compareOp .Is) (fun x y H Q=>y=.non∧Q (.bl (decide (x=.non))) H):=by
  intro pins s σ H x y v u Q I rx ry h
  obtain ⟨rfl,q⟩:=h
  cases ry
  refine is_none_gen (Zqz I q ?_)
  cases x<;>first
    | (cases rx; rfl)
    | (obtain ⟨t,rfl⟩:=rx; rfl)
theorem op_notN:OpR X (compareOp .IsNot) (fun x y H Q=>y=.non∧Q (.bl (!decide (x=.non))) H):=by
  intro pins s σ H x y v u Q I rx ry h
  obtain ⟨rfl,q⟩:=h
  cases ry
  refine isnot_none_gen (Zqz I q ?_)
  cases x<;>first
    | (cases rx; rfl)
    | (obtain ⟨t,rfl⟩:=rx; rfl)
theorem OpR.or {f:Value→Value→Sem Value} {r r':R2} (h:OpR X f r) (h':OpR X f r'):OpR X f (fun x y H Q=>r x y H Q∨r' x y H Q):=by
  intro pins s σ H x y v u Q I rx ry q
  rcases q with q | q
  · exact h pins s σ H x y v u Q I rx ry q
  · exact h' pins s σ H x y v u Q I rx ry q
theorem Zp7 (b:Expr) {op:CmpOp} (h:op≠.In:=by decide) (h2:op≠.NotIn:=by decide):behindInMarks op b=false:=by
  have e1:(op == CmpOp.In)=false:=by cases op<;>first | rfl | exact absurd rfl h
  have e2:(op == CmpOp.NotIn)=false:=by cases op<;>first | rfl | exact absurd rfl h2
  cases b<;>simp [behindInMarks,e1,e2]
theorem ZrK {op:CmpOp} {r:R2} (ho:OpR X (compareOp op) r) (ha:PE X a ta) (hb:PE X b tb) (hm:behindInMarks op b=false):PE X (.Compare a [op] [b] pos) (tOp r ta tb):=by
  intro pins s σ H Q I h
  exact wpAny_Compare1 (Zuj ha hb I h fun v u s2 x y H2 I2 rx ry q=>ho pins s2 σ H2 x y v u Q I2 rx ry q) hm
def ZsD (t:TE):TT:=fun σ H Q=>t σ H fun x H'=>∃k,x=.bl k∧Q k H'
theorem Zry {op:CmpOp} {r:R2} (ho:OpR X (compareOp op) r) (ha:PE X a ta) (hb:PE X b tb) (hm:behindInMarks op b=false):PT X (.Compare a [op] [b] pos) (ZsD (tOp r ta tb)):=by
  intro pins s σ H Q I h
  refine wpAny_isTrue_Compare1 (thn (ha pins s σ H _ I h) fun v s1 ⟨x,H1,I1,r1,q1⟩=>thn (hb pins s1 σ H1 _ I1 q1) fun u s2 ⟨y,H2,I2,r2,q2⟩=>
    thn (ho pins s2 σ H2 x y v u _ I2 r1 r2 q2) fun c s3 ⟨z,H3,I3,r3,k,e,q3⟩=>?_) hm
  subst e
  cases r3
  exact wpAny_truthy_bool ⟨H3,I3,q3⟩
def ZlP (r r':R2) (ta tb tc:TE):TE:=fun σ H Q=>ta σ H fun x H1=>tb σ H1 fun y H2=>r x y H2 fun z H3=>∃k,z=.bl k∧
  (if k=true then tc σ H3 fun w' H4=>r' y w' H4 Q else Q (.bl false) H3)
theorem ZpV {op op':CmpOp} {r r':R2} (ho:OpR X (compareOp op) r) (ho':OpR X (compareOp op') r') (ha:PE X a ta) (hb:PE X b tb) (hc:PE X c tc)
    (hm:lastMarks [op,op'] [b,c]=false:=by with_unfolding_all rfl):PE X (.Compare a [op,op'] [b,c] pos) (ZlP r r' ta tb tc):=by
  intro pins s σ H Q I h
  refine Compare_chain (thn (ha pins s σ H _ I h) fun v s1 ⟨x,H1,I1,r1,q1⟩=>chain_link (thn (hb pins s1 σ H1 _ I1 q1) fun u s2 ⟨y,H2,I2,r2,q2⟩=>
    thn (ho pins s2 σ H2 x y v u _ I2 r1 r2 q2) fun d s3 ⟨z,H3,I3,r3,k,e,q3⟩=>?_)) hm
  subst e
  cases r3
  refine wpAny_truthy_bool ?_
  cases k with
  | false=>exact ite_ff ⟨.bl false,H3,I3,rfl,q3⟩
  | true=>exact ite_tt (chain_last (thn (hc pins s3 σ H3 _ I3 q3) fun w' s4 ⟨z',H4,I4,r4,q4⟩=>ho' pins s4 σ H4 y z' u w' Q I4 r2 r4 q4))
theorem ZpF {op op':CmpOp} {r r':R2} (ho:OpR X (compareOp op) r) (ho':OpR X (compareOp op') r') (ha:PE X a ta) (hb:PE X b tb) (hc:PE X c tc)
    (hm:lastMarks [op,op'] [b,c]=false:=by with_unfolding_all rfl):PT X (.Compare a [op,op'] [b,c] pos) (ZsD (ZlP r r' ta tb tc)):=by
  intro pins s σ H Q I h
  refine isTrue_chain (thn (ha pins s σ H _ I h) fun v s1 ⟨x,H1,I1,r1,q1⟩=>test_link (thn (hb pins s1 σ H1 _ I1 q1) fun u s2 ⟨y,H2,I2,r2,q2⟩=>
    thn (ho pins s2 σ H2 x y v u _ I2 r1 r2 q2) fun d s3 ⟨z,H3,I3,r3,k,e,q3⟩=>?_)) hm
  subst e
  cases r3
  refine wpAny_truthy_bool ?_
  cases k with
  | false=>
    obtain ⟨k',e',q'⟩:=q3
    cases e'
    exact ite_ff ⟨H3,I3,q'⟩
  | true=>
    refine ite_tt (test_last (thn (hc pins s3 σ H3 _ I3 q3) fun w' s4 ⟨z',H4,I4,r4,q4⟩=>thn (ho' pins s4 σ H4 y z' u w' _ I4 r2 r4 q4) fun d' s5 ⟨z2,H5,I5,r5,k2,e2,q5⟩=>?_))
    subst e2
    cases r5
    exact wpAny_truthy_bool ⟨H5,I5,q5⟩
def TruV (K:PySem.W.Frag) (x:V) (H:Hp) (k:Bool):Prop:=
  match x with
  | .non=>k=false
  | .bl b=>k=b
  | .int i=>k=(i != 0)
  | .str y=>y.length≤sizeLine∧k=((y.length:Int) != 0)
  | .byt y=>y.size≤sizeLine∧k=((y.size:Int) != 0)
  | .ref p=>(∃xs,SqL K H p xs∧k=!xs.isEmpty)∨(∃xs,SqT K H p xs∧k=!xs.isEmpty)∨∃kvs,H p=some (.dK kvs)∧k=!kvs.isEmpty
  | _=>False
theorem Zl7 {κ:Type} {kvs:List (κ×V)} {vs:List (κ×Value)} (r:KV kvs vs):(!vs.isEmpty)=!kvs.isEmpty:=by
  cases r<;>rfl
theorem ZhM {xs:List V} {its:List Value} (r:Vals xs its):(!its.toArray.isEmpty)=!xs.isEmpty:=by
  cases r<;>simp
theorem Zgm:(sizeLine:Nat)<2 ^ 63:=by rw [sizeLine_eq]; decide
theorem Zpl:ZzG X (fun x H Q=>∃k,TruV X.K x H k∧Q k H):=by
  intro pins s σ H x v Q I rx h
  obtain ⟨k,e,q⟩:=h
  have hl:=Zgm
  have hs:sizeLine=16777216:=sizeLine_eq
  cases x with
  | non=>
    cases rx
    have e':k=false:=e
    subst e'
    exact truthy_none ⟨H,I,q⟩
  | bl b=>
    cases rx
    have e':k=b:=e
    subst e'
    exact wpAny_truthy_bool ⟨H,I,q⟩
  | int i=>
    obtain ⟨t,rfl⟩:=rx
    have e':k=(i != 0):=e
    subst e'
    exact PySem.P.truthy_int ⟨H,I,q⟩
  | str y=>
    obtain ⟨t,rfl⟩:=rx
    obtain ⟨hy,e'⟩:y.length≤sizeLine∧k=((y.length:Int) != 0):=e
    subst e'
    exact PySem.P.truthy_str (by omega) ⟨H,I.tok _,q⟩
  | byt y=>
    obtain ⟨t,rfl⟩:=rx
    obtain ⟨hy,e'⟩:y.size≤sizeLine∧k=((y.size:Int) != 0):=e
    subst e'
    exact PySem.W.truthy_bytes (by omega) ⟨H,I.tok _,q⟩
  | ref p=>
    cases rx
    have e':(∃xs,SqL X.K H p xs∧k=!xs.isEmpty)∨(∃xs,SqT X.K H p xs∧k=!xs.isEmpty)∨∃kvs,H p=some (.dK kvs)∧k=!kvs.isEmpty:=e
    rcases e' with ⟨xs,hx,e'⟩ | ⟨xs,hx,e'⟩ | ⟨kvs,hx,e'⟩
    · subst e'
      obtain ⟨its,r,pl,hz⟩:=I.list hx
      have hlen:=r.length
      exact wpAny_truthy_list pl.isList (by simp only [List.size_toArray]; omega) ⟨H,I.tok _,by rw [ZhM r]; exact q⟩
    · subst e'
      obtain ⟨its,r,pl,hz⟩:=I.tuple hx
      have hlen:=r.length
      exact truthy_tuple pl (by simp only [List.size_toArray]; omega) ⟨H,I.tok _,by rw [ZhM r]; exact q⟩
    · subst e'
      obtain ⟨hz,hS,vs,r,m⟩:kvs.length≤sizeLine∧(p == sysModules)=false∧∃vs,KV kvs vs∧s.heap.DictOf (ZaF X.prog X.w) p vs:=I.hok p _ hx
      have hlen:kvs.length=vs.length:=Paired.length r
      exact wpAny_truthy_dict hS m (by omega) ⟨H,I.tok _,by rw [Zl7 r]; exact q⟩
  | _=>exact (show False from e).elim
theorem ZpE (ha:PE X a ta) (he:∀whole,isTrue a X.env whole=(do let v ←whole; standAt a.pos; holding [v] (truthy v))) :
    PT X a (fun σ H Q=>ta σ H fun x H'=>∃k,TruV X.K x H' k∧Q k H'):=by
  intro pins s σ H Q I h
  exact isTrue_plain (thn (ha pins s σ H _ I h) fun v s1 ⟨x,H1,I1,r1,q1⟩=>Zpl pins s1 σ H1 x v Q I1 r1 q1) (he _)
theorem op_add_str:OpR X (binaryOp .Add) (fun x y H Q=>∃i j,x=.str i∧y=.str j∧i.length+j.length≤sizeLine∧Q (.str (i++j)) H):=by
  intro pins s σ H x y v u Q I rx ry h
  obtain ⟨i,j,rfl,rfl,hz,q⟩:=h
  obtain ⟨t,rfl⟩:=rx
  obtain ⟨t',rfl⟩:=ry
  exact add_str (fun t' tk=>⟨.str (i++j),H,I.tok _,⟨_,rfl⟩,q⟩) hz
theorem Zfv {x:V} {us:List Value} (r:Vals [x] us):∃u,us=[u]∧RelV x u:=by
  cases r with
  | cons r1 r2=>cases r2; exact ⟨_,rfl,r1⟩
theorem Zpj {x y:V} {us:List Value} (r:Vals [x,y] us):∃u w',us=[u,w']∧RelV x u∧RelV y w':=by
  cases r with
  | cons r1 r2=>
    cases r2 with
    | cons r3 r4=>cases r4; exact ⟨_,_,rfl,r1,r3⟩
theorem ZnN (hc:X.calm=true):CallR X (.builtin "max") (fun xs H Q=>∃i j,xs=[.int i,.int j]∧Q (.int (if j > i then j else i)) H):=by
  intro pins s σ H xs us Q I r h
  obtain ⟨i,j,rfl,q⟩:=h
  obtain ⟨u,w',rfl,⟨t,rfl⟩,⟨t',rfl⟩⟩:=Zpj r
  refine max_two_ints (I.ok.hd hc) fun h' tk k=>⟨_,H,I.kept k,?_,q⟩
  by_cases hj:j > i
  · rw [if_pos hj,if_pos hj]; exact ⟨_,rfl⟩
  · rw [if_neg hj,if_neg hj]; exact ⟨_,rfl⟩
theorem ZnM (hc:X.calm=true):CallR X (.builtin "min") (fun xs H Q=>∃i j,xs=[.int i,.int j]∧Q (.int (if j<i then j else i)) H):=by
  intro pins s σ H xs us Q I r h
  obtain ⟨i,j,rfl,q⟩:=h
  obtain ⟨u,w',rfl,⟨t,rfl⟩,⟨t',rfl⟩⟩:=Zpj r
  refine min_two_ints (I.ok.hd hc) fun h' tk k=>⟨_,H,I.kept k,?_,q⟩
  by_cases hj:j<i
  · rw [if_pos hj,if_pos hj]; exact ⟨_,rfl⟩
  · rw [if_neg hj,if_neg hj]; exact ⟨_,rfl⟩
theorem ZnO:CallR X (.type "int") (fun xs H Q=>(∃i,xs=[.int i]∧Q (.int i) H)∨∃k,xs=[.bl k]∧Q (.int (if k then 1 else 0)) H):=by
  intro pins s σ H xs us Q I r h
  rcases h with ⟨i,rfl,q⟩ | ⟨k,rfl,q⟩
  · obtain ⟨u,rfl,t,rfl⟩:=Zfv r
    exact call_int_int ⟨.int i,H,I,⟨_,rfl⟩,q⟩
  · obtain ⟨u,rfl,r1⟩:=Zfv r
    cases r1
    exact call_int_bool ⟨.int (if k then 1 else 0),H,I.tok _,⟨_,rfl⟩,q⟩
end
end L2
namespace L2
open PySem PySem.Spec PyProof.Rows
structure ObjM (h:Heap) (x dx C:Addr) (mA:Str→Option Value):Prop where
  obj:h.get? x=some (PySem.W.instObj C dx)
  ns:h.Ns1 dx mA
  ne:dx≠x
theorem Znz {h:Heap} {dx:Addr} {mA:Str→Option Value} (n:h.Ns1 dx mA):∃od,h.get? dx=some od∧∀name,PySem.W.lookIn name od=some (mA name):=by
  obtain ⟨o,es,ep,ho,hd,hk,_,hm⟩:=n
  refine ⟨o,ho,fun name=>?_⟩
  have e:=hm name
  unfold nsFind findBy at e
  rw [←Array.find?_toList] at e
  unfold PySem.W.lookIn
  rw [hd]
  dsimp only
  split
  · rename_i y q
    rw [q] at e
    exact congrArg some e
  · rename_i q
    rw [q] at e
    have a:es.toList.any (·.refKey)=false:=by
      rw [List.any_eq_false]
      intro y hy
      obtain ⟨z,t,hkey⟩:=hk y (Array.mem_toList_iff.mp hy)
      simp [DictEntry.refKey,hkey]
    have a':¬es.toList.any (·.refKey)=true:=by rw [a]; exact Bool.false_ne_true
    rw [if_neg a']
    exact congrArg some e
theorem ObjM.look {h:Heap} {x dx C:Addr} {mA:Str→Option Value} (I:ObjM h x dx C mA):∃od,PySem.W.InstAt h x (PySem.W.instObj C dx) C (some od)∧∀name,PySem.W.lookIn name od=some (mA name):=
  let ⟨od,ho,hl⟩:=Znz I.ns
  ⟨od,⟨I.obj,rfl,rfl,ho⟩,hl⟩
section
variable {prog:Program} {w:World} {A:Around} {E:Value→Shared→Prop} {s:Shared} {K:PySem.W.Frag} {x dx C f:Addr} {mA:Str→Option Value} {name:Str} {v:Value}
theorem Zr7 {expr:Bool} {Q:Value→Shared→Prop} (X:K.In s.heap) (I:ObjM s.heap x dx C mA) (hg:PySem.W.plainGet K C name=true) (hh:PySem.W.hasDictIn K C=true)
    (ha:PySem.W.findIn K (.ref C) name=some none) (hv:mA name=some v) (hv':PySem.W.handedIn v=true) (h:Q v { s with toks:=s.toks+1 }) :
    wpAny (model prog w) A (getAttr (.ref x) name expr) Q E s:=by
  obtain ⟨od,J,hl⟩:=I.look
  exact PySem.W.get_value X J (PySem.W.plainGet_of hg).1 (PySem.W.findObj_own hh ha rfl (by rw [hl,hv])) hv' h
theorem Zrq {ns:List Str} {Q:Unit→Shared→Prop} (X:K.In s.heap) (I:ObjM s.heap x dx C mA)
    (hs:PySem.W.findIn K (.ref C) "__setattr__"=some (some (.builtin "object.__setattr__"))) (hp:PySem.W.plainOver K C=true) (ht:PySem.W.takerIn K C name=some none) (hh:PySem.W.hasDictIn K C=true)
    (hw:PySem.Within mA ns) (hsz:ns.length≤sizeLine)
    (h:∀h',ObjM h' x dx C (fun y=>if y=name then some v else mA y)→Heap.SameBut dx s.heap h'→Q () { s with heap:=h',toks:=s.toks+2 }) :
    wpAny (model prog w) A (setAttr (.ref x) name v) Q E s:=by
  obtain ⟨od,J,hl⟩:=I.look
  refine PySem.W.set_plain X J hs (PySem.W.osa_open (s:={ s with toks:=s.toks+1 }) (r:=none) X J hp ht fun b=>?_)
  obtain ⟨cd,hc,hd'⟩:=PySem.W.any_some hh
  have hx:s.heap.get? x=some ⟨.ref C,some dx,.plain,#[]⟩:=I.obj
  refine wpAny_bind (wpAny_pure (wpAny_bind (wpAny_bind (wpAny_loadPart hx (wpAny_bind (PySem.W.Looks.here (s:={ s with toks:=s.toks+1 }) (PySem.W.looks_clsIn X hc) ?_))))))
  rw [hd']
  refine wpAny_pure (a:=some dx) (wpAny_bind (wpAny_pure (wpAny_bind ?_)))
  refine wpAny_nsSet1 (s:={ s with toks:=s.toks+1 }) I.ns fun h' hn2 hs2=>?_
  obtain ⟨oD,esD,epD,hoD,hdD,hcD⟩:=hn2.count (PySem.Within.cons name v hw)
  refine wpAny_bind (wpAny_lookBehind hoD (by rw [hdD]; exact pastItsLine_dict (Nat.le_trans hcD (by rw [List.length_cons]; omega))) ?_)
  exact wpAny_pure (h _ ⟨(hs2.2 _ (Ne.symm I.ne)).trans I.obj,hn2,I.ne⟩ hs2)
theorem Zqj {R:Result→Shared→Prop} {vs:List Value} {kw:List (Str×Value)} (X:K.In s.heap) (hm:PySem.W.makesIn K C=true)
    (hi:PySem.W.findIn K (.ref C) "__init__"=some (some (.ref f))) (hf:PySem.W.typeIn K (.ref f)=some (.type "function"))
    (h:codeAny (model prog w) (A.under (.builtin "type.__call__" ⟨.ref C::vs,kw⟩)) (.call (.ref f) ⟨.ref (s.heap.objs.size+1)::vs,kw⟩) (PySem.W.InitBack (s.heap.objs.size+1) R)
      { s with heap:=(s.heap.push PySem.W.emptyDict).push (PySem.W.instObj C s.heap.objs.size) }) :
    codeAny (model prog w) A (.call (.ref C) ⟨vs,kw⟩) R s:=by
  obtain ⟨hh,g,d,t,os⟩:=s
  exact PySem.W.make_core (PySem.W.makes_of X hm) (PySem.W.looks_findIn X hi) (fun self=>PySem.W.bind_fn X self hf) (.inl rfl) h
end
def ZdB (f:Str) (v:V):List (Str×V)→List (Str×V)
  | []=>[(f,v)]
  | (g,x)::r=>if g=f then (g,v)::r else (g,x)::ZdB f v r
theorem ZgJ (f g:Str) (v:V):∀fs:List (Str×V),(ZdB f v fs).lookup g=if g=f then some v else fs.lookup g
  | []=>by
    show List.lookup g [(f,v)]=_
    by_cases h:g=f
    · have hb:(g == f)=true:=beq_iff_eq.mpr h
      simp only [List.lookup,hb,if_pos h]
    · have hb:(g == f)=false:=beq_eq_false_iff_ne.mpr h
      simp only [List.lookup,hb,if_neg h]
  | (k,x)::r=>by
    have ih:=ZgJ f g v r
    rw [show ZdB f v ((k,x)::r)=(if k=f then (k,v)::r else (k,x)::ZdB f v r) from rfl]
    by_cases hk:k=f
    · rw [if_pos hk]
      by_cases h:g=k
      · have hb:(g == k)=true:=beq_iff_eq.mpr h
        simp only [List.lookup,hb,if_pos (h.trans hk)]
      · have hb:(g == k)=false:=beq_eq_false_iff_ne.mpr h
        simp only [List.lookup,hb,if_neg (fun e:g=f=>h (e.trans hk.symm))]
    · rw [if_neg hk]
      by_cases h:g=k
      · have hb:(g == k)=true:=beq_iff_eq.mpr h
        simp only [List.lookup,hb,if_neg (fun e:g=f=>hk (h.symm.trans e))]
      · have hb:(g == k)=false:=beq_eq_false_iff_ne.mpr h
        simp only [List.lookup,hb]
        exact ih
theorem Zgq (f:Str) (v:V):∀fs:List (Str×V),f∈(ZdB f v fs).map (·.1)∧∀g,g∈fs.map (·.1)→g∈(ZdB f v fs).map (·.1)
  | []=>⟨by simp [ZdB],fun g h=>by simp at h⟩
  | (k,x)::r=>by
    obtain ⟨i1,i2⟩:=Zgq f v r
    rw [show ZdB f v ((k,x)::r)=(if k=f then (k,v)::r else (k,x)::ZdB f v r) from rfl]
    by_cases hk:k=f
    · rw [if_pos hk]
      subst hk
      exact ⟨by simp,fun g h=>by simpa using h⟩
    · rw [if_neg hk]
      refine ⟨?_,fun g h=>?_⟩
      · rw [List.map_cons]
        exact List.mem_cons_of_mem _ i1
      · rw [List.map_cons] at h ⊢
        rcases List.mem_cons.mp h with e | e
        · exact List.mem_cons.mpr (.inl e)
        · exact List.mem_cons_of_mem _ (i2 g e)
theorem ZgK (f:Str) (v:V):∀fs:List (Str×V),(ZdB f v fs).length≤fs.length+1
  | []=>by simp [ZdB]
  | (k,x)::r=>by
    have ih:=ZgK f v r
    rw [show ZdB f v ((k,x)::r)=(if k=f then (k,v)::r else (k,x)::ZdB f v r) from rfl]
    by_cases hk:k=f
    · rw [if_pos hk,List.length_cons,List.length_cons]; omega
    · rw [if_neg hk,List.length_cons,List.length_cons]; omega
theorem RelO.some_of {v:V} {o:Option Value} (r:RelO (some v) o):∃u,o=some u∧RelV v u:=by
  cases o with
  | none=>exact (show False from r).elim
  | some u=>exact ⟨u,rfl,r⟩
theorem RelO.none_of {o:Option Value} (r:RelO none o):o=none:=by
  cases o with
  | none=>rfl
  | some u=>exact (show False from r).elim
theorem ZnH {v:V} {u:Value} (r:RelV v u):PySem.W.handedIn u=true:=by
  cases v with
  | non=>cases (show u=Value.none from r); rfl
  | bl b=>cases (show u=Value.bool b from r); rfl
  | int i=>obtain ⟨t,e⟩:=(show ∃t,u=Value.int i t from r); cases e; rfl
  | str x=>obtain ⟨t,e⟩:=(show ∃t,u=Value.str x t from r); cases e; rfl
  | byt b=>obtain ⟨t,e⟩:=(show ∃t,u=Value.bytes b t from r); cases e; rfl
  | flt b=>obtain ⟨t,e⟩:=(show ∃t,u=Value.float b t from r); cases e; rfl
  | ref a=>cases (show u=Value.ref a from r); rfl
  | ty n=>cases (show u=Value.type n from r); rfl
section
variable {P:Program} {w:World} {H H':Hp} {h h':Heap} {a C dx:Addr} {fs fs':List (Str×V)}
theorem Zjh (hok:HOk P w H h) (e:H a=some (.ins C dx fs)):∃mA,ObjM h a dx C mA∧(∀f,RelO (fs.lookup f) (mA f))∧PySem.Within mA (fs.map (·.1))∧fs.length≤1000∧H dx=some (.own a):=by
  obtain ⟨d,z,ne,ob,mA,n,r,q⟩:=(show ObjOk P w H h a (.ins C dx fs) from hok a _ e)
  exact ⟨mA,⟨ob,n,ne⟩,r,q,z,d⟩
end
structure Cls (K:PySem.W.Frag) (C:Addr):Prop where
  pg:PySem.W.plainGet K C Str.empty=true
  hd:PySem.W.hasDictIn K C=true
  po:PySem.W.plainOver K C=true
  sa:PySem.W.findIn K (.ref C) "__setattr__"=some (some (.builtin "object.__setattr__"))
theorem Cls.get {K:PySem.W.Frag} {C:Addr} (c:Cls K C) (f:Str):PySem.W.plainGet K C f=true:=c.pg
def NoAttr (K:PySem.W.Frag) (C:Addr) (f:Str):Prop:=PySem.W.findIn K (.ref C) f=some none
theorem NoAttr.taker {K:PySem.W.Frag} {C:Addr} {f:Str} (n:NoAttr K C f):PySem.W.takerIn K C f=some none:=by
  unfold PySem.W.takerIn
  rw [show PySem.W.findIn K (.ref C) f=some none from n]
  rfl
structure Con (K:PySem.W.Frag) (C:Addr) (f:Str) (v:V) (u:Value):Prop where
  at_:PySem.W.findIn K (.ref C) f=some (some u)
  rel:RelV v u
  get:PySem.W.specialIn K u "__get__"=some none
  cp:PySem.W.copiedNames.contains f=false
structure ZzH (K:PySem.W.Frag) (C:Addr) (m:Str) (f:Addr):Prop where
  at_:PySem.W.findIn K (.ref C) m=some (some (.ref f))
  fn:PySem.W.isFn K (.ref f)=true
  kp:PySem.W.keepIn K (.ref f)=true
section
variable {X:Cx} {pins:List (Addr×Obj)} {σ:St} {H:Hp} {s:Shared} {a C dx:Addr} {fs:List (Str×V)} {f:Str} {v:V} {A:Around} {E:Value→Shared→Prop}
theorem Zl8 {b:Bool} {Q:Value→Shared→Prop} (I:Inv X pins σ H s) (e:H a=some (.ins C dx fs)) (c:Cls X.K C) (n:NoAttr X.K C f) (l:fs.lookup f=some v)
    (h:∀u s',Inv X pins σ H s'→RelV v u→Q u s'):wpAny (model X.prog X.w) A (getAttr (.ref a) f b) Q E s:=by
  obtain ⟨mA,O,r,_,_,_⟩:=Zjh I.hok e
  obtain ⟨u,hu,ru⟩:=RelO.some_of (v:=v) (o:=mA f) (by rw [←l]; exact r f)
  exact Zr7 I.kIn O (c.get f) c.hd n hu (ZnH ru) (h u _ (I.tok _) ru)
theorem ZlQ {y:V} {u:Value} {Q:Unit→Shared→Prop} (I:Inv X pins σ H s) (e:H a=some (.ins C dx fs)) (c:Cls X.K C) (n:NoAttr X.K C f) (hl:fs.length<1000) (ry:RelV y u)
    (h:∀s',Inv X pins σ (upd H a (.ins C dx (ZdB f y fs))) s'→Q () s'):wpAny (model X.prog X.w) A (setAttr (.ref a) f u) Q E s:=by
  obtain ⟨mA,O,r,wi,_,ho⟩:=Zjh I.hok e
  have hz:(fs.map (·.1)).length≤sizeLine:=by rw [List.length_map,sizeLine_eq]; omega
  refine Zrq I.kIn O c.sa c.po n.taker c.hd wi hz fun h' O' sb=>h _ ?_
  have hd:∃o,h'.get? dx=some o:=let ⟨o,_,_,e',_⟩:=O'.ns; ⟨o,e'⟩
  refine I.write (x:=a) (e:=dx) (by rw [e]; exact True.intro) (.inr ho) (fun b q hb z=>(sb.2 b hb).trans z) hd ?_
  refine ⟨by rw [ZP O.ne]; exact ho,?_,O.ne,O'.obj,_,O'.ns,fun g=>?_,fun g hg=>?_⟩
  · have:=ZgK f y fs; omega
  · show RelO ((ZdB f y fs).lookup g) (if g=f then some u else mA g)
    rw [ZgJ]
    by_cases q:g=f
    · rw [if_pos q,if_pos q]; exact ry
    · rw [if_neg q,if_neg q]; exact r g
  · by_cases q:g=f
    · rw [q]; exact (Zgq f y fs).1
    · refine (Zgq f y fs).2 g (wi g fun z=>hg ?_)
      show (if g=f then some u else mA g)=none
      rw [if_neg q]; exact z
theorem Inv.made (I:Inv X pins σ H s):Inv X pins σ (upd (upd H s.heap.objs.size (.own (s.heap.objs.size+1))) (s.heap.objs.size+1) (.ins C s.heap.objs.size []))
    { s with heap:=(s.heap.push PySem.W.emptyDict).push (PySem.W.instObj C s.heap.objs.size) }:=by
  have e1:(s.heap.push PySem.W.emptyDict).get? s.heap.objs.size=some PySem.W.emptyDict:=Heap.get?_push_size s.heap rfl
  have e2:((s.heap.push PySem.W.emptyDict).push (PySem.W.instObj C s.heap.objs.size)).get? (s.heap.objs.size+1)=some (PySem.W.instObj C s.heap.objs.size):=by
    have:=Heap.get?_push_size (s.heap.push PySem.W.emptyDict) (o:=PySem.W.instObj C s.heap.objs.size) rfl
    rwa [Heap.size_push] at this
  have e3:(s.heap.push PySem.W.emptyDict).Ns s.heap.objs.size (fun _=>none):=⟨PySem.W.emptyDict,#[],_,e1,rfl,(fun e he=>absurd he (by simp)),fun _=>rfl⟩
  have I1:=I.laid (a:=s.heap.objs.size) (o:=.own (s.heap.objs.size+1)) (h':=s.heap.push PySem.W.emptyDict) (t':=s.toks) (fun b u q=>Heap.get?_push_of_some _ q) (Nat.le_refl _) ⟨_,e1⟩
  refine I1.laid (a:=s.heap.objs.size+1) (o:=.ins C s.heap.objs.size []) (t':=s.toks) (fun b u q=>Heap.get?_push_of_some _ q) (Nat.le_of_eq (Heap.size_push _ _)) ?_
  have ne:s.heap.objs.size≠s.heap.objs.size+1:=Nat.ne_of_lt (Nat.lt_succ_self _)
  refine ⟨by rw [ZP ne,zE],Nat.zero_le _,ne,e2,fun _=>none,(Heap.Ns1.of_empty e3).at fun o q=>Heap.get?_push_of_some _ q,fun _=>True.intro,fun y hy=>absurd rfl hy⟩
theorem Zsl {prog:Program} {w:World} {env:Env} {e:Expr} {f:Str} {pos:Pos} {s:Shared} {Q:Value→Shared→Prop} (hb:attributeBase e f env (eval e env)=eval e env)
    (h:wpAny (model prog w) A (eval e env) (fun o s₁=>wpAny (model prog w) A (getAttr o f true) Q E s₁) E s):wpAny (model prog w) A (eval (.Attribute e f pos) env) Q E s:=
  Attribute_any_ h (by rw [arm_eval_Attribute,hb])
end
def Zy0 (K:PySem.W.Frag) (ta:TE) (f:Str):TE:=fun σ H Q=>ta σ H fun x H1=>∃a C dx fs v,x=.ref a∧H1 a=some (.ins C dx fs)∧Cls K C∧NoAttr K C f∧fs.lookup f=some v∧Q v H1
def Zy7 (K:PySem.W.Frag) (ta tv:TE) (f:Str):TS:=fun D σ H=>tv σ H fun y H1=>ta σ H1 fun x H2=>∃a C dx fs,x=.ref a∧H2 a=some (.ins C dx fs)∧Cls K C∧NoAttr K C f∧fs.length<1000∧
  D.nx σ (upd H2 a (.ins C dx (ZdB f y fs)))
section
variable {X:Cx} {o e value:Expr} {f:Str} {pos pos' tpos:Pos} {ta tv:TE}
theorem ZtS (he:PE X e ta) (hb:attributeBase e f X.env (eval e X.env)=eval e X.env):PE X (.Attribute e f pos) (Zy0 X.K ta f):=by
  intro pins s σ H Q I h
  refine Zsl hb (thn (he pins s σ H _ I h) fun u s1 ⟨x,H1,I1,rx,a,C,dx,fs,v,ex,ea,c,n,l,q⟩=>?_)
  subst ex
  obtain rfl:u=Value.ref a:=rx
  exact Zl8 I1 ea c n l fun u' s2 I2 ru=>⟨v,H1,I2,ru,q⟩
theorem ZtH (ha:PE X o ta) (hv:PE X value tv) (hs:swapsWith value (some (.Attribute o f pos')) pos.line X.env=pure false):PS X (.Assign [.Attribute o f pos'] value pos) (Zy7 X.K ta tv f):=by
  intro pins s σ H D I h
  refine plainObj_wpAny_Assign_Attribute (thn (hv pins s σ H _ I h) fun u s1 ⟨y,H1,I1,ry,q⟩=>thn (ha pins s1 σ H1 _ I1 q) fun ov s2 ⟨x,H2,I2,rx,a,C,dx,fs,ex,ea,c,n,l,q2⟩=>?_) hs
  subst ex
  obtain rfl:ov=Value.ref a:=rx
  exact ZlQ I2 ea c n l ry fun s3 I3=>⟨σ,_,I3,q2⟩
end
section
variable {X:Cx} {pins:List (Addr×Obj)} {σ:St} {H:Hp} {s:Shared} {A:Around} {E:Value→Shared→Prop} {Q:Value→Shared→Prop} {c:Value} {b:Bool}
inductive Zf7 (K:PySem.W.Frag) (H:Hp):V→Value→Prop where
  | non:Zf7 K H .non (.type "NoneType")
  | bl (x:Bool):Zf7 K H (.bl x) (.type "bool")
  | int (i:Int):Zf7 K H (.int i) (.type "int")
  | str (x:Str):Zf7 K H (.str x) (.type "str")
  | flt (x:UInt64):Zf7 K H (.flt x) (.type "float")
  | lst {a:Addr} {xs:List V} (e:H a=some (.lst xs)):Zf7 K H (.ref a) (.type "list")
  | frz {a:Addr} {o:Obj} {xs:List V} (e:H a=some (.frz o (.lst xs))):Zf7 K H (.ref a) (.type "list")
  | tup {a:Addr} {xs:List V} (e:H a=some (.tup xs)):Zf7 K H (.ref a) (.type "tuple")
  | dK {a:Addr} {kvs:List (Key×V)} (e:H a=some (.dK kvs)):Zf7 K H (.ref a) (.type "dict")
  | dT {a:Addr} {kvs:List (List Key×V)} (e:H a=some (.dT kvs)):Zf7 K H (.ref a) (.type "dict")
  | ins {a C dx:Addr} {fs:List (Str×V)} (e:H a=some (.ins C dx fs)) (cl:Cls K C) (ha:PySem.W.findIn K (.ref C) "__class__"=some (some (.builtin "object.__class__")))
      (hn:PySem.W.specialIn K (.builtin "object.__class__") "__get__"=some (some (.builtin "getset_descriptor.__get__"))) (htk:PySem.W.takesIn K (.builtin "object.__class__")=some true)
      (hm:PySem.W.mroIn K C (.type "object")=some true):Zf7 K H (.ref a) (.ref C)
theorem ZnD {x:V} {u t:Value} (I:Inv X pins σ H s) (rx:RelV x u) (ty:Zf7 X.K H x t) (e:PySem.W.kitOne X.K t c=some b) (h:∀tk,Q (.bool b) { s with toks:=tk }) :
    wpAny (model X.prog X.w) A (call (.builtin "isinstance") [u,c]) Q E s:=by
  cases ty with
  | non=>cases (show u=Value.none from rx); exact PySem.W.kia_one PySem.W.kitx_none I.kIn True.intro e (fun z=>nomatch z) h
  | bl y=>cases (show u=Value.bool y from rx); exact PySem.W.kia_one PySem.W.kitx_bool I.kIn True.intro e (fun z=>nomatch z) h
  | int i=>obtain ⟨t,q⟩:=(show ∃t,u=Value.int i t from rx); cases q; exact PySem.W.kia_one PySem.W.kitx_int I.kIn True.intro e (fun z=>nomatch z) h
  | str y=>obtain ⟨t,q⟩:=(show ∃t,u=Value.str y t from rx); cases q; exact PySem.W.kia_one PySem.W.kitx_str I.kIn True.intro e (fun z=>nomatch z) h
  | flt y=>obtain ⟨t,q⟩:=(show ∃t,u=Value.float y t from rx); cases q; exact PySem.W.kia_one PySem.W.kitx_float I.kIn True.intro e (fun z=>nomatch z) h
  | @lst a xs ea=>
    cases (show u=Value.ref a from rx)
    obtain ⟨_,_,n,_,h1⟩:=(show ObjOk X.prog X.w H s.heap a (.lst xs) from I.hok a _ ea)
    exact PySem.W.kia_one PySem.W.kitx_list I.kIn ⟨_,h1,rfl⟩ e (fun z=>nomatch z) h
  | @frz a ob xs ea=>
    cases (show u=Value.ref a from rx)
    obtain ⟨_,_,_,n,_,h1⟩:=(show ObjOk X.prog X.w H s.heap a (.frz ob (.lst xs)) from I.hok a _ ea)
    exact PySem.W.kia_one PySem.W.kitx_list I.kIn ⟨_,h1,rfl⟩ e (fun z=>nomatch z) h
  | @tup a xs ea=>
    cases (show u=Value.ref a from rx)
    obtain ⟨_,_,_,p⟩:=(show ObjOk X.prog X.w H s.heap a (.tup xs) from I.hok a _ ea)
    obtain ⟨o,h1,h2,_⟩:=p
    exact PySem.W.kia_one PySem.W.kitx_tuple I.kIn ⟨o,h1,h2⟩ e (fun z=>nomatch z) h
  | @dK a kvs ea=>
    cases (show u=Value.ref a from rx)
    obtain ⟨_,_,vs,_,p⟩:=(show ObjOk X.prog X.w H s.heap a (.dK kvs) from I.hok a _ ea)
    obtain ⟨o,es,ep,h1,h2,_⟩:=p
    exact PySem.W.kia_one PySem.W.kitx_dict I.kIn ⟨o,h1,h2.1⟩ e (fun z=>nomatch z) h
  | @dT a kvs ea=>
    cases (show u=Value.ref a from rx)
    obtain ⟨_,_,xs,_,o,es,ep,h1,h2,_⟩:=(show ObjOk X.prog X.w H s.heap a (.dT kvs) from I.hok a _ ea)
    exact PySem.W.kia_one PySem.W.kitx_dict I.kIn ⟨o,h1,h2.1⟩ e (fun z=>nomatch z) h
  | @ins a C dx fs ea cl ha hn htk hm=>
    cases (show u=Value.ref a from rx)
    obtain ⟨mA,O,_⟩:=Zjh I.hok ea
    obtain ⟨od,J,_⟩:=O.look
    exact PySem.W.kia_one (PySem.W.kitx_own (cl.get _) cl.hd ha hn htk hm) I.kIn J e (fun z=>nomatch z) h
end
end L2
namespace L2
open PySem PySem.Spec PyProof.Rows
structure Room (k:Nat) (A:Around):Prop where
  hd:A.handled=none
  dp:A.depth+3*k+5<recursionLimit
  un:A.units+16*k+200<cLine
theorem Room.mono {j k:Nat} {A:Around} (r:Room k A) (h:j≤k):Room j A:=⟨r.hd,by have:=r.dp; omega,by have:=r.un; omega⟩
theorem Room.deeper {k:Nat} {A:Around} (r:Room (k+1) A) (env:Env):Room k (A.deeper env):=
  ⟨r.hd,by have:=r.dp; show A.depth+1+3*k+5<_; omega,by have:=r.un; show A.units+3+16*k+200<_; omega⟩
theorem Room.in1 {k:Nat} {A:Around} (r:Room (k+1) A):Room k A.in1:=
  ⟨r.hd,by have:=r.dp; show A.depth+3*k+5<_; omega,by have:=r.un; show A.units+1+16*k+200<_; omega⟩
theorem Zl2 {A:Around} {C:Addr} {us:List Value} {kw:List (Str×Value)}:(A.under (.builtin "type.__call__" ⟨.ref C::us,kw⟩)).depth=A.depth+1:=by
  first | rfl | simp [Around.under,Code.weight,Code.isCreation,Code.isGuard,Code.isCaller,Code.frames,Code.isFrame,guardIds]
theorem Zl1 {A:Around} {C:Addr} {us:List Value} {kw:List (Str×Value)}:(A.under (.builtin "type.__call__" ⟨.ref C::us,kw⟩)).units=A.units+1:=by
  first | rfl | simp [Around.under,Code.cUnits,Code.frames,Code.isFrame]
theorem Room.make {k:Nat} {A:Around} (r:Room (k+1) A) (C:Addr) (us:List Value) (kw:List (Str×Value)):Room k (A.under (.builtin "type.__call__" ⟨.ref C::us,kw⟩)):=
  ⟨r.hd,by have:=r.dp; rw [Zl2]; omega,by have:=r.un; rw [Zl1]; omega⟩
theorem Room.depth {k:Nat} {A:Around} (r:Room k A):A.depth<recursionLimit:=by have:=r.dp; omega
theorem Room.units {k:Nat} {A:Around} (r:Room k A):A.units+64<cLine:=by have:=r.un; omega
def Ztq:TA:=fun _ H Q=>Q [] H
def ZsG (ta:TE) (tr:TA):TA:=fun σ H Q=>ta σ H fun x H1=>tr σ H1 fun xs H2=>Q (x::xs) H2
section
variable {X:Cx} {e:Expr} {es:List Expr} {te:TE} {t:TA} {pos:Pos}
theorem ZlV:PA X [] Ztq:=fun _ _ _ _ H Q I h=>Calls.spliced_nil ⟨[],H,I,.nil,h⟩
theorem Zja (ha:PE X e te) (hr:PA X es t) (hs:starEach (e::es) X.env=(false,eval e X.env)::starEach es X.env:=by rfl):PA X (e::es) (ZsG te t):=by
  intro pos pins s σ H Q I h
  rw [hs]
  show wpAny _ _ (spliced ((false,eval e X.env)::backTo pos (starEach es X.env))) _ _ s
  refine Calls.spliced_cons (thn (ha pins s σ H _ I h) fun u s1 ⟨x,H1,I1,r1,q1⟩=>?_)
  exact thn (hr pos pins s1 σ H1 _ I1 q1) fun us s2 ⟨xs,H2,I2,r2,q2⟩=>⟨x::xs,H2,I2,.cons r1 r2,q2⟩
def ZyR (t:TA):TE:=fun σ H Q=>t σ H fun xs H1=>xs.length≤sizeLine∧∀p,H1 p=none→Q (.ref p) (upd H1 p (.tup xs))
def ZyX (t:TA):TE:=fun σ H Q=>t σ H fun xs H1=>xs.length≤sizeLine∧∀p,H1 p=none→Q (.ref p) (upd H1 p (.lst xs))
theorem ZtN {x1} (h:PA X es t):PE X (.Tuple es x1 pos) (ZyR t):=by
  intro pins s σ H Q I hq
  refine wpAny_Tuple_spliced (thn (h pos pins s σ H _ I hq) fun us s1 ⟨xs,H1,I1,r,z,q⟩=>⟨by rw [←r.length]; exact z,?_⟩)
  have hf:H1 s1.heap.objs.size=none:=I1.hok.fresh (Nat.le_refl _)
  refine ⟨.ref s1.heap.objs.size,upd H1 s1.heap.objs.size (.tup xs),I1.laid (t':=s1.toks) (fun b u e=>Heap.get?_push_of_some _ e) (Nat.le_refl _) ?_,rfl,q _ hf⟩
  exact ⟨z,us,r,⟨_,Heap.get?_push_size _ rfl,rfl,_,rfl⟩⟩
theorem ZpQ (h:PA X es t):PE X (.List es pos) (ZyX t):=by
  intro pins s σ H Q I hq
  refine wpAny_List_spliced (thn (h pos pins s σ H _ I hq) fun us s1 ⟨xs,H1,I1,r,z,q⟩=>⟨by rw [←r.length]; exact z,?_⟩)
  have hf:H1 s1.heap.objs.size=none:=I1.hok.fresh (Nat.le_refl _)
  refine ⟨.ref s1.heap.objs.size,upd H1 s1.heap.objs.size (.lst xs),I1.laid (t':=s1.toks) (fun b u e=>Heap.get?_push_of_some _ e) (Nat.le_refl _) ?_,rfl,q _ hf⟩
  exact ⟨z,us,0,r,Heap.get?_push_size _ rfl⟩
end
abbrev Sp:=List V→Hp→VK→XK→Prop
abbrev CXT:=List Env→Hp→Shared→XK→Value→Shared→Prop
structure Env0 (P:Program) (w:World) (K:PySem.W.Frag) (mg:Str→Option Value) (base:Heap) (A:Around) (outer:List Env) (s:Shared) (H:Hp):Prop where
  frames:A.frames=some outer
  mod:Mod K mg base
  bs:∀b o,base.get? b=some o→s.heap.get? b=some o∧H b=none
  bsz:base.objs.size≤s.heap.objs.size
  funs:s.heap.FunFrames base outer
  frf:∀b∈frs outer,H b=none
  hok:HOk P w H s.heap
  bare:AllBare s.gens
def CE (outer:List Env) (P:Program) (w:World) (H:Hp) (s:Shared) (Q:VK) (u:Value) (s':Shared):Prop:=
  ∃v H',s'.os=s.os∧AllBare s'.gens∧Un (frs outer) [] H H' s.heap s'.heap∧HOk P w H' s'.heap∧RelV v u∧Q v H'
def CR (CX:CXT) (outer:List Env) (P:Program) (w:World) (H:Hp) (s:Shared) (Q:VK) (E:XK) (r:Result) (s':Shared):Prop:=
  match r with
  | .ok (.ret u)=>CE outer P w H s Q u s'
  | .ok _=>False
  | .error e=>CX outer H s E e s'
structure FnOk (P:Program) (w:World) (K:PySem.W.Frag) (mg:Str→Option Value) (base:Heap) (CX:CXT) (k:Nat) (f:Addr) (fd:FuncData) (ps:List Str) (sp:Sp):Prop where
  len:∀vs H Q E,sp vs H Q E→vs.length=ps.length
  run:∀(A:Around) (outer:List Env) (s:Shared) (H:Hp) (args:Args) (us:List Value) (vs:List V) (Q:VK) (E:XK),Room k A→Env0 P w K mg base A outer s H→BindsTo s fd args (ps.zip us)→Vals vs us→sp vs H Q E→
    codeAny (model P w) A (.call (.ref f) args) (CR CX outer P w H s Q E) s
theorem FnOk.mono {P:Program} {w:World} {K:PySem.W.Frag} {mg:Str→Option Value} {base:Heap} {CX:CXT} {j k:Nat} {f:Addr} {fd:FuncData} {ps:List Str} {sp:Sp} (F:FnOk P w K mg base CX j f fd ps sp) (h:j≤k) :
    FnOk P w K mg base CX k f fd ps sp:=⟨F.len,fun A outer s H args us vs Q E hr=>F.run A outer s H args us vs Q E (hr.mono h)⟩
theorem FnOk.imp {P:Program} {w:World} {K:PySem.W.Frag} {mg:Str→Option Value} {base:Heap} {CX:CXT} {k:Nat} {f:Addr} {fd:FuncData} {ps:List Str} {sp sp':Sp} (F:FnOk P w K mg base CX k f fd ps sp)
    (h:∀vs H Q E,sp' vs H Q E→sp vs H Q E):FnOk P w K mg base CX k f fd ps sp':=
  ⟨fun vs H Q E q=>F.len vs H Q E (h _ _ _ _ q),fun A outer s H args us vs Q E hr he hb hv hs=>F.run A outer s H args us vs Q E hr he hb hv (h _ _ _ _ hs)⟩
theorem Env0.make {P:Program} {w:World} {K:PySem.W.Frag} {mg:Str→Option Value} {base:Heap} {A:Around} {outer:List Env} {s:Shared} {H:Hp} (e:Env0 P w K mg base A outer s H) (C:Addr) (us:List Value) (kw:List (Str×Value)) :
    Env0 P w K mg base (A.under (.builtin "type.__call__" ⟨.ref C::us,kw⟩)) outer s H:=⟨by first | exact e.frames | (simpa [Around.under,Code.envs,Code.isFrame,pushEnvs] using e.frames),e.mod,e.bs,e.bsz,e.funs,e.frf,e.hok,e.bare⟩
theorem Env0.in1 {P:Program} {w:World} {K:PySem.W.Frag} {mg:Str→Option Value} {base:Heap} {A:Around} {outer:List Env} {s:Shared} {H:Hp} (e:Env0 P w K mg base A outer s H) :
    Env0 P w K mg base A.in1 outer s H:=⟨e.frames,e.mod,e.bs,e.bsz,e.funs,e.frf,e.hok,e.bare⟩
section
variable {X:Cx} {pins:List (Addr×Obj)} {σ:St} {H:Hp} {s s':Shared}
theorem Inv.env0 (I:Inv X pins σ H s):Env0 X.prog X.w X.K X.mg X.base X.A X.stack s H:=
  ⟨I.ok.frames,I.ok.mod,I.bs,Nat.le_trans I.ok.bsz I.sz,I.stack,I.stkFree,I.hok,I.bare⟩
theorem Inv.after {Q:VK} {u:Value} (I:Inv X pins σ H s) (h:CE X.stack X.prog X.w H s Q u s'):EP X pins σ Q u s':=by
  obtain ⟨v,H',os,bare,un,hok,r,q⟩:=h
  obtain ⟨hh,g,d,t,os'⟩:=s'
  obtain rfl:os'=s.os:=os
  exact ⟨v,H',I.call (h':=hh) (g':=g) (d':=d) (t':=t) (ch:=[]) un hok bare (fun b z=>absurd z (by simp)),r,q⟩
end
def ZsH (sp:Sp) (dvs:List V) (E:XK) (t:TA):TE:=fun σ H Q=>t σ H fun vs H1=>sp (vs++dvs) H1 Q E
def ZsE (C:Addr) (sp:Sp) (dvs:List V) (E:XK) (t:TA):TE:=fun σ H Q=>t σ H fun vs H1=>∀x dx,H1 x=none→H1 dx=none→dx≠x→
  sp (.ref x::(vs++dvs)) (upd (upd H1 dx (.own x)) x (.ins C dx [])) (fun v H2=>v=.non∧Q (.ref x) H2) E
def Binds (K:PySem.W.Frag) (fd:FuncData) (ps:List Str) (ds:List Value):Prop:=
  ∀(s:Shared) (us:List Value),K.In s.heap→(us++ds).length=ps.length→BindsTo s fd ⟨us,[]⟩ (ps.zip (us++ds))
theorem Binds.all {K:PySem.W.Frag} {fd:FuncData} {ps:List Str} (h:∀us:List Value,us.length=ps.length→bindArgs fd ⟨us,[]⟩=pure (ps.zip us)):Binds K fd ps []:=fun s us _ hl=>by
  rw [List.append_nil] at hl ⊢
  exact .of_eq (h us hl)
def ZgE (CX:CXT) (X:Cx) (E:XK):Prop:=∀(pins:List (Addr×Obj)) (σ:St) (H:Hp) (s:Shared) (e:Value) (s':Shared),Inv X pins σ H s→CX X.stack H s E e s'→X.xe e s'
section
variable {X:Cx} {CX:CXT} {k:Nat} {f C:Addr} {fd:FuncData} {ps:List Str} {sp:Sp} {dvs:List V} {ds:List Value} {E:XK} {x m:Str} {p pos apos:Pos} {e o:Expr} {es:List Expr} {ta:TE} {t:TA}
theorem Zty {pins:List (Addr×Obj)} {σ:St} {H:Hp} {s:Shared} {Q:VK} {us:List Value} {vs:List V} (F:FnOk X.prog X.w X.K X.mg X.base CX k f fd ps sp) (hr:Room k X.A) (hb:Binds X.K fd ps ds) (hd:Vals dvs ds) (hx:ZgE CX X E)
    (I:Inv X pins σ H s) (r:Vals vs us) (h:sp (vs++dvs) H Q E):wpAny (model X.prog X.w) X.A (call (.ref f) us) (EP X pins σ Q) X.xe s:=by
  have r2:Vals (vs++dvs) (us++ds):=r.append hd
  have hl:(us++ds).length=ps.length:=by rw [←r2.length]; exact F.len _ _ _ _ h
  refine wpAny_call (codeAny_mono (F.run X.A X.stack s H ⟨us,[]⟩ (us++ds) (vs++dvs) Q E hr I.env0 (hb s us I.kIn hl) r2 h) fun r s' hq=>?_)
  cases r with
  | error e=>exact hx pins σ H s e s' I hq
  | ok fl=>
    cases fl with
    | ret u=>exact I.after hq
    | next=>exact False.elim hq
    | brk=>exact False.elim hq
    | cont=>exact False.elim hq
theorem ZrL (F:FnOk X.prog X.w X.K X.mg X.base CX k f fd ps sp) (hr:Room k X.A) (hg:Gl X x) (hm:X.mg x=some (.ref f)) (hk:PySem.W.keepIn X.K (.ref f)=true) (hb:Binds X.K fd ps ds) (hd:Vals dvs ds) (hx:ZgE CX X E)
    (ha:PA X (e::es) t) (hdb:(x == ("__debug__":Str))=false:=by decide) (he:starEach (e::es) X.env=(false,eval e X.env)::starEach es X.env:=by rfl) (hpl:(backTo pos (starEach es X.env)).any (·.1)=false:=by rfl) :
    PE X (.Call (.Name x p) (e::es) [] pos) (ZsH sp dvs E t):=by
  intro pins s σ H Q I h
  refine wpAny_Call_Name_kw (Zhg I hg hm ?_ hdb)
  refine PySem.W.callWith_K (h₀:=X.base) I.ok.mod.kin hk (thn (ha pos pins s σ H _ I h) fun us s1 ⟨vs,H1,I1,r,q⟩=>⟨I1.kIn,?_⟩) he hpl
  exact Zty F hr hb hd hx I1 r q
structure Mk (K:PySem.W.Frag) (C f:Addr):Prop where
  makes:PySem.W.makesIn K C=true
  init:PySem.W.findIn K (.ref C) "__init__"=some (some (.ref f))
  fn:PySem.W.isFn K (.ref f)=true
  kp:PySem.W.keepIn K (.ref C)=true
theorem Zk2 {pins:List (Addr×Obj)} {σ:St} {H:Hp} {s:Shared} {Q:VK} {us:List Value} {vs:List V} (M:Mk X.K C f) (F:FnOk X.prog X.w X.K X.mg X.base CX k f fd ps sp) (hr:Room (k+1) X.A) (hb:Binds X.K fd ps ds) (hd:Vals dvs ds)
    (hx:ZgE CX X E) (I:Inv X pins σ H s) (r:Vals vs us)
    (h:∀x dx,H x=none→H dx=none→dx≠x→sp (.ref x::(vs++dvs)) (upd (upd H dx (.own x)) x (.ins C dx [])) (fun v H2=>v=.non∧Q (.ref x) H2) E) :
    wpAny (model X.prog X.w) X.A (call (.ref C) us) (EP X pins σ Q) X.xe s:=by
  have hq:=h (s.heap.objs.size+1) s.heap.objs.size (I.hok.fresh (Nat.le_succ _)) (I.hok.fresh (Nat.le_refl _)) (Nat.ne_of_lt (Nat.lt_succ_self _))
  have I2:=Inv.made (C:=C) I
  have r2:Vals (V.ref (s.heap.objs.size+1)::(vs++dvs)) (Value.ref (s.heap.objs.size+1)::(us++ds)):=.cons rfl (r.append hd)
  have hl:(Value.ref (s.heap.objs.size+1)::us++ds).length=ps.length:=by
    have e:=r2.length
    rw [F.len _ _ _ _ hq] at e
    exact e.symm
  refine wpAny_call (Zqj (f:=f) I.kIn M.makes M.init (beq_iff_eq.mp M.fn) (codeAny_mono (F.run _ X.stack _ _ ⟨Value.ref (s.heap.objs.size+1)::us,[]⟩ (Value.ref (s.heap.objs.size+1)::(us++ds)) _ _ E (hr.make C us [])
    (I2.env0.make C us []) (hb _ (Value.ref (s.heap.objs.size+1)::us) I2.kIn hl) r2 hq) fun r s' hq'=>?_))
  cases r with
  | error e=>exact hx pins σ _ _ e s' I2 hq'
  | ok fl=>
    cases fl with
    | ret u=>
      obtain ⟨v,H',I3,rv,ev,q3⟩:=I2.after hq'
      subst ev
      exact ⟨rv,⟨V.ref (s.heap.objs.size+1),H',I3,rfl,q3⟩⟩
    | next=>exact False.elim hq'
    | brk=>exact False.elim hq'
    | cont=>exact False.elim hq'
theorem ZrI (M:Mk X.K C f) (F:FnOk X.prog X.w X.K X.mg X.base CX k f fd ps sp) (hr:Room (k+1) X.A) (hg:Gl X x) (hm:X.mg x=some (.ref C)) (hb:Binds X.K fd ps ds) (hd:Vals dvs ds) (hx:ZgE CX X E)
    (ha:PA X (e::es) t) (hdb:(x == ("__debug__":Str))=false:=by decide) (he:starEach (e::es) X.env=(false,eval e X.env)::starEach es X.env:=by rfl) (hpl:(backTo pos (starEach es X.env)).any (·.1)=false:=by rfl) :
    PE X (.Call (.Name x p) (e::es) [] pos) (ZsE C sp dvs E t):=by
  intro pins s σ H Q I h
  refine wpAny_Call_Name_kw (Zhg I hg hm ?_ hdb)
  refine PySem.W.callWith_K (h₀:=X.base) I.ok.mod.kin M.kp (thn (ha pos pins s σ H _ I h) fun us s1 ⟨vs,H1,I1,r,q⟩=>⟨I1.kIn,?_⟩) he hpl
  exact Zk2 M F hr hb hd hx I1 r q
theorem ZpP (M:Mk X.K C f) (F:FnOk X.prog X.w X.K X.mg X.base CX k f fd ps sp) (hr:Room (k+1) X.A) (hg:Gl X x) (hm:X.mg x=some (.ref C)) (hb:Binds X.K fd ps ds) (hd:Vals dvs ds) (hx:ZgE CX X E)
    (hdb:(x == ("__debug__":Str))=false:=by decide):PE X (.Call (.Name x p) [] [] pos) (ZsE C sp dvs E Ztq):=by
  intro pins s σ H Q I h
  refine wpAny_Call_Name_kw (Zhg I hg hm ?_ hdb)
  exact PySem.W.callWith_K0 I.kIn M.kp (Zk2 (us:=[]) M F hr hb hd hx I .nil h)
end
section
variable {X:Cx} {CX:CXT} {k:Nat} {f C:Addr} {fd:FuncData} {ps ks:List Str} {sp:Sp} {E:XK} {x m:Str} {p pos apos kpos:Pos} {e o:Expr} {es:List Expr} {kws:List Keyword} {te ta:TE} {t tk:TA} {nm:Option Str}
structure ZzJ (K:PySem.W.Frag) (fd:FuncData) (ps ks:List Str) (g:List Value→List Value→List Value) (gV:List V→List V→List V):Prop where
  to:∀(s:Shared) (us ws:List Value),K.In s.heap→(g us ws).length=ps.length→BindsTo s fd ⟨us,ks.zip ws⟩ (ps.zip (g us ws))
  rel:∀{vs:List V} {us:List Value} {zs:List V} {ws:List Value},Vals vs us→Vals zs ws→Vals (gV vs zs) (g us ws)
variable {g:List Value→List Value→List Value} {gV:List V→List V→List V}
end
structure Zo (N P:List Str) (sc:Scope):Prop where
  kind:sc.kind=.function
  co:sc.isCoroutine=false
  gen:sc.isGenerator=false
  nd:N.Nodup
  pre:N.take P.length=P
  par:∀x∈P,sc.names.lookup x=some .local∨sc.names.lookup x=some .cell
  nofree:∀y∈sc.names,y.2≠.free
theorem ZiQ {kindOf:Str→Option NameKind} {x:Str}:∀{binds:List (Str×Value)} {m:Str→Option Value},(∀v,(x,v)∉binds)→bindL kindOf binds m x=m x
  | [],_,_=>rfl
  | (n,v)::r,m,h=>by
    unfold bindL
    rw [ZiQ fun w hw=>h w (List.mem_cons_of_mem _ hw)]
    split
    · have:x≠n:=by rintro rfl; exact h v List.mem_cons_self
      simp [this]
    · rfl
theorem ZiS {kindOf:Str→Option NameKind} {x:Str}:∀{binds:List (Str×Value)} {m:Str→Option Value},(∀v,(x,v)∉binds)→bindC kindOf binds m x=m x
  | [],_,_=>rfl
  | (n,v)::r,m,h=>by
    unfold bindC
    rw [ZiS fun w hw=>h w (List.mem_cons_of_mem _ hw)]
    split
    · rfl
    · have:x≠n:=by rintro rfl; exact h v List.mem_cons_self
      simp [this]
theorem ZiR {kindOf:Str→Option NameKind} {x:Str} {v:Value}:∀{P:List Str} {vs:List Value} {i:Nat} {m:Str→Option Value},P.Nodup→P[i]?=some x→vs[i]?=some v→kindOf x=some .local→
    bindL kindOf (P.zip vs) m x=some v
  | [],_,_,_,_,h,_,_=>by simp at h
  | _::_,[],_,_,_,_,h,_=>by simp at h
  | p::P,w::vs,0,m,nd,h1,h2,hk=>by
    simp at h1 h2; subst h1; subst h2
    show bindL kindOf ((p,w)::P.zip vs) m p=_
    unfold bindL
    rw [ZiQ fun v hv=>(List.nodup_cons.mp nd).1 (List.of_mem_zip hv).1,if_pos hk]
    simp
  | p::P,w::vs,i+1,m,nd,h1,h2,hk=>by
    show bindL kindOf ((p,w)::P.zip vs) m x=_
    unfold bindL
    exact ZiR (i:=i) (List.nodup_cons.mp nd).2 (by simpa using h1) (by simpa using h2) hk
theorem ZiT {kindOf:Str→Option NameKind} {x:Str} {v:Value}:∀{P:List Str} {vs:List Value} {i:Nat} {m:Str→Option Value},P.Nodup→P[i]?=some x→vs[i]?=some v→kindOf x≠some .local→
    bindC kindOf (P.zip vs) m x=some v
  | [],_,_,_,_,h,_,_=>by simp at h
  | _::_,[],_,_,_,_,h,_=>by simp at h
  | p::P,w::vs,0,m,nd,h1,h2,hk=>by
    simp at h1 h2; subst h1; subst h2
    show bindC kindOf ((p,w)::P.zip vs) m p=_
    unfold bindC
    rw [ZiS fun v hv=>(List.nodup_cons.mp nd).1 (List.of_mem_zip hv).1,if_neg hk]
    simp
  | p::P,w::vs,i+1,m,nd,h1,h2,hk=>by
    show bindC kindOf ((p,w)::P.zip vs) m x=_
    unfold bindC
    exact ZiT (i:=i) (List.nodup_cons.mp nd).2 (by simpa using h1) (by simpa using h2) hk
def Zdz (N:List Str) (vs:List V):St:=vs.map some++List.replicate (N.length-vs.length) none
def Zhc (CX:CXT) (P:Program) (w:World) (K:PySem.W.Frag) (mg:Str→Option Value) (base:Heap) (N:List Str) (qual:Str) (scope:Scope) (f:Addr) (cd:Value) (A:Around) (outer:List Env) (s:Shared) (H:Hp) (E:XK):Cx where
  prog:=P
  w:=w
  K:=K
  mg:=mg
  base:=base
  A:=A.deeper (envOfC qual scope s.heap.objs.size f cd)
  N:=N
  s₀:=s
  H₀:=H
  env:=envOfC qual scope s.heap.objs.size f cd
  outer:=outer
  stack:=envOfC qual scope s.heap.objs.size f cd::outer
  ex:=[]
  calm:=true
  fn:=fun _=>true
  pn:=[]
  xe:=fun e s'=>wpAny (model P w) (A.deeper (envOfC qual scope s.heap.objs.size f cd)) (leaving (envOfC qual scope s.heap.objs.size f cd) e) (fun _ s''=>CX outer H s E e s'') (fun e' s''=>CX outer H s E e' s'') s'
theorem ZlB {sc:Scope} {n:Nat} {x:Str} (h:sc.names.lookup x=some .cell):∃c,(cellsFrom n sc.names []).lookup x=some c:=by
  have q:=PySem.W.cellsFrom_some sc.names n [] (.inl h)
  exact Option.isSome_iff_exists.mp q
theorem ZnE {CX:CXT} {P:Program} {w:World} {K:PySem.W.Frag} {mg:Str→Option Value} {base:Heap} {N ps:List Str} {qual:Str} {scope:Scope} {f:Addr} {cd:Value} {A:Around} {outer:List Env} {s s1:Shared} {H:Hp} {E:XK} {us:List Value} {vs:List V}
    (S:Zo N ps scope) (hd:A.handled=none) (e0:Env0 P w K mg base A outer s H) (hl:vs.length=ps.length) (r:Vals vs us)
    (x:InCallC s s.heap.objs.size (bindL (envOfC qual scope s.heap.objs.size f cd).kindOf (ps.zip us) fun _=>none) (cellsFrom (s.heap.objs.size+1) scope.names []) (bindC (envOfC qual scope s.heap.objs.size f cd).kindOf (ps.zip us) fun _=>none) s1) :
    Inv (Zhc CX P w K mg base N qual scope f cd A outer s H E) [] (Zdz N vs) H s1:=by
  have hpl:ps.length≤N.length:=by have:=congrArg List.length S.pre; rw [List.length_take] at this; omega
  obtain ⟨h1,tk,rfl,hk⟩:=x.done
  have noA:∀b:Addr,b∉(Zhc CX P w K mg base N qual scope f cd A outer s H E).ex:=fun b z=>absurd (show b∈([]:List Addr) from z) (by simp)
  refine ⟨⟨e0.mod,S.kind,rfl,rfl,Nat.le_refl _,fun y z c h1 h2=>?_,fun y hy=>?_,fun y c _ h=>?_,fun _=>hd,Around.frames_deeper e0.frames,.inr ⟨rfl,rfl⟩,fun b z=>absurd z (noA b),e0.bs,e0.bsz,fun b _ _=>noA b,fun b z=>absurd z (noA b),e0.funs,e0.frf⟩,
    rfl,e0.bare,Un.kept hk,⟨_,x.toInCall.ns,fun i y v h1 h2 h3=>?_⟩,fun y c h=>⟨_,x.cell y c h⟩,e0.hok.fresh (Nat.le_refl _),fun y c h=>?_,fun p hp=>absurd (show p∈([]:List (Addr×Obj)) from hp) (by simp),e0.hok.kept hk,?_⟩
  · exact name_of_addr x.apart (PySem.mem_of_lookup h1) (PySem.mem_of_lookup h2)
  · have hy:scope.names.lookup y=some .cell∨scope.names.lookup y=some .free:=hy
    rcases hy with hy | hy
    · exact ZlB hy
    · exact absurd rfl (S.nofree _ (PySem.mem_of_lookup hy))
  · exact Nat.le_of_lt (x.above y c (PySem.mem_of_lookup h))
  · have hi:i<vs.length:=by
      unfold Zdz at h2
      by_cases hi:i<vs.length
      · exact hi
      · rw [List.getElem?_append_right (by simpa using hi)] at h2
        rw [List.getElem?_replicate] at h2
        split at h2<;>cases h2
    have ha:vs[i]?=some v:=by
      unfold Zdz at h2
      rw [List.getElem?_append_left (by simpa using hi),List.getElem?_map] at h2
      cases e:vs[i]? with
      | none=>rw [e] at h2; cases h2
      | some a=>rw [e] at h2; cases h2; rfl
    obtain ⟨u,hu,rv⟩:=r.get ha
    have hp:ps[i]?=some y:=by
      rw [←S.pre,List.getElem?_take_of_lt (by omega)]; exact h1
    have ndP:ps.Nodup:=by rw [←S.pre]; exact S.nd.sublist (List.take_sublist _ _)
    refine ⟨u,rv,?_⟩
    rcases S.par y (List.mem_of_getElem? hp) with k | k
    · exact .inl ⟨k,ZiR ndP hp hu k⟩
    · obtain ⟨c,e⟩:=ZlB (n:=s.heap.objs.size+1) k
      refine .inr ⟨.inl k,c,e,?_⟩
      have q:=x.cell y c e
      rw [ZiT ndP hp hu (by show scope.names.lookup y≠_; rw [k]; decide)] at q
      exact q
  · exact e0.hok.fresh (Nat.le_of_lt (x.above y c (PySem.mem_of_lookup h)))
  · unfold Zdz
    show _=N.length
    rw [List.length_append,List.length_map,List.length_replicate]
    omega
theorem ZvY {CX:CXT} {P:Program} {w:World} {K:PySem.W.Frag} {mg:Str→Option Value} {base:Heap} {k:Nat} {f:Addr} {name qual:Str} {params:Arguments} {body:List Stmt} {scope:Scope} {dV kV doc pm cdv ct oc:Value} {an od:Option Addr}
    {osl:Array (Option Value)} {N ps:List Str} {sp:Sp} (lk:K.lookup f=some ⟨oc,od,.func (PySem.W.fnOf name qual params body scope dV kV doc pm an cdv ct),osl⟩) (hcd:PySem.W.codeIn K cdv qual=true) (S:Zo N ps scope)
    (len:∀vs H Q E,sp vs H Q E→vs.length=ps.length)
    (hbody:∀(A:Around) (outer:List Env) (s:Shared) (H:Hp) (vs:List V) (Q:VK) (E:XK),Room k (A.deeper (envOfC qual scope s.heap.objs.size f cdv))→sp vs H Q E→
      ∃t,PSs (Zhc CX P w K mg base N qual scope f cdv A outer s H E) body t∧t { nx:=fun _ H'=>Q .non H',rt:=Q } (Zdz N vs) H) :
    FnOk P w K mg base CX (k+1) f (PySem.W.fnOf name qual params body scope dV kV doc pm an cdv ct) ps sp:=by
  refine ⟨len,fun A outer s H args us vs Q E hr e0 hb r hsp=>?_⟩
  have hl:=len _ _ _ _ hsp
  have KX:K.In s.heap:=e0.mod.kin.keeps fun b o e=>(e0.bs b o e).1
  have lim:s.heap.NoLimit:=e0.mod.nolimit.keeps fun b o e=>(e0.bs b o e).1
  have hkind:∀y∈ps.zip us,scope.names.lookup y.1=some .local∨(scope.names.lookup y.1=some .cell∧((cellsFrom (s.heap.objs.size+1) scope.names []).lookup y.1).isSome=true):=fun ⟨n,v⟩ hy=>by
    rcases S.par n (List.of_mem_zip hy).1 with q | q
    · exact .inl q
    · exact .inr ⟨q,PySem.W.cellsFrom_some _ _ _ (.inl q)⟩
  refine codeAny_call_function hr.depth (KX _ _ lk) rfl S.co S.gen rfl (PySem.W.codeRec_of KX hcd) (hb _ _ _ _ ?_)
  refine wpAny_newFunctionEnv_cells S.kind hkind fun env he s1 x=>?_
  subst he
  refine ⟨lim.keeps x.toInCall.keep,codeAny_func ?_⟩
  obtain ⟨t,ht,hq⟩:=hbody A outer s H vs Q E (hr.deeper _) hsp
  have I:Inv (Zhc CX P w K mg base N qual scope f cdv A outer s H E) [] (Zdz N vs) H s1:=ZnE S hr.hd e0 hl r x
  refine wpAny_mono (ht [] s1 (Zdz N vs) H _ I hq) (fun fl s' hs=>?_) fun e s' hs=>hs
  have fin:∀{σ':St} {H':Hp} {v:V} {u:Value},Inv (Zhc CX P w K mg base N qual scope f cdv A outer s H E) [] σ' H' s'→RelV v u→Q v H'→CE outer P w H s Q u s':=
    fun {σ' H' v u} J rv q=>⟨v,H',J.os,J.bare,J.base,J.hok,rv,q⟩
  cases fl with
  | ret u=>
    obtain ⟨v,σ',H',J,rv,q⟩:=hs
    exact fin J rv q
  | next=>
    obtain ⟨σ',H',J,q⟩:=hs
    exact fin (v:=V.non) (u:=Value.none) J rfl q
  | brk=>
    obtain ⟨_,_,_,q⟩:=hs
    exact False.elim q
  | cont=>
    obtain ⟨_,_,_,q⟩:=hs
    exact False.elim q
end L2
namespace L2
open PySem PySem.Spec PyProof.Rows
section
variable {X:Cx} {x:Str} {p pos:Pos} {e:Expr} {es:List Expr} {t:TA} {id T:String} {r:List V→Hp→VK→Prop}
def tCB (r:List V→Hp→VK→Prop) (t:TA):TE:=fun σ H Q=>t σ H fun vs H1=>r vs H1 Q
theorem ZpX (hc:CallR X (.builtin id) r) (hg:Gl X x) (hm:X.mg x=none) (hv:bootBuiltins x=some (.builtin id)) (ha:PA X (e::es) t) (hn:x≠"__name__":=by decide) (hdb:(x == ("__debug__":Str))=false:=by decide)
    (he:starEach (e::es) X.env=(false,eval e X.env)::starEach es X.env:=by rfl) (hpl:(backTo pos (starEach es X.env)).any (·.1)=false:=by rfl):PE X (.Call (.Name x p) (e::es) [] pos) (tCB r t):=by
  intro pins s σ H Q I h
  refine wpAny_Call_Name_kw (ZhJ I hg hm hv ?_ hn hdb)
  exact PyProof.Rows.callWith_builtin1 (thn (ha pos pins s σ H _ I h) fun us s1 ⟨vs,H1,I1,r1,q1⟩=>hc pins s1 σ H1 vs us Q I1 r1 q1) he hpl
theorem Znt (hc:CallR X (.type T) r) (hg:Gl X x) (hm:X.mg x=none) (hv:bootBuiltins x=some (.type T)) (ha:PA X (e::es) t) (hn:x≠"__name__":=by decide) (hdb:(x == ("__debug__":Str))=false:=by decide)
    (he:starEach (e::es) X.env=(false,eval e X.env)::starEach es X.env:=by rfl) (hpl:(backTo pos (starEach es X.env)).any (·.1)=false:=by rfl):PE X (.Call (.Name x p) (e::es) [] pos) (tCB r t):=by
  intro pins s σ H Q I h
  refine wpAny_Call_Name_kw (ZhJ I hg hm hv ?_ hn hdb)
  exact PyProof.Rows.callWith_type1 (thn (ha pos pins s σ H _ I h) fun us s1 ⟨vs,H1,I1,r1,q1⟩=>hc pins s1 σ H1 vs us Q I1 r1 q1) he hpl
end
end L2
namespace HT
open PySem PyProof.Rows
section
open PySem.SeqAt
open PySem.AutoSeq1 (wpAny_loadPart')
open PySem.MeetsSeq PySem.MeetsSeq2 PySem.MeetsSeq3
end
section
variable {prog:Program} {w:World} {A:Around} {E:Value→Shared→Prop} {s:Shared}
theorem cat_tup {t b:Addr} {vs ws:List Value} {Q:Value→Shared→Prop} (ht:IsTup s.heap t vs.toArray) (hb:IsTup s.heap b ws.toArray) (hv:vs≠[])
    (h1:ws=[]→Q (.ref t) s) (h2:ws≠[]→Q (.ref s.heap.objs.size) { s with heap:=s.heap.push { cls:=.type "tuple",data:=.seq (vs++ws).toArray } })
    (hsz:vs.length+ws.length≤sizeLine):wpAny (model prog w) A (binaryOp .Add (.ref t) (.ref b)) Q E s:=by
  obtain ⟨⟨cls,dd,data,sl⟩,ho,hc,n,hd⟩:=id ht
  obtain ⟨⟨cls2,dd2,data2,sl2⟩,ho2,hc2,n2,hd2⟩:=id hb
  simp only at hc hd hc2 hd2
  subst hc hd hc2 hd2
  have e:vs.toArray++ws.toArray=(vs++ws).toArray:=by simp
  by_cases hw:ws=[]
  · exact concat_meets ⟨_,ho,rfl⟩ ⟨_,ho2,rfl⟩ noFill_tuple_add seq_tuple_add PySem.F.slot_tuple_add PySem.F.entry_tuple_add (PySem.F.args_tuple_add_2 _ _)
      (tuple_addW1 t b vs.toArray ws.toArray n n2 dd dd2 sl sl2 (by simpa using hv) (by simp [hw])) ⟨ho,ho2,h1 hw⟩
  · refine concat_meets ⟨_,ho,rfl⟩ ⟨_,ho2,rfl⟩ noFill_tuple_add seq_tuple_add PySem.F.slot_tuple_add PySem.F.entry_tuple_add (PySem.F.args_tuple_add_2 _ _)
      (tuple_addW2 t b vs.toArray ws.toArray n n2 dd dd2 sl sl2 (by simpa using hv) (by simpa using hw) (by rw [List.size_toArray,List.size_toArray]; exact hsz)) ⟨ho,ho2,?_⟩
    rw [e]
    exact h2 hw
def sIx (n d:Nat):Option Int→Nat
  | none=>d
  | some v=>if v<0 then (v+(n:Int)).toNat else min v.toNat n
theorem sIx_none (n d:Nat):sIx n d none=d:=rfl
theorem sIx_nat (n d k:Nat):sIx n d (some (k:Int))=min k n:=by
  show (if (k:Int)<0 then ((k:Int)+(n:Int)).toNat else min (k:Int).toNat n)=min k n
  rw [if_neg (by omega),Int.toNat_natCast]
theorem Ztx (n d:Nat) (hd:d≤n) (o:Option Int):sIx n d o≤n:=by
  cases o with
  | none=>exact hd
  | some v=>
    show (if v<0 then (v+(n:Int)).toNat else min v.toNat n)≤n
    by_cases hv:v<0
    · rw [if_pos hv]; omega
    · rw [if_neg hv]; exact Nat.min_le_right _ _
theorem Zm1 (v:Int) (n d:Nat):(if v<0 then max (v+(n:Int)) 0 else min v (n:Int))=((sIx n d (some v):Nat):Int):=by
  show (if v<0 then max (v+(n:Int)) 0 else min v (n:Int))=(((if v<0 then (v+(n:Int)).toNat else min v.toNat n):Nat):Int)
  by_cases hv:v<0
  · simp only [if_pos hv]; omega
  · simp only [if_neg hv]; omega
theorem Zmg (lo hi:Option Int) (n:Nat):Builtin.Slice.sliceAdjust lo hi 1 (n:Int)=(((sIx n 0 lo:Nat):Int),((sIx n n hi:Nat):Int)):=by
  have h1:¬((1:Int)<0):=by omega
  unfold Builtin.Slice.sliceAdjust
  simp only [h1,if_false]
  refine Prod.ext ?_ ?_
  · cases lo with
    | none=>rfl
    | some v=>exact Zm1 v n 0
  · cases hi with
    | none=>rfl
    | some v=>exact Zm1 v n n
theorem ZlT (i j:Nat):Builtin.Slice.slicePlaces (i:Int) (j:Int) 1=j-i:=by
  unfold Builtin.Slice.slicePlaces
  have h1:(1:Int) > 0:=by omega
  simp only [h1,if_true,Int.ediv_one]
  split<;>omega
theorem Zhx {v:Value} {o:Option Int} {Q:Option Int→Shared→Prop} (p:IsPart v o) (h:Q o s):wpAny (model prog w) A (Builtin.Slice.slicePartIndex v) Q E s:=by
  cases p with
  | none=>exact slicePart_none h
  | int i t=>exact slicePart_int h
theorem Zgd {sl:Addr} {vl vu:Value} {lo hi:Option Int} {n:Nat} {Q:Int×Int×Nat→Shared→Prop} (hs:s.heap.IsSliceOf sl vl vu .none) (pl:IsPart vl lo) (pu:IsPart vu hi)
    (h:Q (((sIx n 0 lo:Nat):Int),1,sIx n n hi-sIx n 0 lo) s):wpAny (model prog w) A (Builtin.Slice.sliceApplied (.ref sl) (pure (n:Int))) Q E s:=by
  obtain ⟨os,hos,hcs,hds⟩:=id hs
  unfold Builtin.Slice.sliceApplied Builtin.Slice.sliceFields
  refine wpAny_bind (wpAny_bind (wpAny_field hos hds (x:=vl) rfl (wpAny_bind (wpAny_field hos hds (x:=vu) rfl (wpAny_bind (wpAny_field hos hds (x:=.none) rfl (wpAny_pure ?_)))))))
  refine wpAny_bind (slicePart_none ?_)
  show wpAny _ _ (if ((1:Int) == 0)=true then _ else _) _ _ s
  rw [if_neg (by decide)]
  refine wpAny_bind (Zhx pl (wpAny_bind (Zhx pu (wpAny_bind (wpAny_pure ?_)))))
  show wpAny _ _ (match Builtin.Slice.sliceAdjust lo hi 1 (n:Int) with | (lo,hi)=>pure (lo,(1:Int),Builtin.Slice.slicePlaces lo hi 1)) _ _ s
  rw [Zmg lo hi n]
  show wpAny _ _ (pure (((sIx n 0 lo:Nat):Int),(1:Int),Builtin.Slice.slicePlaces ((sIx n 0 lo:Nat):Int) ((sIx n n hi:Nat):Int) 1)) _ _ s
  rw [ZlT]
  exact wpAny_pure h
theorem ZpM (xs:Array Value) (i k:Nat):((List.range k).filterMap fun (m:Nat)=>xs[((i:Int)+(m:Int)*1).toNat]?).toArray=((xs.toList.drop i).take k).toArray:=by
  have e:(fun (m:Nat)=>xs[((i:Int)+(m:Int)*1).toNat]?)=fun m=>xs[i+m]?:=by
    funext m
    have:((i:Int)+(m:Int)*1).toNat=i+m:=by omega
    rw [this]
  rw [e]
  have:=pick_run xs i k
  rw [List.filterMap_map] at this
  have e2:((fun x=>xs[x]?)∘fun x=>i+x)=fun m=>xs[i+m]?:=rfl
  rw [e2] at this
  rw [this]
theorem getItem_tuple_cut {t sl:Addr} {items:Array Value} {vl vu:Value} {lo hi:Option Int} {Q:Value→Shared→Prop} (ht:IsTup s.heap t items) (hs:s.heap.IsSliceOf sl vl vu .none) (pl:IsPart vl lo) (pu:IsPart vu hi)
    (hw:¬(sIx items.size 0 lo=0∧sIx items.size items.size hi=items.size))
    (h:Q (.ref s.heap.objs.size) { s with heap:=s.heap.push { cls:=.type "tuple",data:=.seq ((items.toList.drop (sIx items.size 0 lo)).take (sIx items.size items.size hi-sIx items.size 0 lo)).toArray } })
    (hsz:items.size≤sizeLine):wpAny (model prog w) A (getItem (.ref t) (.ref sl)) Q E s:=by
  have htake:sizeOk (.seq ((items.toList.drop (sIx items.size 0 lo)).take (sIx items.size items.size hi-sIx items.size 0 lo)).toArray):=by
    show ((items.toList.drop (sIx items.size 0 lo)).take (sIx items.size items.size hi-sIx items.size 0 lo)).toArray.size≤sizeLine
    rw [List.size_toArray,List.length_take,List.length_drop,Array.length_toList]
    omega
  have hj:sIx items.size items.size hi≤items.size:=Ztx _ _ (Nat.le_refl _) hi
  obtain ⟨os,hos,hcs,hds⟩:=id hs
  have hTs:s.TypeIs (.ref sl) "slice":=⟨os,hos,hcs⟩
  unfold getItem
  try with_reducible refine wpAny_holding ?_
  first | refine wpAny_bind (wpAny_pure ?_) | skip
  refine wpAny_bind (wpAny_sequenceKey ht.typeIs (by decide) ?_)
  refine wpAny_bind (wpAny_callSpecial?_slot (name:=Str.ofString "__getitem__") ht.typeIs PyProof.Rows.slot_tuple_getitem
    (wpAny_call_entry PyProof.Rows.slot_tuple_getitem ht.typeIs entry_tuple_getitem ?_ (args_tuple_getitem _ _)))
  show wpAny _ _ (Builtin.Tuple.tupleItemsOf (.ref t) >>= _) _ _ s
  refine wpAny_bind (tupleItemsOf_ ht ?_)
  refine wpAny_bind (wpAny_typeOf hTs ?_)
  rw [if_pos (by decide)]
  refine wpAny_bind (Zgd hs pl pu ?_)
  have hno:¬((((sIx items.size 0 lo:Nat):Int) == 0 && (1:Int) == 1 && (sIx items.size items.size hi-sIx items.size 0 lo) == items.size)=true):=by
    intro q
    rw [Bool.and_eq_true,Bool.and_eq_true] at q
    have q1:((sIx items.size 0 lo:Nat):Int)=0:=eq_of_beq q.1.1
    have q2:sIx items.size items.size hi-sIx items.size 0 lo=items.size:=eq_of_beq q.2
    exact hw ⟨by omega,by omega⟩
  show wpAny _ _ (if (((sIx items.size 0 lo:Nat):Int) == 0 && (1:Int) == 1 && (sIx items.size items.size hi-sIx items.size 0 lo) == items.size)=true then _ else _) _ _ s
  rw [if_neg hno,ZpM]
  first
    | exact wpAny_bind (m:=Builtin.Tuple.tupleExact _) (wpAny_newObj_type (wpAny_pure ⟨_,rfl,wpAny_pure h⟩) htake)
    | exact wpAny_bind (m:=Builtin.Tuple.tupleExact _) (wpAny_newObj_type (wpAny_bind (wpAny_pure (wpAny_pure ⟨_,rfl,wpAny_pure h⟩))) htake)
    | exact wpAny_bind (wpAny_bind (m:=Builtin.Tuple.tupleExact _) (wpAny_newObj_type (wpAny_pure (wpAny_pure ⟨_,rfl,wpAny_pure h⟩)) htake))
    | exact wpAny_bind (wpAny_bind (m:=Builtin.Tuple.tupleExact _) (wpAny_newObj_type (wpAny_pure ⟨_,rfl,wpAny_pure h⟩) htake))
end
end HT
namespace L2
open PySem PySem.Spec PyProof.Rows
abbrev TO:=St→Hp→(Option Int→Hp→Prop)→Prop
def PO (X:Cx) (e:Option Expr) (t:TO):Prop:=
  ∀(pins:List (Addr×Obj)) (s:Shared) (σ:St) (H:Hp) (Q:Option Int→Hp→Prop),Inv X pins σ H s→t σ H Q→
    wpAny (model X.prog X.w) X.A (evalPart e X.env) (fun u s'=>∃o H',Inv X pins σ H' s'∧IsPart u o∧Q o H') X.xe s
def Zrp:TO:=fun _ H Q=>Q none H
def Zu8 (t:TE):TO:=fun σ H Q=>t σ H fun x H1=>∃i,x=.int i∧Q (some i) H1
section
variable {X:Cx} {e:Expr} {te:TE} {lo hi:Option Expr} {tl th:TO} {pos p2:Pos}
theorem ZrE:PO X none Zrp:=by
  intro pins s σ H Q I h
  rw [evalPart_none]
  exact wpAny_pure ⟨none,H,I,.none,h⟩
theorem ZrD (h:PE X e te):PO X (some e) (Zu8 te):=by
  intro pins s σ H Q I hw
  rw [evalPart_some]
  refine thn (h pins s σ H _ I hw) fun u s1 ⟨x,H1,I1,r1,q1⟩=>?_
  obtain ⟨i,rfl,q⟩:=q1
  obtain ⟨t,rfl⟩:=r1
  exact ⟨some i,H1,I1,.int i t,q⟩
def SlR (X:Cx) (r:V→Option Int→Option Int→Hp→VK→Prop):Prop:=
  ∀(pins:List (Addr×Obj)) (s:Shared) (σ:St) (H:Hp) (x:V) (v vl vu:Value) (lo hi:Option Int) (sl:Addr) (Q:VK),Inv X pins σ H s→RelV x v→s.heap.IsSliceOf sl vl vu .none→IsPart vl lo→IsPart vu hi→r x lo hi H Q→
    ∃T id,typeLookup (.type T) "__getitem__"=pure (some (.builtin id))∧s.TypeIs v T∧wpAny (model X.prog X.w) X.A (getItem v (.ref sl)) (EP X pins σ Q) X.xe s
theorem SlR.or {r r':V→Option Int→Option Int→Hp→VK→Prop} (h:SlR X r) (h':SlR X r'):SlR X (fun x lo hi H Q=>r x lo hi H Q∨r' x lo hi H Q):=by
  intro pins s σ H x v vl vu lo hi sl Q I rx hs pl pu q
  rcases q with q | q
  · exact h pins s σ H x v vl vu lo hi sl Q I rx hs pl pu q
  · exact h' pins s σ H x v vl vu lo hi sl Q I rx hs pl pu q
def tSl (r:V→Option Int→Option Int→Hp→VK→Prop) (te:TE) (tl th:TO):TE:=fun σ H Q=>te σ H fun x H1=>tl σ H1 fun l H2=>th σ H2 fun u H3=>r x l u H3 Q
theorem ZpO {r:V→Option Int→Option Int→Hp→VK→Prop} (hr:SlR X r) (he:PE X e te) (hl:PO X lo tl) (hu:PO X hi th):PE X (.Subscript e (.Slice lo hi none p2) pos) (tSl r te tl th):=by
  intro pins s σ H Q I h
  refine Subscript_ (thn (he pins s σ H _ I h) fun v s1 ⟨x,H1,I1,r1,q1⟩=>?_)
  refine wpAny_Slice (thn (hl pins s1 σ H1 _ I1 q1) fun vl s2 ⟨l,H2,I2,pl,q2⟩=>thn (hu pins s2 σ H2 _ I2 q2) fun vu s3 ⟨u,H3,I3,pu,q3⟩=>?_)
  rw [evalPart_none]
  refine wpAny_pure ?_
  have I4:Inv X pins σ H3 { s3 with heap:=s3.heap.push { cls:=.type "slice",data:=.fields #[vl,vu,.none] } }:=I3.kept (t':=s3.toks) fun b ob q=>Heap.get?_push_of_some _ q
  obtain ⟨T,id,hT,ht,hg⟩:=hr pins { s3 with heap:=s3.heap.push { cls:=.type "slice",data:=.fields #[vl,vu,.none] } } σ H3 x v vl vu l u s3.heap.objs.size Q I4 r1 (Heap.IsSliceOf.new ..) pl pu q3
  show wpAny (model X.prog X.w) X.A (subscriptTail e (.Slice lo hi none p2) v (.ref s3.heap.objs.size)) (EP X pins σ Q) X.xe { s3 with heap:=s3.heap.push { cls:=.type "slice",data:=.fields #[vl,vu,.none] } }
  exact tail_any (ops:=[.ref s3.heap.objs.size,v]) ht hT hg (by with_unfolding_all rfl)
def Zlx (xs:List V) (lo hi:Option Int):List V:=(xs.drop (HT.sIx xs.length 0 lo)).take (HT.sIx xs.length xs.length hi-HT.sIx xs.length 0 lo)
theorem ZgP (xs:List V) (lo hi:Option Int):(Zlx xs lo hi).length≤xs.length:=by
  unfold Zlx
  rw [List.length_take,List.length_drop]
  omega
def Zy8 (K:PySem.W.Frag):V→Option Int→Option Int→Hp→VK→Prop:=fun x lo hi H Q=>∃a xs,x=.ref a∧SqT K H a xs∧
  ¬(HT.sIx xs.length 0 lo=0∧HT.sIx xs.length xs.length hi=xs.length)∧∀p,H p=none→Q (.ref p) (upd H p (.tup (Zlx xs lo hi)))
theorem Ztu:SlR X (Zy8 X.K):=by
  intro pins s σ H x v vl vu lo hi sl Q I rx hs pl pu h
  obtain ⟨a,xs,rfl,hx,hw,q⟩:=h
  cases rx
  obtain ⟨its,r,ht,hz⟩:=I.tuple hx
  have hlen:its.toArray.size=xs.length:=by rw [List.size_toArray]; exact r.length.symm
  refine ⟨"tuple",_,PyProof.Rows.slot_tuple_getitem.lookup,ht.typeIs,?_⟩
  refine HT.getItem_tuple_cut ht hs pl pu (by rw [hlen]; exact hw) ?_ (by rw [hlen]; exact hz)
  rw [hlen]
  refine ⟨.ref s.heap.objs.size,_,I.laid (t':=s.toks) (o:=.tup (Zlx xs lo hi)) (fun b ob q=>Heap.get?_push_of_some _ q) (Nat.le_refl _) ?_,rfl,q _ (I.hok.fresh (Nat.le_refl _))⟩
  exact ⟨Nat.le_trans (ZgP xs lo hi) hz,_,(r.drop (HT.sIx xs.length 0 lo)).take (HT.sIx xs.length xs.length hi-HT.sIx xs.length 0 lo),IsTup.new _ _⟩
def Zvn (K:PySem.W.Frag):R2:=fun x y H Q=>∃a b xs ys,x=.ref a∧y=.ref b∧SqT K H a xs∧SqT K H b ys∧xs≠[]∧xs.length+ys.length≤sizeLine∧
  (ys=[]→Q (.ref a) H)∧(ys≠[]→∀p,H p=none→Q (.ref p) (upd H p (.tup (xs++ys))))
theorem Vals.nil_iff {xs:List V} {us:List Value} (r:Vals xs us):us=[]↔xs=[]:=by
  cases r with
  | nil=>simp
  | cons _ _=>simp
theorem op_catT:OpR X (binaryOp .Add) (Zvn X.K):=by
  intro pins s σ H x y v u Q I rx ry h
  obtain ⟨a,b,xs,ys,rfl,rfl,ha,hb,hx,hz,q1,q2⟩:=h
  cases rx
  cases ry
  obtain ⟨its,r1,p1,_⟩:=I.tuple ha
  obtain ⟨its2,r2,p2,_⟩:=I.tuple hb
  refine HT.cat_tup p1 p2 (fun z=>hx (r1.nil_iff.mp z)) (fun z=>⟨.ref a,H,I,rfl,q1 (r2.nil_iff.mp z)⟩) (fun z=>?_) (by rw [←r1.length,←r2.length]; exact hz)
  refine ⟨.ref s.heap.objs.size,_,I.laid (t':=s.toks) (o:=.tup (xs++ys)) (fun b ob q=>Heap.get?_push_of_some _ q) (Nat.le_refl _) ?_,rfl,q2 (fun w=>z (r2.nil_iff.mpr w)) _ (I.hok.fresh (Nat.le_refl _))⟩
  exact ⟨by rw [List.length_append]; exact hz,_,r1.append r2,IsTup.new _ _⟩
end
end L2
namespace L2
open PySem PySem.Spec PyProof.Rows
def ixN (n:Nat) (i:Int):Option Nat:=if 0≤i then (if i<n then some i.toNat else none) else if -(n:Int)≤i then some (i+n).toNat else none
def atI {α:Type} (xs:List α) (i:Int):Option α:=(ixN xs.length i).bind fun j=>xs[j]?
theorem Zr2 {n:Nat} {i:Int} {j:Nat} (h:ixN n i=some j):seqIndex? i n=some j∧j<n∧-(n:Int)≤i∧i<n:=by
  unfold ixN at h
  by_cases h0:0≤i
  · rw [if_pos h0] at h
    by_cases h1:i<n
    · rw [if_pos h1] at h
      have e:i.toNat=j:=Option.some.inj h
      exact ⟨by rw [seqIndex_of h0 h1,e],by omega,by omega,h1⟩
    · rw [if_neg h1] at h; cases h
  · rw [if_neg h0] at h
    by_cases h1 : -(n:Int)≤i
    · rw [if_pos h1] at h
      have e:(i+n).toNat=j:=Option.some.inj h
      exact ⟨by rw [seqIndex_neg (by omega) h1,e],by omega,h1,by omega⟩
    · rw [if_neg h1] at h; cases h
theorem Zjs {α:Type} {xs:List α} {i:Int} {v:α} (h:atI xs i=some v):∃j,seqIndex? i xs.length=some j∧xs[j]?=some v∧j<xs.length∧-(xs.length:Int)≤i∧i<xs.length:=by
  unfold atI at h
  cases e:ixN xs.length i with
  | none=>rw [e] at h; cases h
  | some j=>
    rw [e] at h
    obtain ⟨h1,h2,h3,h4⟩:=Zr2 e
    exact ⟨j,h1,h,h2,h3,h4⟩
theorem Zhk {α:Type} {xs:List α} {j:Nat} {v:α} (h:xs[j]?=some v):atI xs (j:Int)=some v:=by
  have hj:j<xs.length:=(List.getElem?_eq_some_iff.mp h).1
  have e:ixN xs.length (j:Int)=some j:=by
    unfold ixN
    rw [if_pos (by omega),if_pos (by omega)]; simp
  unfold atI; rw [e]; exact h
def Znc (b:Expr):Prop:=∀o i,subscripted b false o i=operate [o,i] (getItem o i)
def IxR (X:Cx) (r:R2):Prop:=
  ∀(value slice:Expr) (pins:List (Addr×Obj)) (s:Shared) (σ:St) (H:Hp) (x y:V) (v u:Value) (Q:VK),Inv X pins σ H s→RelV x v→RelV y u→r x y H Q→
    subscripted slice false v u=operate [v,u] (getItem v u)→wpAny (model X.prog X.w) X.A (subscriptTail value slice v u) (EP X pins σ Q) X.xe s
def MtR (X:Cx) (id:String) (r:V→List V→Hp→VK→Prop):Prop:=
  ∀(pins:List (Addr×Obj)) (s:Shared) (σ:St) (H:Hp) (x:V) (xs:List V) (v:Value) (us:List Value) (Q:VK),Inv X pins σ H s→RelV x v→Vals xs us→r x xs H Q→
    wpAny (model X.prog X.w) X.A (call (.builtin id) (v::us)) (EP X pins σ Q) X.xe s
section
variable {X:Cx} {a b:Expr} {ta tb:TE} {pos:Pos}
theorem IxR.or {r r':R2} (h:IxR X r) (h':IxR X r'):IxR X (fun x y H Q=>r x y H Q∨r' x y H Q):=by
  intro value slice pins s σ H x y v u Q I rx ry q hs
  rcases q with q | q
  · exact h value slice pins s σ H x y v u Q I rx ry q hs
  · exact h' value slice pins s σ H x y v u Q I rx ry q hs
theorem MtR.or {id:String} {r r':V→List V→Hp→VK→Prop} (h:MtR X id r) (h':MtR X id r'):MtR X id (fun x xs H Q=>r x xs H Q∨r' x xs H Q):=by
  intro pins s σ H x xs v us Q I rx rs q
  rcases q with q | q
  · exact h pins s σ H x xs v us Q I rx rs q
  · exact h' pins s σ H x xs v us Q I rx rs q
theorem Zvw {r:R2} (hr:IxR X r) (ha:PE X a ta) (hb:PE X b tb) (hs:Znc b):PE X (.Subscript a b pos) (tOp r ta tb):=by
  intro pins s σ H Q I h
  exact Subscript_ (Zuj ha hb I h fun v u s2 x y H2 I2 rx ry q=>hr a b pins s2 σ H2 x y v u Q I2 rx ry q (hs _ _))
def Zvm (K:PySem.W.Frag):R2:=fun x y H Q=>∃p xs i v,x=.ref p∧y=.int i∧SqL K H p xs∧atI xs i=some v∧Q v H
def Zvk (K:PySem.W.Frag):R2:=fun x y H Q=>∃p xs i v,x=.ref p∧y=.int i∧SqT K H p xs∧atI xs i=some v∧Q v H
def Zvl:R2:=fun x y H Q=>∃z i c,x=.str z∧y=.int i∧z.length≤sizeLine∧atI z.cps.toList i=some c∧Q (.str ⟨#[c]⟩) H
theorem ix_list:IxR X (Zvm X.K):=by
  intro value slice pins s σ H x y v u Q I rx ry h hs
  obtain ⟨p,xs,i,z,rfl,rfl,hq,he,q⟩:=h
  cases rx
  obtain ⟨t,rfl⟩:=ry
  obtain ⟨its,r,pl,hz⟩:=I.list hq
  obtain ⟨j,h1,h2,h3,h4,h5⟩:=Zjs he
  obtain ⟨w,ew,rw'⟩:=r.get h2
  have hl:=r.length
  have hn:=Zgm
  have fin:EP X pins σ Q w s:=⟨z,H,I,rw',q⟩
  by_cases h0:0≤i
  · have hj:i.toNat=j:=by
      rw [seqIndex_of h0 h5] at h1
      exact Option.some.inj h1
    exact item_listR pl.isList h0 (by omega) (by rw [hj]; simpa using ew) fin hs
  · have hj:(i+(its.toArray.size:Int)).toNat=j:=by
      rw [seqIndex_neg (by omega) h4] at h1
      rw [List.size_toArray,←hl]
      exact Option.some.inj h1
    exact subscriptTail_builtinR (x:=w) pl.isList.typeIs slot_list_getitem.lookup
      (wpAny_getItem_list_neg (Q:=fun r s'=>r=w∧EP X pins σ Q r s') pl.isList (by omega) (by rw [List.size_toArray]<;>omega) (by omega) (by rw [hj]; simpa using ew) ⟨rfl,fin⟩) hs
theorem ix_tup:IxR X (Zvk X.K):=by
  intro value slice pins s σ H x y v u Q I rx ry h hs
  obtain ⟨p,xs,i,z,rfl,rfl,hq,he,q⟩:=h
  cases rx
  obtain ⟨t,rfl⟩:=ry
  obtain ⟨its,r,pl,hz⟩:=I.tuple hq
  obtain ⟨j,h1,h2,h3,h4,h5⟩:=Zjs he
  obtain ⟨w,ew,rw'⟩:=r.get h2
  have hl:=r.length
  have hn:=Zgm
  have fin:EP X pins σ Q w s:=⟨z,H,I,rw',q⟩
  exact subscriptTail_builtinR (x:=w) pl.typeIs slot_tuple_getitem.lookup
    (getItem_tuple (j:=j) (Q:=fun r s'=>r=w∧EP X pins σ Q r s') pl (by omega) (by omega) (by rw [List.size_toArray,←hl]; exact h1) (by simpa using ew) ⟨rfl,fin⟩) hs
theorem Zub:IxR X Zvl:=by
  intro value slice pins s σ H x y v u Q I rx ry h hs
  obtain ⟨z,i,c,rfl,rfl,hz,he,q⟩:=h
  obtain ⟨t,rfl⟩:=rx
  obtain ⟨t',rfl⟩:=ry
  obtain ⟨j,h1,h2,h3,h4,h5⟩:=Zjs he
  have hl:z.cps.toList.length=z.length:=by simp [Str.length]
  rw [hl] at h1 h4 h5
  have hn:=Zgm
  exact tail_any (typeIs_str s z t) slot_str_getitem.lookup (getItem_str (c:=c) (by
    have e1:decide (i < -(2 ^ 63:Int))=false:=decide_eq_false (by omega)
    have e2:decide (i≥2 ^ 63)=false:=decide_eq_false (by omega)
    rw [e1,e2,Bool.or_false]) (by rw [h1]; simpa using h2) ⟨.str ⟨#[c]⟩,H,I.tok _,⟨_,rfl⟩,q⟩) hs
def rIx (K:PySem.W.Frag):R2:=fun x y H Q=>Zvm K x y H Q∨Zvk K x y H Q∨Zvl x y H Q
theorem Zuc:IxR X (rIx X.K):=ix_list.or (ix_tup.or Zub)
theorem Inv.lst {pins:List (Addr×Obj)} {σ:St} {H:Hp} {s:Shared} {p:Addr} {xs:List V} (I:Inv X pins σ H s) (h:H p=some (.lst xs)) :
    ∃(its:List Value) (n:Nat),Vals xs its∧s.heap.get? p=some { cls:=.type "list",data:=.seq its.toArray n }∧xs.length≤sizeLine:=by
  obtain ⟨z,its,n,r,e⟩:=I.hok p _ h
  exact ⟨its,n,r,e,z⟩
theorem Zi5 (lo hi:Option Int) (n:Nat):(sliceBounds lo hi none n).1=((HT.sIx n 0 lo:Nat):Int)∧(sliceBounds lo hi none n).2.1=((HT.sIx n n hi:Nat):Int)∧(sliceBounds lo hi none n).2.2=1:=by
  refine ⟨?_,?_,rfl⟩
  · cases lo with
    | none=>simp [sliceBounds,HT.sIx]
    | some i=>
      simp only [sliceBounds,HT.sIx,Option.getD_none,show (1:Int) > 0 by decide,if_true]
      by_cases h:i<0
      · simp only [h,if_true]<;>omega
      · simp only [h,if_false]<;>omega
  · cases hi with
    | none=>simp [sliceBounds,HT.sIx]
    | some i=>
      simp only [sliceBounds,HT.sIx,Option.getD_none,show (1:Int) > 0 by decide,if_true]
      by_cases h:i<0
      · simp only [h,if_true]<;>omega
      · simp only [h,if_false]<;>omega
theorem Zif (its:List Value) (lo hi:Option Int):slicePick its.toArray lo hi none=((its.drop (HT.sIx its.length 0 lo)).take (HT.sIx its.length its.length hi-HT.sIx its.length 0 lo)).toArray:=by
  obtain ⟨h1,h2,h3⟩:=Zi5 lo hi its.toArray.size
  unfold slicePick
  rw [h1,h2,h3]
  simp only [sliceRange_one,pick_run,List.size_toArray]<;>rfl
def Zvi (K:PySem.W.Frag):V→Option Int→Option Int→Hp→VK→Prop:=fun x lo hi H Q=>∃a xs,x=.ref a∧SqL K H a xs∧∀p,H p=none→Q (.ref p) (upd H p (.lst (Zlx xs lo hi)))
theorem sl_list:SlR X (Zvi X.K):=by
  intro pins s σ H x v vl vu lo hi sl Q I rx hs pl pu h
  obtain ⟨a,xs,rfl,hx,q⟩:=h
  cases rx
  obtain ⟨its,r,ht,hz⟩:=I.list hx
  have hlen:=r.length
  refine ⟨"list",_,slot_list_getitem.lookup,ht.isList.typeIs,?_⟩
  refine wpAny_getItem_list_slice ht.isList hs pl pu .none (by simp) ?_ (by rw [List.size_toArray]<;>omega)
  rw [Zif,←hlen]
  refine ⟨.ref s.heap.objs.size,_,I.laid (t':=s.toks) (o:=.lst (Zlx xs lo hi)) (fun b ob q=>Heap.get?_push_of_some _ q) (Nat.le_refl _) ?_,rfl,q _ (I.hok.fresh (Nat.le_refl _))⟩
  exact ⟨Nat.le_trans (ZgP xs lo hi) hz,_,0,(r.drop (HT.sIx xs.length 0 lo)).take (HT.sIx xs.length xs.length hi-HT.sIx xs.length 0 lo),Heap.get?_push_size _ rfl⟩
def Zdj:V→Bool
  | .non=>true
  | .bl _=>true
  | .int _=>true
  | .str _=>true
  | _=>false
def eqV:V→V→Bool
  | .non,.non=>true
  | .bl a,.bl b=>a == b
  | .bl a,.int b=>(if a then 1 else 0) == b
  | .int a,.bl b=>a == (if b then 1 else 0)
  | .int a,.int b=>a == b
  | .str a,.str b=>a == b
  | _,_=>false
theorem Zuh {A:Around} {s:Shared} {y x:V} {u v:Value} (ry:RelV y u) (rx:RelV x v) (fy:Zdj y=true) (fx:Zdj x=true):SeqAt.EqAt A s u v (eqV y x):=by
  cases y with
  | non=>
    cases ry
    cases x with
    | non=>cases rx; exact SeqAt.EqAt.same _
    | bl b=>cases rx; exact SeqAt.EqAt.none_bool b
    | int b=>obtain ⟨t,rfl⟩:=rx; exact SeqAt.EqAt.none_int b t
    | str b=>obtain ⟨t,rfl⟩:=rx; exact SeqAt.EqAt.none_str b t
    | _=>exact absurd (show false=true from fx) Bool.false_ne_true
  | bl a=>
    cases ry
    cases x with
    | non=>cases rx; exact SeqAt.EqAt.bool_none a
    | bl b=>cases rx; exact SeqAt.EqAt.bool_bool a b
    | int b=>obtain ⟨t,rfl⟩:=rx; exact SeqAt.EqAt.bool_int a b t
    | str b=>obtain ⟨t,rfl⟩:=rx; exact SeqAt.EqAt.bool_str a b t
    | _=>exact absurd (show false=true from fx) Bool.false_ne_true
  | int a=>
    obtain ⟨t',rfl⟩:=ry
    cases x with
    | non=>cases rx; exact SeqAt.EqAt.int_none a t'
    | bl b=>cases rx; exact SeqAt.EqAt.int_bool a t' b
    | int b=>obtain ⟨t,rfl⟩:=rx; exact SeqAt.EqAt.int_int a t' b t
    | str b=>obtain ⟨t,rfl⟩:=rx; exact SeqAt.EqAt.int_str a t' b t
    | _=>exact absurd (show false=true from fx) Bool.false_ne_true
  | str a=>
    obtain ⟨t',rfl⟩:=ry
    cases x with
    | non=>cases rx; exact SeqAt.EqAt.str_none a t'
    | bl b=>cases rx; exact SeqAt.EqAt.str_bool a t' b
    | int b=>obtain ⟨t,rfl⟩:=rx; exact SeqAt.EqAt.str_int a t' b t
    | str b=>obtain ⟨t,rfl⟩:=rx; exact SeqAt.EqAt.str_str a t' b t
    | _=>exact absurd (show false=true from fx) Bool.false_ne_true
  | _=>exact absurd (show false=true from fy) Bool.false_ne_true
def eqU (x:V) (u:Value):Bool:=match u with
  | .none=>eqV .non x
  | .bool b=>eqV (.bl b) x
  | .int i _=>eqV (.int i) x
  | .str z _=>eqV (.str z) x
  | _=>false
theorem ZqA {x y:V} {u:Value} (r:RelV y u) (f:Zdj y=true):eqU x u=eqV y x:=by
  cases y with
  | non=>cases r; rfl
  | bl b=>cases r; rfl
  | int i=>obtain ⟨t,rfl⟩:=r; rfl
  | str z=>obtain ⟨t,rfl⟩:=r; rfl
  | _=>exact absurd (show false=true from f) Bool.false_ne_true
theorem Zf6 {x:V}:∀{xs:List V} {us:List Value},Vals xs us→xs.all Zdj=true→us.any (eqU x)=xs.any fun y=>eqV y x
  | _,_,.nil,_=>rfl
  | y::xs,u::us,.cons r t,f=>by
    rw [List.all_cons,Bool.and_eq_true] at f
    rw [List.any_cons,List.any_cons,ZqA r f.1,Zf6 t f.2]
theorem ZeE {A:Around} {s:Shared} {x:V} {v:Value} (rx:RelV x v) (fx:Zdj x=true):∀{xs:List V} {us:List Value},Vals xs us→xs.all Zdj=true→∀u∈us,SeqAt.EqAt A s u v (eqU x u)
  | _,_,.nil,_=>fun u hu=>by cases hu
  | y::xs,u::us,.cons r t,f=>fun u' hu=>by
    rw [List.all_cons,Bool.and_eq_true] at f
    rcases List.mem_cons.mp hu with rfl | hu
    · rw [ZqA r f.1]; exact Zuh r rx f.1 fx
    · exact ZeE rx fx t f.2 u' hu
def inV (x:V) (xs:List V):Bool:=xs.any fun y=>eqV y x
def rIn (K:PySem.W.Frag) (neg:Bool):R2:=fun x y H Q=>∃p xs,y=.ref p∧(SqL K H p xs∨SqT K H p xs)∧Zdj x=true∧xs.all Zdj=true∧Q (.bl (if neg then !inV x xs else inV x xs)) H
theorem Znu:OpR X (compareOp .In) (rIn X.K false):=by
  intro pins s σ H x y v u Q I rx ry h
  obtain ⟨p,xs,rfl,hq,fx,fs,q⟩:=h
  cases ry
  rcases hq with hq | hq
  · obtain ⟨its,r,pl,hz⟩:=I.list hq
    refine SeqAt.in_listAt (eqU x) pl.isList (fun w hw=>ZeE rx fx r fs w (by simpa using hw)) ⟨.bl _,H,I,rfl,?_⟩
    rw [show its.toArray.any (eqU x)=its.any (eqU x) by simp,Zf6 r fs]
    exact q
  · obtain ⟨its,r,pl,hz⟩:=I.tuple hq
    refine SeqAt.in_tupleAt (eqU x) pl (fun w hw=>ZeE rx fx r fs w (by simpa using hw)) ⟨.bl _,H,I,rfl,?_⟩
    rw [show its.toArray.any (eqU x)=its.any (eqU x) by simp,Zf6 r fs]
    exact q
theorem Zjb:OpR X (compareOp .NotIn) (rIn X.K true):=by
  intro pins s σ H x y v u Q I rx ry h
  obtain ⟨p,xs,rfl,hq,fx,fs,q⟩:=h
  cases ry
  rcases hq with hq | hq
  · obtain ⟨its,r,pl,hz⟩:=I.list hq
    refine SeqAt.notIn_listAt (eqU x) pl.isList (fun w hw=>ZeE rx fx r fs w (by simpa using hw)) ⟨.bl _,H,I,rfl,?_⟩
    rw [show its.toArray.any (eqU x)=its.any (eqU x) by simp,Zf6 r fs]
    exact q
  · obtain ⟨its,r,pl,hz⟩:=I.tuple hq
    refine SeqAt.notIn_tupleAt (eqU x) pl (fun w hw=>ZeE rx fx r fs w (by simpa using hw)) ⟨.bl _,H,I,rfl,?_⟩
    rw [show its.toArray.any (eqU x)=its.any (eqU x) by simp,Zf6 r fs]
    exact q
theorem Zjo:CallR X (.builtin "len") (fun xs H Q=>∃p ys,xs=[.ref p]∧(SqL X.K H p ys∨SqT X.K H p ys)∧Q (.int ys.length) H):=by
  intro pins s σ H xs us Q I r h
  obtain ⟨p,ys,rfl,hq,q⟩:=h
  obtain ⟨u,rfl,rx⟩:=Zfv r
  cases rx
  have hn:=Zgm
  rcases hq with hq | hq
  · obtain ⟨its,r',pl,hz⟩:=I.list hq
    have hlen:=r'.length
    exact Calls.call_len_list pl.isList (by simp only [List.size_toArray]<;>omega) ⟨.int ys.length,H,I.tok _,⟨s.toks+1,by rw [List.size_toArray,hlen]⟩,q⟩
  · obtain ⟨its,r',pl,hz⟩:=I.tuple hq
    have hlen:=r'.length
    exact len_tuple pl (by simp only [List.size_toArray]<;>omega) ⟨.int ys.length,H,I.tok _,⟨s.toks+1,by rw [List.size_toArray,hlen]⟩,q⟩
theorem call_len_str:CallR X (.builtin "len") (fun xs H Q=>∃z,xs=[.str z]∧z.length≤sizeLine∧Q (.int z.length) H):=by
  intro pins s σ H xs us Q I r h
  obtain ⟨z,rfl,hz,q⟩:=h
  obtain ⟨u,rfl,t,rfl⟩:=Zfv r
  have hn:=Zgm
  exact len_str (by omega) ⟨.int z.length,H,I.tok _,⟨_,rfl⟩,q⟩
theorem CallR.or {f:Value} {r r':List V→Hp→VK→Prop} (h:CallR X f r) (h':CallR X f r'):CallR X f (fun xs H Q=>r xs H Q∨r' xs H Q):=by
  intro pins s σ H xs us Q I rs q
  rcases q with q | q
  · exact h pins s σ H xs us Q I rs q
  · exact h' pins s σ H xs us Q I rs q
theorem Zjn:CallR X (.type "list") (fun xs H Q=>∃p ys,xs=[.ref p]∧(SqL X.K H p ys∨SqT X.K H p ys)∧∀l,H l=none→Q (.ref l) (upd H l (.lst ys))):=by
  intro pins s σ H xs us Q I r h
  obtain ⟨p,ys,rfl,hq,q⟩:=h
  obtain ⟨u,rfl,rx⟩:=Zfv r
  cases rx
  have fin:∀(its:List Value),Vals ys its→ys.length≤sizeLine→∀(h':Heap) (c':Nat),(∀b o',s.heap.get? b=some o'→h'.get? b=some o')→
      h'.get? s.heap.objs.size=some { cls:=.type "list",dict:=none,data:=.seq its.toArray c',slots:=#[] }→EP X pins σ Q (.ref s.heap.objs.size) { s with heap:=h' }:=fun its r' hz h' c' kp e=>
    ⟨.ref s.heap.objs.size,_,I.laid (t':=s.toks) kp (Nat.le_refl _) (show ObjOk X.prog X.w _ h' _ (.lst ys) from ⟨hz,its,c',r',e⟩),rfl,q _ (I.hok.fresh (Nat.le_refl _))⟩
  rcases hq with hq | hq
  · obtain ⟨its,r',pl,hz⟩:=I.list hq
    have hlen:=r'.length
    obtain ⟨o,ho,hc,n,hd⟩:=pl.isList
    exact call_list_seq p (.inl rfl) ho hc hd (fun h' c' kp e=>fin its r' hz h' c' kp e) (by simp only [List.size_toArray]<;>omega)
  · obtain ⟨its,r',pl,hz⟩:=I.tuple hq
    have hlen:=r'.length
    obtain ⟨o,ho,hc,n,hd⟩:=pl
    exact call_list_seq p (.inr rfl) ho hc hd (fun h' c' kp e=>fin its r' hz h' c' kp e) (by simp only [List.size_toArray]<;>omega)
theorem Zii:CallR X (.type "tuple") (fun xs H Q=>∃p ys,xs=[.ref p]∧((SqL X.K H p ys∧∀l,H l=none→Q (.ref l) (upd H l (.tup ys)))∨(SqT X.K H p ys∧Q (.ref p) H))):=by
  intro pins s σ H xs us Q I r h
  obtain ⟨p,ys,rfl,h⟩:=h
  obtain ⟨u,rfl,rx⟩:=Zfv r
  cases rx
  rcases h with ⟨hq,q⟩ | ⟨hq,q⟩
  · obtain ⟨its,r',pl,hz⟩:=I.list hq
    have hlen:=r'.length
    refine call_tuple_list pl.isList (fun h' kp=>?_) (by simp only [List.size_toArray]<;>omega)
    have I1:Inv X pins σ H { s with heap:=h' }:=I.kept (t':=s.toks) kp
    have I2:Inv X pins σ (upd H h'.objs.size (.tup ys)) { s with heap:=h'.push { cls:=.type "tuple",data:=.seq its.toArray } }:=
      I1.laid (t':=s.toks) (fun b o e=>Heap.get?_push_of_some _ e) (Nat.le_refl _) (show ObjOk X.prog X.w _ _ _ (.tup ys) from ⟨hz,its,r',IsTup.new _ _⟩)
    exact ⟨.ref h'.objs.size,_,I2,rfl,q _ (I1.hok.fresh (Nat.le_refl _))⟩
  · obtain ⟨its,r',pl,hz⟩:=I.tuple hq
    exact call_tuple_same pl ⟨.ref p,H,I,rfl,q⟩
def tyV (K:PySem.W.Frag) (T:String) (x:V) (H:Hp):Prop:=match x with
  | .str _=>T = "str"
  | .int _=>T = "int"
  | .ref p=>(T = "list"∧∃xs,SqL K H p xs)∨(T = "tuple"∧∃o,K.lookup p=some o∧o.cls=.type "tuple"∧o.dict=none)∨
      (T = "dict"∧((∃kvs,H p=some (.dK kvs))∨∃kvs,H p=some (.dT kvs)))∨(T = "set"∧∃S n,H p=some (.set S n))
  | _=>False
theorem Zs8 {pins:List (Addr×Obj)} {σ:St} {H:Hp} {s:Shared} {T:String} {x:V} {v:Value} (I:Inv X pins σ H s) (r:RelV x v) (ty:tyV X.K T x H) :
    s.TypeIs v T∧∀a,v=.ref a→∃ob,s.heap.get? a=some ob∧ob.dict=none:=by
  cases x with
  | str z=>
    obtain ⟨t,rfl⟩:=r
    cases (show T = "str" from ty)
    exact ⟨typeIs_str s z t,fun _ e=>nomatch e⟩
  | int i=>
    obtain ⟨t,rfl⟩:=r
    cases (show T = "int" from ty)
    exact ⟨typeIs_int s i t,fun _ e=>nomatch e⟩
  | ref p=>
    cases r
    rcases ty with ⟨rfl,xs,hq⟩ | ⟨rfl,o,hk,hc,hd⟩ | ⟨rfl,hk⟩ | ⟨rfl,S,n,hk⟩
    · obtain ⟨its,_,pl,_⟩:=I.list hq
      refine ⟨pl.isList.typeIs,fun a e=>?_⟩
      cases e
      obtain ⟨o,n,e,c,hd,_⟩:=pl
      exact ⟨o,e,hd⟩
    · refine ⟨⟨o,I.kIn p o hk,hc⟩,fun a e=>?_⟩
      cases e
      exact ⟨o,I.kIn _ o hk,hd⟩
    · have z:∃o,s.heap.get? p=some o∧o.ExactDict:=by
        rcases hk with ⟨kvs,hk⟩ | ⟨kvs,hk⟩
        · obtain ⟨_,_,_,_,o,_,_,e,ex,_⟩:=I.hok p _ hk
          exact ⟨o,e,ex⟩
        · obtain ⟨_,_,_,_,o,_,_,e,ex,_⟩:=I.hok p _ hk
          exact ⟨o,e,ex⟩
      obtain ⟨o,e,ex⟩:=z
      refine ⟨⟨o,e,ex.1⟩,fun a e2=>?_⟩
      cases e2
      exact ⟨o,e,ex.2.1⟩
    · obtain ⟨o,_,_,_,e,ex,_⟩:=I.hok p _ hk
      refine ⟨⟨o,e,ex.1⟩,fun a e2=>?_⟩
      cases e2
      exact ⟨o,e,ex.2.1⟩
  | _=>exact False.elim ty
def tBM (K:PySem.W.Frag) (T:String) (r:V→List V→Hp→VK→Prop) (to:TE) (t:TA):TE:=fun σ H Q=>to σ H fun x H1=>tyV K T x H1∧t σ H1 fun xs H2=>r x xs H2 Q
variable {o e:Expr} {es:List Expr} {to:TE} {t:TA} {name:Str} {apos cpos:Pos} {T id:String} {r:V→List V→Hp→VK→Prop}
theorem ZsN (pa:PlainAttrs T) (slot:Slot T name id) (hty:typeOf (.builtin id)=pure (.type "method_descriptor")) (hm:MtR X id r) (ho:PE X o to) (ha:PA X (e::es) t)
    (hbase:attributeBase o name X.env (eval o X.env)=eval o X.env:=by rfl)
    (hfew:((backTo cpos (starEach (e::es) X.env)).all (fun x=>!x.1) && (backToKw cpos (keywordEach [] X.env)).all (fun x=>x.1.isSome)
      && decide ((e::es).length+([]:List Keyword).length+(if ([]:List Keyword).isEmpty then 0 else 1)<30))=true:=by rfl)
    (hline:(apos.endLine == cpos.line)=true:=by rfl) (hs:starEach (e::es) X.env=(false,eval e X.env)::starEach es X.env:=by rfl) (hplain:(backTo cpos (starEach es X.env)).any (·.1)=false:=by rfl) :
    PE X (.Call (.Attribute o name apos) (e::es) [] cpos) (tBM X.K T r to t):=by
  intro pins s σ H Q I h
  refine wpAny_Call_method_late hbase hfew hline rfl (thn (ho pins s σ H _ I h) fun v s1 ⟨x,H1,I1,r1,ty,q1⟩=>?_)
  obtain ⟨h1,h2⟩:=Zs8 I1 r1 ty
  refine ⟨T,id,pa,slot,hty,h1,h2,?_⟩
  have hA:=ha cpos pins s1 σ H1 _ I1 q1
  rw [hs] at hA ⊢
  refine Calls.callWith_builtin (by show (false || (backTo cpos (starEach es X.env)).any (·.1))=false; rw [hplain]<;>rfl) (Calls.evalArgs_plain ?_)
  exact thn hA fun us s2 ⟨vs,H2,I2,r2,q2⟩=>hm pins s2 σ H2 x vs v us Q I2 r1 r2 q2
end
end L2
namespace L2
open PySem PySem.Spec PyProof.Rows
def MtM (X:Cx) (id:String) (r:V→List V→Hp→VK→Prop):Prop:=
  ∀(pins:List (Addr×Obj)) (s:Shared) (σ:St) (H:Hp) (x:V) (xs:List V) (v:Value) (us:List Value) (Q:VK),Inv X pins σ H s→RelV x v→Vals xs us→r x xs H Q→
    wpAny (model X.prog X.w) X.A (call (.builtin id) (v::us)) (EP X pins σ Q) X.xe s
theorem Vals.one:∀{x:V} {us:List Value},Vals [x] us→∃u,us=[u]∧RelV x u
  | _,_,.cons r .nil=>⟨_,rfl,r⟩
theorem Vals.two:∀{x y:V} {us:List Value},Vals [x,y] us→∃u v,us=[u,v]∧RelV x u∧RelV y v
  | _,_,_,.cons r (.cons q .nil)=>⟨_,_,rfl,r,q⟩
theorem Vals.zero:∀{us:List Value},Vals [] us→us=[]
  | _,.nil=>rfl
theorem Vals.rep {xs:List V} {us:List Value} (h:Vals xs us):∀k:Nat,Vals (List.replicate k xs).flatten (List.replicate k us).flatten
  | 0=>.nil
  | k+1=>by
    rw [List.replicate_succ,List.replicate_succ,List.flatten_cons,List.flatten_cons]
    exact Vals.append h (Vals.rep h k)
theorem Ze9 (its:List Value):∀(k:Nat) (acc:List Value),
    List.foldl (fun x1 x2=>x1++x2) acc.toArray (List.replicate k its.toArray)=(acc++(List.replicate k its).flatten).toArray
  | 0,acc=>by simp
  | k+1,acc=>by
    have e:acc.toArray++its.toArray=(acc++its).toArray:=by simp
    have e2:(acc++its)++(List.replicate k its).flatten=acc++(List.replicate (k+1) its).flatten:=by
      rw [List.replicate_succ,List.flatten_cons,List.append_assoc]
    rw [←e2,←Ze9 its k (acc++its),←e,List.replicate_succ,List.foldl_cons]
section
variable {X:Cx} {pins:List (Addr×Obj)} {σ:St} {H:Hp} {s:Shared} {l b:Addr} {xs ys zs:List V}
theorem Inv.lset {its its':List Value} {n:Nat} {f:Array Value→Array Value} {t':Nat} (I:Inv X pins σ H s) (hH:H l=some (.lst xs))
    (e:s.heap.get? l=some { cls:=.type "list",data:=.seq its.toArray n }) (hf:f its.toArray=its'.toArray) (hv:Vals ys its') (hz:ys.length≤sizeLine) :
    Inv X pins σ (upd H l (.lst ys)) { s with heap:=s.heap.update l (Obj.mapSeq f),toks:=t' }:=by
  have q:=PySem.IsL.update e f
  rw [hf] at q
  refine I.write (x:=l) (e:=l) (by rw [hH]; exact trivial) (.inl rfl) (fun b' u hb hu=>(Heap.get?_update_other s.heap (Obj.mapSeq f) (Ne.symm hb)).trans hu) ⟨_,q⟩ ?_
  exact ⟨hz,its',_,hv,q⟩
theorem Inv.lnew {its:List Value} {t':Nat} (I:Inv X pins σ H s) (hv:Vals ys its) (hz:ys.length≤sizeLine) :
    Inv X pins σ (upd H s.heap.objs.size (.lst ys)) { s with heap:=s.heap.push { cls:=.type "list",data:=.seq its.toArray },toks:=t' }:=
  I.laid (fun _ _ q=>Heap.get?_push_of_some _ q) (Nat.le_refl _) ⟨hz,its,0,hv,Heap.get?_push_size _ rfl⟩
theorem Inv.fresh (I:Inv X pins σ H s):H s.heap.objs.size=none:=I.hok.fresh (Nat.le_refl _)
theorem Inv.lstM (I:Inv X pins σ H s) (hH:H l=some (.lst xs)):xs.length≤sizeLine∧∃(its:List Value) (n:Nat),Vals xs its∧xs.length=its.length∧s.heap.get? l=some { cls:=.type "list",data:=.seq its.toArray n }:=by
  obtain ⟨z,its,n,r,e⟩:=I.hok l _ hH
  exact ⟨z,its,n,r,r.length,e⟩
theorem ZfN {n:Nat} (h:n≤sizeLine):Builtin.List.listTooLong n=false:=by
  unfold Builtin.List.listTooLong
  exact decide_eq_false (by omega)
end
section
variable {X:Cx}
def Zmx:V→List V→Hp→VK→Prop:=fun x vs H Q=>∃l xs y,x=.ref l∧vs=[y]∧H l=some (.lst xs)∧xs.length<sizeLine∧Q .non (upd H l (.lst (xs++[y])))
theorem ZiB:MtM X "list.append" Zmx:=by
  intro pins s σ H x vs v us Q I rx rv h
  obtain ⟨l,xs,y,rfl,rfl,hH,hz,q⟩:=h
  cases rx
  obtain ⟨u,rfl,ru⟩:=rv.one
  obtain ⟨z,its,n,r,hl,e⟩:=I.lstM hH
  refine call_meets F.slot_list_append ⟨_,e,rfl⟩ F.entry_list_append (F.args_list_append_2 _ _) (PySem.list_append l its.toArray n u (by rw [List.size_toArray]; omega)) ⟨e,?_⟩
  refine ⟨.non,_,I.lset (its':=its++[u]) hH e (by simp) (r.append (.cons ru .nil)) ?_,rfl,q⟩
  rw [List.length_append,List.length_singleton]
  omega
def Zrv:V→List V→Hp→VK→Prop:=fun x vs H Q=>∃l b xs zs,x=.ref l∧vs=[.ref b]∧H l=some (.lst xs)∧H b=some (.lst zs)∧xs.length+zs.length≤sizeLine∧Q .non (upd H l (.lst (xs++zs)))
theorem ZuF:MtM X "list.extend" Zrv:=by
  intro pins s σ H x vs v us Q I rx rv h
  obtain ⟨l,b,xs,zs,rfl,rfl,hH,hB,hz,q⟩:=h
  cases rx
  obtain ⟨u,rfl,ru⟩:=rv.one
  cases ru
  obtain ⟨z,its,n,r,hl,e⟩:=I.lstM hH
  obtain ⟨z2,its2,n2,r2,hl2,e2⟩:=I.lstM hB
  have hsz:its.toArray.size+its2.toArray.size≤sizeLine:=by rw [List.size_toArray,List.size_toArray]; omega
  have hlong:¬(!its.toArray.isEmpty && Builtin.List.listTooLong (its.toArray.size+its2.toArray.size))=true:=by
    rw [ZfN hsz,Bool.and_false]
    exact Bool.false_ne_true
  refine call_meets F.slot_list_extend ⟨_,e,rfl⟩ F.entry_list_extend (F.args_list_extend_2 _ _)
    (AutoSeq1.list_extend_list_list_0 l its.toArray n b its2.toArray n2 hlong (by rw [List.size_toArray]; omega) (by omega)) ⟨e,e2,?_⟩
  refine ⟨.non,_,I.lset (its':=its++its2) hH e (by simp) (r.append r2) ?_,rfl,q⟩
  rw [List.length_append]
  omega
def Zza:R2:=fun x y H Q=>∃l b xs zs,x=.ref l∧y=.ref b∧H l=some (.lst xs)∧H b=some (.lst zs)∧xs.length+zs.length≤sizeLine∧∀p,H p=none→Q (.ref p) (upd H p (.lst (xs++zs)))
theorem Zt1:OpR X (binaryOp .Add) Zza:=by
  intro pins s σ H x y v u Q I rx ry h
  obtain ⟨l,b,xs,zs,rfl,rfl,hH,hB,hz,q⟩:=h
  cases rx
  cases ry
  obtain ⟨z,its,n,r,hl,e⟩:=I.lstM hH
  obtain ⟨z2,its2,n2,r2,hl2,e2⟩:=I.lstM hB
  refine PySem.P.add_list e e2 ?_ (by rw [List.size_toArray,List.size_toArray]; omega)
  have ea:its.toArray++its2.toArray=(its++its2).toArray:=by simp
  rw [ea]
  exact ⟨.ref _,_,I.lnew (t':=s.toks) (r.append r2) (by rw [List.length_append]; omega),rfl,q _ I.fresh⟩
def Zy9:R2:=fun x y H Q=>∃l k xs,x=.ref l∧y=.int k∧H l=some (.lst xs)∧-(2 ^ 63)≤k∧k<2 ^ 63∧xs.length*k.toNat≤sizeLine∧
  ∀p,H p=none→Q (.ref p) (upd H p (.lst (List.replicate k.toNat xs).flatten))
theorem Zje {α:Type} (xs:List α) (k:Nat):(List.replicate k xs).flatten.length=k*xs.length:=by
  induction k with
  | zero=>simp
  | succ k ih=>rw [List.replicate_succ,List.flatten_cons,List.length_append,ih,Nat.succ_mul,Nat.add_comm]
theorem ZtW:OpR X (binaryOp .Mult) Zy9:=by
  intro pins s σ H x y v u Q I rx ry h
  obtain ⟨l,k,xs,rfl,rfl,hH,h1,h2,hz,q⟩:=h
  cases rx
  obtain ⟨t,rfl⟩:=ry
  obtain ⟨z,its,n,r,hl,e⟩:=I.lstM hH
  have hlen:its.toArray.size*k.toNat≤sizeLine:=by rw [List.size_toArray,←hl]; exact hz
  have hcap:¬its.toArray.size*k.toNat > (2 ^ 63-1)/8:=by
    have:(sizeLine:Nat)≤(2 ^ 63-1)/8:=by decide
    omega
  have hfit:¬(!Builtin.List.listFitsIndex k)=true:=by
    rw [fitsIndex_both h1 h2]
    exact Bool.false_ne_true
  have hlong:¬Builtin.List.listTooLong (its.toArray.size*k.toNat)=true:=by
    rw [ZfN hlen]
    exact Bool.false_ne_true
  have hnew:List.foldl (fun x1 x2=>x1++x2) #[] (List.replicate (if its.toArray.isEmpty=true then 0 else k.toNat) its.toArray)=(List.replicate k.toNat its).flatten.toArray:=by
    have f0:∀m:Nat,List.foldl (fun x1 x2=>x1++x2) #[] (List.replicate m its.toArray)=(List.replicate m its).flatten.toArray:=fun m=>by
      have:=Ze9 its m []
      rw [List.nil_append] at this
      exact this
    rw [f0]
    cases its with
    | nil=>simp
    | cons a r'=>rw [if_neg (by simp)]
  refine wpAny_binaryOp_repeat_ref (T:="list") (U:="int") (by decide) ⟨_,e,rfl⟩ (fun s'=>typeIs_int s' k t) noFill_list_mul F.fills_int_mul F.slot_int_rmul repeat_list F.slot_int_index.lookup
    (call_meets F.slot_int_rmul (typeIs_int s k t) F.entry_int_rmul (F.args_int_rmul_2 _ _) (int___rmul___int_list k t l its.toArray n)
      ⟨e,rfl,⟨_,e,rfl⟩,call_meets F.slot_list_mul ⟨_,e,rfl⟩ F.entry_list_mul (F.args_list_mul_2 _ _) (AutoListH.list___mul___list_int_3 l its.toArray n k t hfit hcap hlong) ⟨e,?_⟩⟩)
  rw [hnew]
  exact ⟨.ref _,_,I.lnew (t':=s.toks) (r.rep k.toNat) (by rw [Zje,Nat.mul_comm]; exact hz),rfl,q _ I.fresh⟩
end
section
variable {prog:Program} {w:World} {A:Around} {E:Value→Shared→Prop} {s:Shared}
theorem Zmf {a c n:Nat} (hac:a≤c) (hc:c≤n):sliceBounds (some (a:Int)) (some (c:Int)) none n=((a:Int),(c:Int),1):=by
  simp only [sliceBounds,Option.getD_none]
  have h1:¬((a:Int)<0):=by omega
  have h2:¬((c:Int)<0):=by omega
  simp only [h1,h2,if_false,show (1:Int) > 0 by decide,if_true]
  congr 1
  · omega
  · congr 1; omega
set_option maxRecDepth 100000 in
theorem Zq7 {l b sl:Addr} {items new:Array Value} {n n2:Nat} {vl vu:Value} {a c:Nat} {Q:Unit→Shared→Prop}
    (e:s.heap.get? l=some { cls:=.type "list",data:=.seq items n }) (e2:s.heap.get? b=some { cls:=.type "list",data:=.seq new n2 }) (hne:l≠b)
    (hs:s.heap.IsSliceOf sl vl vu .none) (pl:IsPart vl (some (a:Int))) (pu:IsPart vu (some (c:Int))) (hac:a≤c) (hc:c≤items.size)
    (hsz:items.size+new.size≤sizeLine) (h:Q () { s with heap:=s.heap.update l (Obj.mapSeq fun xs=>xs.extract 0 a++new++xs.extract c xs.size) }) :
    wpAny (model prog w) A (setItem (.ref l) (.ref sl) (.ref b)) Q E s:=by
  have hl:s.heap.IsList l items:=PySem.IsL.isList e
  have hb:s.heap.IsList b new:=PySem.IsL.isList e2
  obtain ⟨os,hos,hcs,hds⟩:=id hs
  have hTs:s.TypeIs (.ref sl) "slice":=⟨os,hos,hcs⟩
  have hstep:¬((rawPart none == rawInt 0)=true):=Bool.false_ne_true
  have hsame:Builtin.List.listSameRef (.ref l) (.ref b)=false:=by
    unfold Builtin.List.listSameRef
    exact beq_eq_false_iff_ne.mpr hne
  have hmax:(max (a:Int) (c:Int)).toNat=c:=by omega
  have hz':((fun xs:Array Value=>xs.extract 0 a++new++xs.extract c xs.size) items).size≤sizeLine+1:=by
    simp only [Array.size_append,Array.size_extract]
    omega
  unfold setItem
  try with_reducible refine wpAny_holding ?_
  first | refine wpAny_bind (wpAny_pure ?_) | skip
  refine wpAny_bind (wpAny_sequenceKey hl.typeIs (by decide) ?_)
  refine wpAny_bind (wpAny_callSpecial?_slot (name:=Str.ofString "__setitem__") hl.typeIs slot_list_setitem
    (wpAny_call_entry slot_list_setitem hl.typeIs entry_list_setitem ?_ (args_list_setitem _ _ _)))
  show wpAny _ _ (Builtin.List.listSubscript? (.ref sl) >>= _) _ _ s
  refine wpAny_bind ?_
  unfold Builtin.List.listSubscript?
  refine wpAny_bind (wpAny_specialOf hTs slice_no_index ?_)
  simp only [Option.isNone_none,if_true]
  refine wpAny_pure ?_
  show wpAny _ _ (typeOf (.ref sl) >>= _) _ _ s
  refine wpAny_bind (wpAny_typeOf hTs ?_)
  first
    | rw [if_neg (by decide)]
    | refine PySem.W.KFB.if_not (by decide) ?_
  rw [listSliceParts_eq]
  refine wpAny_bind (wpAny_bind (wpAny_field hos hds (x:=.none) rfl (wpAny_bind (wpAny_listPart .none ?_))))
  rw [if_neg hstep]
  refine wpAny_bind (wpAny_field hos hds (x:=vl) rfl (wpAny_bind (wpAny_listPart pl ?_)))
  refine wpAny_bind (wpAny_field hos hds (x:=vu) rfl (wpAny_bind (wpAny_listPart pu (wpAny_pure ?_))))
  first
    | simp only [hsame,Bool.false_eq_true,if_false]
    | refine PySem.W.KFB.if_not hsame ?_
    | (dsimp only
       rw [if_neg (by rw [hsame]; exact Bool.false_ne_true)])
  refine wpAny_bind (m:=Builtin.List.listAllItems (.ref b) "must assign iterable to extended slice") ?_
  unfold Builtin.List.listAllItems
  refine wpAny_bind (wpAny_typeOf hb.typeIs ?_)
  first
    | refine PySem.W.KFB.if_so (by decide) ?_
    | rw [if_pos (by decide)]
    | simp only [beq_self_eq_true,Bool.true_or,if_true]
  unfold Builtin.List.listItems
  refine wpAny_bind (wpAny_seqItems e2 rfl (wpAny_pure ?_))
  refine wpAny_bind (wpAny_bind (wpAny_seqItems e rfl (wpAny_pure ?_)))
  refine wpAny_bind (wpAny_of_eq ((sliceIndices_raw (some (a:Int)) (some (c:Int)) none items.size (by simp)).trans (congrArg (pure:Int×Int×Int→Sem (Int×Int×Int)) (Zmf hac hc))) ?_)
  show wpAny _ _ (if ((1:Int) == 1)=true then _ else _) _ _ s
  rw [if_pos (by decide)]
  refine wpAny_bind (wpAny_rule ?_)
  first
    | simp only [ZfN hsz,Bool.false_eq_true,if_false]
    | refine PySem.W.KFB.if_not (ZfN hsz) ?_
  first | refine wpAny_bind (wpAny_pure ?_) | skip
  show wpAny _ _ (updateSeq l (fun xs=>xs.extract 0 ((a:Int)).toNat++new++xs.extract (max (a:Int) (c:Int)).toNat xs.size) >>= _) _ _ s
  rw [hmax,Int.toNat_natCast]
  refine wpAny_bind (wpAny_updateSeq (hz:=Nat.le_trans (Nat.le_add_right _ _) hsz) (_hz':=hz') e rfl ?_)
  refine wpAny_bind (wpAny_letGo ?_)
  first
    | exact wpAny_bind (wpAny_pure (wpAny_pure ⟨.none,rfl,wpAny_pure h⟩))
    | exact wpAny_pure ⟨.none,rfl,wpAny_pure h⟩
end
section
variable {X:Cx}
end
end L2
namespace Att
open PySem PySem.W PySem.Calls PyProof.Rows
theorem Zha {P:Params} {h:Heap}:∀(ns:List Int) (vs:List Value),WellAll P h vs (ns.map WData.int)→IntsAre vs ns:=by
  intro ns
  induction ns with
  | nil=>
    intro vs w
    rw [List.map_nil] at w
    cases w
    exact .nil
  | cons n ns ih=>
    intro vs w
    rw [List.map_cons] at w
    cases w with
    | cons a b=>
      cases a
      exact .cons _ _ (ih _ b)
theorem Znn {l:OpenLaw} {n:Nat} (hn:l.most=some n) {P:Params} {h:Heap} {args:List WData} {vals:List Value}
    (hpre:l.row.toRowW.claim.pre args=true) (hwl:WellAll P h vals args) :
    ∃a vs ns,vals=[Value.ref a]∧args=[WData.list (ns.map WData.int)]∧h.get? a=some { cls:=.type "list",data:=.seq vs.toArray }∧IntsAre vs ns∧ns.length≤n:=by
  have hsh:WShape.hasAll [] args [.list .int]=true:=(pre_splitW hpre).1
  have hc:l.pre.holds [] { args:=args }=true:=(pre_splitW hpre).2
  obtain ⟨d,r,rfl,h1,h2⟩:=hasAllW_cons hsh
  obtain rfl:=hasAllW_nil h2
  obtain ⟨xs,rfl,h3⟩:=hasW_list h1
  obtain ⟨ns,rfl⟩:=items_int h3
  have hlen:ns.length≤n:=by
    unfold OpenLaw.pre at hc
    have h4:(WTm.not (.lt (.lit (.int (n:Int))) (.len (.arg 0)))).holds [] { args:=[.list (ns.map .int)] }=true:=by
      have h4:=(holds_andW hc).1
      rw [hn] at h4
      exact h4
    have h5:=condW_of h4 (w_not (w_lt w_lit (w_len_list (w_arg rfl))))
    rw [List.length_map] at h5
    refine Nat.le_of_not_lt fun q=>?_
    have q':(n:Int)<((ns.length:Nat):Int):=by omega
    first
      | (rw [decide_eq_true q'] at h5; exact absurd h5 (by decide))
      | (simp at h5; omega)
  cases hwl with
  | cons w1 w2=>
    cases w2
    cases w1 with
    | list ho hall=>exact ⟨_,_,ns,rfl,rfl,ho,Zha ns _ hall,hlen⟩
theorem Zno (l:OpenLaw) (args:List WData):l.row.toRowW.claim.post args (.bool true) args=true:=
  postW_of (r:=l.row.toRowW) (X:=(true == true))
    (show WShape.has [] (.bool true) .bool=true by first | rfl | decide | simp [WShape.has,WShape.arms,WShape.armsAll])
    (show (WTm.eq .res (.lit (.bool true))).value [] { args:=args,res:=some (.bool true),after:=args }=some (.bool (true == true)) from w_eq_bool (w_res rfl) w_lit) rfl
theorem attach_call {l:OpenLaw} {n:Nat} {q:Program} {loose:List Str} {XP:(Str→Option Value)→Heap→Prop} {YP:World→Heap→Prop} {d:DefRec}
    (hn:l.most=some n) (hdf:d.params.defaults=[])
    (call:∀(w:World) (s₀ s₁:Shared) (mg mb:Str→Option Value) (fa:Addr) (o:Obj) (pm cd doc:Value) (a:Addr) (vs:List Value) (ns:List Int),
      Ground q loose [] XP w s₀ mg mb s₁.heap→YP w s₁.heap→
      s₁.heap.get? fa=some o→o.data=.func (docDef d.name d.params d.body d.scope pm cd doc)→s₁.heap.CodeRec cd d.name→mg d.name=some (.ref fa)→
      s₁.heap.get? a=some { cls:=.type "list",data:=.seq vs.toArray }→IntsAre vs ns→ns.length≤n→s₁.gens=#[]→
      codeAny (model l.prog w) callerA (.call (.ref fa) ⟨[.ref a],[]⟩) (fun r s'=>r=.ok (.ret (.bool true))∧OldK s₁.heap s'.heap∧s'.os=s₁.os∧AllBare s'.gens) s₁) :
    WalkO q loose XP YP l.row.toRowW d [] (fun f vs=>PySem.call f vs):=by
  intro w s₀ s₁ mg mb G Y fa o pm cd doc dV kV ho hd hcd hD hmg hg args vals as hpre hlay hrd hwl hlo
  obtain rfl:dV=.none:=Dflts.none hD hdf
  obtain rfl:kV=.none:=Dflts.noKw hD
  obtain ⟨a,vs,ns,rfl,rfl,hobj,hints,hlen⟩:=Znn hn hpre hwl
  refine enter_call (codeAny_mono (call w s₀ s₁ mg mb fa o pm cd doc a vs ns G Y ho (fd_plain hd) hcd hmg hobj hints hlen hg) fun r s' hq=>?_)
  obtain ⟨rfl,h2,h3,h4⟩:=hq
  exact ⟨.inl ⟨.bool true,.bool true,[],rfl,fun _=>rfl,.bool true,Zno l _,fun _=>⟨List.Pairwise.nil,fun _ hm=>(nomatch hm)⟩⟩,h2,h3,h4⟩
section
variable {prog:Program} {w:World} {A:Around} {E:Value→Shared→Prop} {s:Shared} {K:Frag}
end
end Att
namespace L2
open PySem PySem.Spec PyProof.Rows
theorem Zil:∀{vs:List Value} {ns:List Int},IntsAre vs ns→Vals (ns.map V.int) vs
  | _,_,.nil=>.nil
  | _,_,.cons n t h=>.cons ⟨t,rfl⟩ (Zil h)
def Zsr (H:Hp):Prop:=∀b,H b=none∨∃o xs,H b=some (.frz o (.lst xs))
theorem Zqn {P:Program} {w:World} {K:PySem.W.Frag} {mg mb:Str→Option Value} {CX:CXT} {k:Nat} {fa a:Addr} {fd:FuncData} {x:Str} {sp:Sp} {s₁:Shared} {vs:List Value} {ns:List Int}
    (KX:K.In s₁.heap) (hns:s₁.heap.Ns mainGlobals mg) (hb:s₁.heap.Ns builtinsNs mb) (hbb:∀x:Str,x≠"__name__"→mb x=bootBuiltins x) (hlim:s₁.heap.NoLimit) (hg:s₁.gens=#[])
    (ha:s₁.heap.get? a=some { cls:=.type "list",data:=.seq vs.toArray }) (hi:IntsAre vs ns) (hl:ns.length≤sizeLine) (hr:Room k callerA)
    (F:∀base:Heap,K.In base→base.Ns mainGlobals mg→FnOk P w K mg base CX k fa fd [x] sp) (hbind:∀(s:Shared) (u:Value),BindsTo s fd ⟨[u],[]⟩ [(x,u)])
    (hsp:∀H:Hp,Zsr H→SqL K H a (ns.map V.int)→sp [.ref a] H (fun v _=>v=.bl true) fun _ _ _=>False)
    (hCX:∀H e s',CX [] H s₁ (fun _ _ _=>False) e s'→False) :
    codeAny (model P w) callerA (.call (.ref fa) ⟨[.ref a],[]⟩) (fun r s'=>r=.ok (.ret (.bool true))∧OldK s₁.heap s'.heap∧s'.os=s₁.os∧AllBare s'.gens) s₁:=by
  have rv:=Zil hi
  have lenV:=hi.length
  have core:∀H:Hp,Zsr H→SqL K H a (ns.map V.int)→HOk P w H s₁.heap→(∀b,H b≠none→b=a)→(H a≠none→K.lookup a=none)→
      codeAny (model P w) callerA (.call (.ref fa) ⟨[.ref a],[]⟩) (fun r s'=>r=.ok (.ret (.bool true))∧OldK s₁.heap s'.heap∧s'.os=s₁.os∧AllBare s'.gens) s₁:=by
    intro H hO hS hok hA hK
    have base_of:∀{b:Addr} {o:Obj},s₁.heap.get? b=some o→H b=none→(Zjj s₁.heap H).get? b=some o:=fun e n=>Zqt e n
    have noA:∀{b:Addr} {o:Obj} {es:Array DictEntry} {ep:Nat},s₁.heap.get? b=some o→o.data=.dict es ep→H b=none:=fun {b o es ep} e d=>by
      cases q:H b with
      | none=>rfl
      | some u=>
        have e':b=a:=hA b (by rw [q]; simp)
        subst e'
        rw [ha] at e; cases e
        have d':Data.seq vs.toArray _=Data.dict es ep:=d
        cases d'
    have nsK:∀{b:Addr} {m:Str→Option Value},s₁.heap.Ns b m→(Zjj s₁.heap H).Ns b m:=fun {b m} ⟨o,es,ep,e,d,r⟩=>⟨o,es,ep,base_of e (noA e d),d,r⟩
    have hKb:K.In (Zjj s₁.heap H):=fun b o e=>base_of (KX b o e) (by
      cases q:H b with
      | none=>rfl
      | some u=>
        have e':b=a:=hA b (by rw [q]; simp)
        subst e'
        rw [hK (by rw [q]; simp)] at e; cases e)
    have hM:Mod K mg (Zjj s₁.heap H):=⟨hKb,nsK hns,⟨mb,nsK hb,hbb⟩,let ⟨mc,h1,h2⟩:=hlim; ⟨mc,nsK h1,h2⟩⟩
    have e0:Env0 P w K mg (Zjj s₁.heap H) callerA [] s₁ H:=⟨rfl,hM,fun b o e=>ZrP e,Nat.le_of_eq (ZnG _ _),trivial,fun b hb=>absurd (show b∈([]:List Addr) from hb) (by simp),hok,.of_eq hg⟩
    refine codeAny_mono ((F _ hKb (nsK hns)).run callerA [] s₁ H ⟨[.ref a],[]⟩ [.ref a] [.ref a] _ _ hr e0 (hbind s₁ (.ref a)) (.cons rfl .nil) (hsp H hO hS)) fun r s' h=>?_
    cases r with
    | error e=>exact (hCX H e s' h).elim
    | ok fl=>
      cases fl with
      | next=>exact False.elim h
      | brk=>exact False.elim h
      | cont=>exact False.elim h
      | ret u=>
        obtain ⟨v,H',os,bare,un,hok',r',q⟩:=h
        have q':v=.bl true:=q
        subst q'
        obtain rfl:u=Value.bool true:=r'
        refine ⟨rfl,OldK.of_keep fun b o e=>?_,os,bare⟩
        cases q:H b with
        | none=>exact un.keep b o e q (by intro z; exact absurd (show b∈([]:List Addr) from z) (by simp)) (by simp)
        | some u=>
          rcases hO b with z | ⟨ob,xs,z⟩
          · rw [q] at z; cases z
          · have z2:=un.frzs b ob _ z
            obtain ⟨e1,_⟩:=hok b _ z
            obtain ⟨e2,_⟩:=hok' b _ z2
            rw [e] at e1; cases e1
            exact e2
  cases hk:K.lookup a with
  | some o=>
    have e:=KX a o hk
    rw [ha] at e
    cases e
    refine core (fun _=>none) (fun _=>.inl rfl) (.inr ⟨_,vs.toArray,_,hk,rfl,rfl,rfl,by rw [List.size_toArray,lenV]; exact hl,by simpa using rv⟩) (fun b u z=>by have z':(none:Option HO)=some u:=z; cases z') (fun b z=>absurd rfl z) fun z=>absurd rfl z
  | none=>
    refine core (fun b=>if b=a then some (.frz { cls:=.type "list",data:=.seq vs.toArray } (.lst (ns.map V.int))) else none) (fun b=>?_) (.inl (.inr ⟨{ cls:=.type "list",data:=.seq vs.toArray },if_pos rfl⟩)) (fun b u z=>?_) (fun b z=>?_) fun _=>hk
    · by_cases hb:b=a
      · exact .inr ⟨_,_,if_pos hb⟩
      · exact .inl (if_neg hb)
    · by_cases hb:b=a
      · have z':=(if_pos hb).symm.trans z
        cases z'
        subst hb
        exact ⟨ha,by rw [List.length_map]; exact hl,vs,_,rv,ha⟩
      · have z':=(if_neg hb).symm.trans z
        cases z'
    · by_cases hb:b=a
      · exact hb
      · exact absurd (if_neg hb) z
end L2
namespace L2
open PySem PySem.Spec PyProof.Rows
theorem Zra {l:PySem.W.OpenLaw} {n k:Nat} {q:Program} {loose:List Str} {XP:(Str→Option Value)→Heap→Prop} {YP:World→Heap→Prop} {d:DefRec} {K:Params→PySem.W.Frag} {CX:World→CXT} {sp:World→Sp} {x:Str}
    (hn:l.most=some n) (hn2:n≤sizeLine) (hdf:d.params.defaults=[]) (hr:Room k callerA)
    (hY:∀(w:World) (h:Heap),YP w h→(K w.params).In h)
    (F:∀(w:World) (mg:Str→Option Value) (fa:Addr) (h:Heap),(K w.params).In h→h.Ns mainGlobals mg→mg d.name=some (.ref fa)→
      ∃fd:FuncData,(∀(s:Shared) (u:Value),BindsTo s fd ⟨[u],[]⟩ [(x,u)])∧
        ∀base:Heap,(K w.params).In base→base.Ns mainGlobals mg→FnOk l.prog w (K w.params) mg base (CX w) k fa fd [x] (sp w))
    (hsp:∀(w:World) (H:Hp) (a:Addr) (ns:List Int),ns.length≤n→Zsr H→SqL (K w.params) H a (ns.map V.int)→sp w [.ref a] H (fun v _=>v=.bl true) fun _ _ _=>False)
    (hCX:∀(w:World) (H:Hp) (s:Shared) (e:Value) (s':Shared),CX w [] H s (fun _ _ _=>False) e s'→False) :
    PySem.W.WalkO q loose XP YP l.row.toRowW d [] (fun f vs=>PySem.call f vs):=by
  refine Att.attach_call hn hdf fun w s₀ s₁ mg mb fa o pm cd doc a vs ns G Y ho hd hcd hmg hobj hints hlen hg=>?_
  have KX:=hY w _ Y
  obtain ⟨fd,hb,hF⟩:=F w mg fa _ KX G.T.g hmg
  exact Zqn KX G.T.g G.T.b G.T.builtins G.T.nolimit hg hobj hints (Nat.le_trans hlen hn2) hr hF hb (fun H hO hS=>hsp w H a ns hlen hO hS) fun H e s'=>hCX w H s₁ e s'
end L2
namespace L2
open PySem PySem.Spec PyProof.Rows
def ZmT (s:Stmt) (j:Nat):Stmt:=match s with
  | .ClassDef _ _ _ body _ _ _ _ _ _ _=>body.getD j (.Pass ⟨0,0,0,0⟩)
  | _=>.Pass ⟨0,0,0,0⟩
def Zq (s:Stmt):Arguments:=match s with
  | .FunctionDef _ a _ _ _ _ _ _ _ _=>a
  | _=>{ posonlyargs:=[],args:=[],vararg:=none,kwonlyargs:=[],kw_defaults:=[],kwarg:=none,defaults:=[] }
def Zn (s:Stmt):List Stmt:=match s with
  | .FunctionDef _ _ b _ _ _ _ _ _ _=>b
  | _=>[]
def Zg (s:Stmt):Scope:=match s with
  | .FunctionDef _ _ _ _ _ _ sc _ _ _=>sc
  | _=>{ kind:=.function,names:=[],isGenerator:=false,isCoroutine:=false }
abbrev CX0:CXT:=fun _ _ _ _ _ _=>False
abbrev E0:XK:=fun _ _ _=>False
theorem ZpY {X:Cx}:ZgE CX0 X E0:=fun _ _ _ _ _ _ _ h=>h.elim
structure Fun (K:PySem.W.Frag) (x qual:Str) (st:Stmt) (f:Addr) (fd:FuncData):Prop where
  ex:∃(oc:Value) (od:Option Addr) (kV doc pm:Value) (an:Option Addr) (cdv ct:Value) (osl:Array (Option Value)),
    fd=PySem.W.fnOf x qual (Zq st) (Zn st) (Zg st) .none kV doc pm an cdv ct∧K.lookup f=some ⟨oc,od,.func fd,osl⟩∧PySem.W.codeIn K cdv qual=true
  kp:PySem.W.keepIn K (.ref f)=true
section
variable {P:Program} {w:World} {K:PySem.W.Frag} {mg:Str→Option Value} {base:Heap}
theorem Fun.ok {x qual:Str} {st:Stmt} {f:Addr} {fd:FuncData} {N ps:List Str} {k:Nat} {sp:Sp} (F:Fun K x qual st f fd) (S:Zo N ps (Zg st)) (len:∀vs H Q E,sp vs H Q E→vs.length=ps.length)
    (hbody:∀(cdv:Value) (A:Around) (outer:List Env) (s:Shared) (H:Hp) (vs:List V) (Q:VK) (E:XK),Room k (A.deeper (envOfC qual (Zg st) s.heap.objs.size f cdv))→sp vs H Q E→
      ∃t,PSs (Zhc CX0 P w K mg base N qual (Zg st) f cdv A outer s H E).nox (Zn st) t∧t { nx:=fun _ H'=>Q .non H',rt:=Q } (Zdz N vs) H):FnOk P w K mg base CX0 (k+1) f fd ps sp:=by
  obtain ⟨oc,od,kV,doc,pm,an,cdv,ct,osl,rfl,lk,hcd⟩:=F.ex
  refine ZvY lk hcd S len fun A outer s H vs Q E hr hsp=>?_
  obtain ⟨t,h,q⟩:=hbody cdv A outer s H vs Q E hr hsp
  exact ⟨t,h.nox,q⟩
theorem Fun.binds {x qual:Str} {st:Stmt} {f:Addr} {fd:FuncData} {ps:List Str} (F:Fun K x qual st f fd)
    (h:∀(kV doc pm:Value) (an:Option Addr) (cdv ct:Value) (us:List Value),us.length=ps.length→bindArgs (PySem.W.fnOf x qual (Zq st) (Zn st) (Zg st) .none kV doc pm an cdv ct) ⟨us,[]⟩=pure (ps.zip us)):Binds K fd ps []:=by
  obtain ⟨oc,od,kV,doc,pm,an,cdv,ct,osl,rfl,lk,hcd⟩:=F.ex
  exact .all (h kV doc pm an cdv ct)
theorem Zx {x qual:Str} {st:Stmt} {f:Addr} {oc:Value} {od an:Option Addr} {osl:Array (Option Value)} {kV doc pm cdv ct:Value} (l:K.lookup f=some ⟨oc,od,.func (PySem.W.fnOf x qual (Zq st) (Zn st) (Zg st) .none kV doc pm an cdv ct),osl⟩)
    (c:PySem.W.codeIn K cdv qual=true) (k:PySem.W.keepIn K (.ref f)=true):Fun K x qual st f (PySem.W.fnOf x qual (Zq st) (Zn st) (Zg st) .none kV doc pm an cdv ct):=⟨⟨oc,od,kV,doc,pm,an,cdv,ct,osl,rfl,l,c⟩,k⟩
end
section
variable {X:Cx}
end
def Same (H H':Hp):Prop:=∀b o,H b=some o→H' b=some o
theorem Same.refl (H:Hp):Same H H:=fun _ _ h=>h
theorem Same.trans {H H1 H2:Hp} (a:Same H H1) (b:Same H1 H2):Same H H2:=fun c o h=>b c o (a c o h)
theorem Same.free {H H':Hp} (e:Same H H') {l:Addr} (h:H' l=Option.none):H l=Option.none:=by
  cases q:H l with
  | none=>rfl
  | some o=>
    rw [e l o q] at h
    cases h
theorem Same.seq {K:PySem.W.Frag} {H H':Hp} {a:Addr} {xs:List V} (e:Same H H') (h:SqL K H a xs):SqL K H' a xs:=by
  rcases h with (h | ⟨o,h⟩) | h
  · exact .inl (.inl (e _ _ h))
  · exact .inl (.inr ⟨o,e _ _ h⟩)
  · exact .inr h
end L2
set_option Elab.async false
set_option linter.all false
set_option maxRecDepth 100000
namespace L2
open PySem PySem.Spec PyProof.Rows
section
variable {P:Program} {w:World} {K:PySem.W.Frag} {mg:Str→Option Value} {base:Heap}
def Def0 (K:PySem.W.Frag) (mg:Str→Option Value) (x:Str) (st:Stmt) (ps:List Str):Prop:=
  ∃(f:Addr) (fd:FuncData),Fun K x x st f fd∧Binds K fd ps []∧mg x=some (.ref f)
def Def (P:Program) (w:World) (K:PySem.W.Frag) (mg:Str→Option Value) (base:Heap) (k:Nat) (x:Str) (ps:List Str) (sp:Sp):Prop:=
  ∃(f:Addr) (fd:FuncData),FnOk P w K mg base CX0 k f fd ps sp∧Binds K fd ps []∧PySem.W.keepIn K (.ref f)=true∧mg x=some (.ref f)
theorem Def0.ok {x:Str} {st:Stmt} {N ps:List Str} {k:Nat} {sp:Sp} (D:Def0 K mg x st ps) (S:Zo N ps (Zg st)) (len:∀vs H Q E,sp vs H Q E→vs.length=ps.length)
    (hbody:∀(f:Addr) (cdv:Value) (A:Around) (outer:List Env) (s:Shared) (H:Hp) (vs:List V) (Q:VK) (E:XK),Room k (A.deeper (envOfC x (Zg st) s.heap.objs.size f cdv))→sp vs H Q E→
      ∃t,PSs (Zhc CX0 P w K mg base N x (Zg st) f cdv A outer s H E).nox (Zn st) t∧t { nx:=fun _ H'=>Q .non H',rt:=Q } (Zdz N vs) H):Def P w K mg base (k+1) x ps sp:=by
  obtain ⟨f,fd,F,b,m⟩:=D
  exact ⟨f,fd,F.ok S len (hbody f),b,F.kp,m⟩
theorem Def.mono {x:Str} {ps:List Str} {j k:Nat} {sp:Sp} (D:Def P w K mg base j x ps sp) (h:j≤k):Def P w K mg base k x ps sp:=by
  obtain ⟨f,fd,F,b,kp,m⟩:=D
  exact ⟨f,fd,F.mono h,b,kp,m⟩
end
section
variable {X:Cx} {k:Nat} {x:Str} {ps:List Str} {sp:Sp} {p pos:Pos} {e:Expr} {es:List Expr} {t:TA}
theorem ZpW {j:Nat} (D:Def X.prog X.w X.K X.mg X.base k x ps sp) (hr:Room j X.A) (hj:k≤j) (ha:PA X (e::es) t) (hg:Gl X x:=by rfl) (hdb:(x == ("__debug__":Str))=false:=by decide)
    (he:starEach (e::es) X.env=(false,eval e X.env)::starEach es X.env:=by rfl) (hpl:(backTo pos (starEach es X.env)).any (·.1)=false:=by rfl):PE X (.Call (.Name x p) (e::es) [] pos) (ZsH sp [] E0 t):=by
  obtain ⟨f,fd,F,b,kp,m⟩:=D
  exact ZrL F (hr.mono hj) hg m kp b .nil ZpY ha hdb he hpl
theorem ZrJ {i:Int} (h:∃t,X.mg x=some (.int i t)) (hg:Gl X x:=by rfl) (hd:(x == ("__debug__":Str))=false:=by decide):PE X (.Name x pos) (tC (.int i)):=by
  obtain ⟨t,h⟩:=h
  exact ZmC hg h ⟨t,rfl⟩ hd
def Zwb (_ j:Int):Prop:=0<j∧j.natAbs.log2<9000
theorem ZpZ:OpR X (binaryOp .FloorDiv) (rI Zwb fun i j=>.int (i/j)):=opI fun i j _ _ _ _ _ hc q=>by
  have h1:(0:Int)<j:=hc.1
  exact floordiv_int (by omega) (by rw [Int.fdiv_eq_ediv_of_nonneg i (by omega)]; exact q) (.inl (PyProof.noPylong_of_log2 hc.2))
theorem ZlC:CallR X (.builtin "isinstance") (fun xs H Q=>∃(x:V) (n:String) (t:Value) (b:Bool),xs=[x,.ty n]∧Zf7 X.K H x t∧PySem.W.kitOne X.K t (.type n)=some b∧Q (.bl b) H):=by
  intro pins s σ H xs us Q I r h
  obtain ⟨x,n,t,b,rfl,ty,e,q⟩:=h
  cases r with
  | cons rx rr=>
    cases rr with
    | cons ry rr=>
      cases rr
      cases ry
      exact ZnD I rx ty e fun tk=>⟨.bl b,H,I.tok tk,rfl,q⟩
theorem Zvs {x:Str} {n:String} {pos:Pos} (hm:X.mg x=none) (hv:bootBuiltins x=some (.type n)) (hg:Gl X x:=by rfl) (hn:x≠"__name__":=by decide) (hd:(x == ("__debug__":Str))=false:=by decide):PE X (.Name x pos) (tC (.ty n)):=
  ZrM hg hm hv rfl hn hd
end
end L2
set_option Elab.async false
set_option linter.all false
set_option maxRecDepth 100000
set_option maxHeartbeats 4000000
namespace L2
open PySem PySem.Spec PyProof.Rows
theorem ZfY {scope:Scope} {env:Env} (h:∀x∈scope.names,x.2=.free→∃c,env.cells.lookup x.1=some c) :
    ∃cl:List (Str×Addr),closureFor scope env=pure cl∧(∀n c,(n,c)∈cl→env.cells.lookup n=some c)∧∀x∈scope.names,x.2=.free→∃c,(x.1,c)∈cl:=by
  have key:∀(names:List (Str×NameKind)) (acc:List (Str×Addr)),(∀x∈names,x.2=.free→∃c,env.cells.lookup x.1=some c)→(∀n c,(n,c)∈acc→env.cells.lookup n=some c)→
      ∃cl:List (Str×Addr),(forIn names acc fun (x:Str×NameKind) (cs:List (Str×Addr))=>if (x.2 == NameKind.free)=true then (do let c ←cellOf env x.1; pure (ForInStep.yield ((x.1,c)::cs)):Sem _) else pure (ForInStep.yield cs))=(pure cl:Sem _)∧
        (∀n c,(n,c)∈cl→env.cells.lookup n=some c)∧(∀p∈acc,p∈cl)∧∀x∈names,x.2=.free→∃c,(x.1,c)∈cl:=by
    intro names
    induction names with
    | nil=>intro acc _ ha; exact ⟨acc,rfl,ha,fun _ p=>p,fun x hx=>nomatch hx⟩
    | cons y r ih=>
      intro acc hx ha
      obtain ⟨n,k⟩:=y
      by_cases hk:k=.free
      · subst hk
        obtain ⟨c,hc⟩:=hx (n,.free) List.mem_cons_self rfl
        obtain ⟨cl,e,h1,h2,h3⟩:=ih ((n,c)::acc) (fun x z=>hx x (List.mem_cons_of_mem _ z)) (fun m d z=>by
          rcases List.mem_cons.mp z with z | z
          · cases z; exact hc
          · exact ha m d z)
        refine ⟨cl,?_,h1,fun p z=>h2 p (List.mem_cons_of_mem _ z),fun x z zf=>?_⟩
        · have ec:cellOf env n=pure c:=by unfold cellOf; rw [hc]
          rw [List.forIn_cons]
          simp only [beq_self_eq_true,if_true,ec,pure_bind]
          exact e
        · rcases List.mem_cons.mp z with z | z
          · cases z; exact ⟨c,h2 _ List.mem_cons_self⟩
          · exact h3 x z zf
      · obtain ⟨cl,e,h1,h2,h3⟩:=ih acc (fun x z=>hx x (List.mem_cons_of_mem _ z)) ha
        refine ⟨cl,?_,h1,h2,fun x z zf=>?_⟩
        · have hb:(k == NameKind.free)=false:=by simpa using hk
          rw [List.forIn_cons]
          simp only [hb,Bool.false_eq_true,if_false,pure_bind]
          exact e
        · rcases List.mem_cons.mp z with z | z
          · cases z; exact absurd zf hk
          · exact h3 x z zf
  obtain ⟨cl,e,h1,_,h3⟩:=key scope.names [] h (fun n c z=>nomatch z)
  refine ⟨cl,?_,h1,h3⟩
  simp only [closureFor]
  rw [e]
  rfl
def Cx.comp (X:Cx) (scope:Scope) (N':List Str) (cl:List (Str×Addr)) (C:Addr) (s₀:Shared) (H₀:Hp) (fp:List Addr):Cx where
  prog:=X.prog
  w:=X.w
  K:=X.K
  mg:=X.mg
  base:=X.base
  A:=X.A
  N:=N'
  s₀:=s₀
  H₀:=H₀
  env:=compEnvC scope cl C X.env
  outer:=X.stack
  stack:=X.stack
  ex:=fp
  fn:=fun _=>false
  calm:=X.calm
  pn:=[]
  xe:=fun _ _=>False
def inner (src:List Nat) (σ:St) (x:Option V):St:=x::src.map fun j=>(σ[j]?).join
theorem ZhI {α:Type} {l:List (Str×α)} {n:Str} {c:α} (h:(n,c)∈l):∃d,l.lookup n=some d:=by
  induction l with
  | nil=>cases h
  | cons y r ih=>
    obtain ⟨m,d⟩:=y
    by_cases e:n == m
    · exact ⟨d,by rw [List.lookup_cons,e]⟩
    · rcases List.mem_cons.mp h with z | z
      · cases z; exact absurd (beq_self_eq_true n) e
      · obtain ⟨d',q⟩:=ih z
        exact ⟨d',by rw [List.lookup_cons,Bool.eq_false_iff.mpr e]; exact q⟩
theorem ZdU {env:Env} {n:Str}:∀{names:List (Str×NameKind)} {k:NameKind},(∀y∈names,y.2≠.cell)→
    (names.map fun (n,k)=>if (k == NameKind.free && env.scope.kind == .function && env.kindOf n == some .cell) then (n,NameKind.cell) else (n,k)).lookup n=some k→(k=.cell∨k=.free)→(n,NameKind.free)∈names
  | [],_,_,h,_=>by simp at h
  | (m,j)::r,k,hc,h,hk=>by
    have nc:j≠.cell:=hc (m,j) List.mem_cons_self
    rw [List.map_cons] at h
    by_cases e:n == m
    · have en:n=m:=by simpa using e
      subst en
      by_cases cnd:(j == NameKind.free && env.scope.kind == .function && env.kindOf n == some .cell)=true
      · have:j=.free:=by
          simp only [Bool.and_eq_true,beq_iff_eq] at cnd
          exact cnd.1.1
        rw [this]
        exact List.mem_cons_self
      · simp only [cnd] at h
        rw [if_neg (by simp),List.lookup_cons,beq_self_eq_true] at h
        cases h
        rcases hk with rfl | rfl
        · exact absurd rfl nc
        · exact List.mem_cons_self
    · refine List.mem_cons_of_mem _ (ZdU (env:=env) (k:=k) (fun y hy=>hc y (List.mem_cons_of_mem _ hy)) ?_ hk)
      rw [List.lookup_cons] at h
      have e2:(n == (if (j == NameKind.free && env.scope.kind == .function && env.kindOf m == some .cell)=true then (m,NameKind.cell) else (m,j)).1)=false:=by
        split<;>exact Bool.eq_false_iff.mpr e
      rw [e2] at h
      exact h
theorem ZfB {env:Env}:∀{names:List (Str×NameKind)} {x:Str},names.lookup x=some .free→
    (names.map fun (n,k)=>if (k == NameKind.free && env.scope.kind == .function && env.kindOf n == some .cell) then (n,NameKind.cell) else (n,k)).lookup x=some .cell∨
    (names.map fun (n,k)=>if (k == NameKind.free && env.scope.kind == .function && env.kindOf n == some .cell) then (n,NameKind.cell) else (n,k)).lookup x=some .free
  | [],_,h=>by simp at h
  | (n,k)::r,x,h=>by
    have ih:=@ZfB env r x
    rw [List.map_cons]
    cases hx:x == n with
    | true=>
      simp only [List.lookup_cons,hx] at h
      cases h
      by_cases hc:(NameKind.free == NameKind.free && env.scope.kind == .function && env.kindOf n == some .cell)=true
      · left
        show List.lookup x ((if (NameKind.free == NameKind.free && env.scope.kind == .function && env.kindOf n == some .cell)=true then (n,NameKind.cell) else (n,NameKind.free))::_)=_
        rw [if_pos hc,List.lookup_cons,hx]
      · right
        show List.lookup x ((if (NameKind.free == NameKind.free && env.scope.kind == .function && env.kindOf n == some .cell)=true then (n,NameKind.cell) else (n,NameKind.free))::_)=_
        rw [if_neg hc,List.lookup_cons,hx]
    | false=>
      simp only [List.lookup_cons,hx] at h
      have e:∀t,List.lookup x ((if (k == NameKind.free && env.scope.kind == .function && env.kindOf n == some .cell)=true then (n,NameKind.cell) else (n,k))::t)=List.lookup x t:=fun t=>by
        split<;>rw [List.lookup_cons,hx]
      rcases ih h with q | q
      · exact .inl ((e _).trans q)
      · exact .inr ((e _).trans q)
section
variable {X:Cx} {x:Str} {px:Pos} {iter elt:Expr} {scope:Scope} {pos:Pos} {N':List Str} {src:List Nat} {wi:TI} {te:TE}
structure Za3 (scope sc:Scope) (x:Str) (N N':List Str) (src:List Nat):Prop where
  kind:scope.kind=.function
  cell:∀y∈scope.names,y.2≠.cell
  loc:∀y∈scope.names,y.2=.local→scope.names.lookup y.1=some .local
  own:scope.names.lookup x=some .local
  free:∀y∈scope.names,y.2=.free→sc.names.lookup y.1=some .cell
  nd:N'.Nodup
  names:N'=x::src.map fun j=>N.getD j x
  all:∀j∈src,j<N.length
  fr:∀j∈src,sc.names.lookup (N.getD j x)=some .cell∧scope.names.lookup (N.getD j x)=some .free
theorem Zmd {pins:List (Addr×Obj)} {σ:St} {H:Hp} {s s':Shared} {C:Addr} {cl:List (Str×Addr)} {fp:List Addr} (I:Inv X pins σ H s) (S:Za3 scope X.env.scope x X.N N' src)
    (hcl:∀n c,(n,c)∈cl→X.env.cells.lookup n=some c) (hcl2:∀y∈scope.names,y.2=.free→∃c,(y.1,c)∈cl) (hC:s.heap.objs.size≤C) (hfp:∀b∈fp,Zij X pins H b) (hfl:∀b∈fp,b<s.heap.objs.size)
    (hn:∃m,s'.heap.Ns C m) (hk:∀b o,s.heap.get? b=some o→s'.heap.get? b=some o) (ho:s'.os=s.os) (hg:s'.gens=s.gens) :
    Inv (X.comp scope N' cl C s H fp) [] (inner src σ none) H s':=by
  have cll:∀n c,cl.lookup n=some c→X.env.cells.lookup n=some c:=fun n c e=>hcl n c (PySem.mem_of_lookup e)
  refine ⟨⟨I.ok.mod,S.kind,I.ok.glob,I.ok.blt,hC,fun y z c h1 h2=>I.ok.inj y z c (cll _ _ h1) (cll _ _ h2),fun y hy=>?_,fun y c h=>absurd (show false=true from h) (by decide),I.ok.hd,I.ok.frames,.inl rfl,fun b hb=>⟨Nat.ne_of_lt (Nat.lt_of_lt_of_le (hfl b hb) hC),fun y c e=>(hfp b hb).2.2.2.2.1 y c (cll y c e)⟩,
    I.bs,Nat.le_trans I.ok.bsz I.sz,fun b o e hb=>?_,fun b hb=>?_,I.stack,I.stkFree⟩,ho,?_,Un.kept hk,?_,fun y c e=>?_,I.hok.fresh hC,fun y c e=>I.freeC y c (cll y c e),fun p hp=>absurd (show p∈([]:List (Addr×Obj)) from hp) (by simp),I.hok.kept hk,?_⟩
  · have hy':(relabel scope X.env).names.lookup y=some .cell∨(relabel scope X.env).names.lookup y=some .free:=hy
    have:(y,NameKind.free)∈scope.names:=by
      rcases hy' with h | h
      · exact ZdU S.cell h (.inl rfl)
      · exact ZdU S.cell h (.inr rfl)
    obtain ⟨c,hc⟩:=hcl2 _ this rfl
    exact ZhI hc
  · rcases (hfp b hb).2.2.2.1 with z | z
    · exact I.ok.noex b o e z
    · exact absurd (Nat.lt_of_lt_of_le (Heap.lt_size e) (Nat.le_trans I.ok.bsz z)) (Nat.lt_irrefl _)
  · intro hs
    rcases List.mem_cons.mp (I.stkSub b hs) with z | z
    · exact (hfp b hb).2.1 z
    · exact (hfp b hb).2.2.1 z
  · rw [hg]; exact I.bare
  · obtain ⟨m,hm⟩:=hn
    refine ⟨m,hm,fun i y v h1 h2 h3=>?_⟩
    have h1':N'[i]?=some y:=h1
    rw [S.names] at h1'
    cases i with
    | zero=>cases (show (some none:Option (Option V))=some (some v) from h2)
    | succ k=>
      rw [List.getElem?_cons_succ,List.getElem?_map] at h1'
      have h2':(src.map fun j=>(σ[j]?).join)[k]?=some (some v):=h2
      rw [List.getElem?_map] at h2'
      cases e:src[k]? with
      | none=>rw [e] at h1'; cases h1'
      | some j=>
        rw [e] at h1' h2'
        have hj:=List.mem_of_getElem? e
        have ey:X.N.getD j x=y:=Option.some.inj h1'
        have ev:(σ[j]?).join=some v:=Option.some.inj h2'
        have eN:X.N[j]?=some y:=by
          have:=S.all j hj
          rw [List.getElem?_eq_getElem this]
          rw [List.getD_eq_getElem?_getD,List.getElem?_eq_getElem this] at ey
          exact congrArg some ey
        have eσ:σ[j]?=some (some v):=by
          cases q:σ[j]? with
          | none=>rw [q] at ev; cases ev
          | some z=>rw [q] at ev; exact congrArg some ev
        obtain ⟨k1,k2⟩:=S.fr j hj
        rw [ey] at k1 k2
        obtain ⟨mo,hmo,hl⟩:=I.loc
        obtain ⟨u,r,l⟩:=hl j y v eN eσ (.inr (.inl k1))
        refine ⟨u,r,?_⟩
        rcases l with ⟨z,_⟩ | ⟨_,c,hc,hcell⟩
        · have z':X.env.scope.names.lookup y=some .local:=z
          rw [k1] at z'; cases z'
        · obtain ⟨c',hc'⟩:=hcl2 _ (PySem.mem_of_lookup k2) rfl
          obtain ⟨d,hd⟩:=ZhI hc'
          have ed:d=c:=by
            have:=cll _ _ hd
            rw [hc] at this
            exact (Option.some.inj this).symm
          subst ed
          obtain ⟨o,e1,e2⟩:=hcell
          refine .inr ⟨?_,d,hd,o,hk _ _ e1,e2⟩
          rcases h3 with z | z | z
          · have z':(relabel scope X.env).names.lookup y=some .local:=z
            rcases ZfB (env:=X.env) k2 with w | w
            · have w':(relabel scope X.env).names.lookup y=some .cell:=w
              rw [w'] at z'; cases z'
            · have w':(relabel scope X.env).names.lookup y=some .free:=w
              rw [w'] at z'; cases z'
          · exact .inl z
          · exact .inr z
  · obtain ⟨v,o,e1,e2⟩:=I.cell y c (cll y c e)
    exact ⟨v,o,hk _ _ e1,e2⟩
  · show (inner src σ none).length=N'.length
    rw [S.names]
    unfold inner
    rw [List.length_cons,List.length_cons,List.length_map,List.length_map]
theorem Zlz {prog:Program} {w:World} {A:Around} {R:Result→Shared→Prop} {s:Shared} {elt target iter:Expr} {scope:Scope} {pos:Pos} {it acc:Value} {env:Env} (I:Nat→Shared→Prop)
    (turn:∀n s,I n s→wpAny (model prog w) A (pyNext it) (fun r s₁=>match r with
      | none=>R (.ok .next) s₁
      | some v=>wpAny (model prog w) A (letOwnedTupleGo target it v) (fun _ s₂=>wpAny (model prog w) A (assign target env v) (fun _ s₃=>wpAny (model prog w) A (eval elt env) (fun x s₄=>
          wpAny (model prog w) A (call (.builtin "list.append") [acc,x]) (fun _ s₅=>∃m,m<n∧I m s₅) (notedBy (model prog w) A env fun e s'=>R (.error e) s') s₄) (notedBy (model prog w) A env fun e s'=>R (.error e) s') s₃)
          (notedBy (model prog w) A env fun e s'=>R (.error e) s') s₂) (notedBy (model prog w) A env fun e s'=>R (.error e) s') s₁) (notedBy (model prog w) A env fun e s'=>R (.error e) s') s)
    (n:Nat) (h:I n s):codeAny (model prog w) A (.compLoop (.ListComp elt [⟨target,iter,[],0⟩] scope pos) 0 it acc env) R s:=by
  refine codeAny_loop rfl I (fun n s hI=>?_) n h
  show wpAny _ A ((compTurn (.ListComp elt [⟨target,iter,[],0⟩] scope pos) 0 it acc env).onRaise (fun x=>do noteFrame x env; theTreesLotGoes x)) _ _ s
  refine wpAny_noted ?_
  rw [compTurn_list1]
  refine wpAny_bind (wpAny_standAt (wpAny_bind (thn (turn n s hI) fun r s₁ h₁=>?_)))
  cases r with
  | none=>exact wpAny_pure h₁
  | some v=>
    refine wpAny_bind (thn h₁ fun _ s₂ h₂=>wpAny_bind (thn h₂ fun _ s₃ h₃=>?_))
    exact wpAny_bind (wpAny_bind (thn h₃ fun x s₄ h₄=>wpAny_bind (thn h₄ fun _ s₅ h₅=>wpAny_pure (wpAny_pure ⟨rfl,h₅⟩))))
def lcR (J:It) (src:List Nat) (σ:St) (te:TE) (H1:Hp) (Q:VK):Prop:=∃(n:Nat) (Pv:Nat→List V→Hp→Prop),n≤sizeLine∧Pv 0 [] H1∧
  (∀i ys H,i<n→Pv i ys H→J.go i H∧∀y H',J.yld i H y H'→te (inner src σ (some y)) H' fun z H2=>Pv (i+1) (ys++[z]) H2)∧
  ∀ys H,Pv n ys H→J.stop n H∧∀p,H p=none→Q (.ref p) (upd H p (.lst ys))
def tLc (wi:TI) (src:List Nat) (te:TE):TE:=fun σ H Q=>wi σ H fun J H1=>lcR J src σ te H1 Q
theorem HOk.lay {P:Program} {w:World} {H:Hp} {h:Heap} {a:Addr} {o:HO} (x:HOk P w H h) (hn:H a=none) (new:ObjOk P w (upd H a o) h a o):HOk P w (upd H a o) h:=fun b u e=>by
  by_cases hb:b=a
  · subst hb; rw [zE] at e; cases e; exact new
  · rw [ZP hb] at e
    exact (x b u e).stay (fun c v _ q=>q) (fun c q=>by rw [ZP (zh q hn)]; exact q) fun c xs q=>by rw [ZP (zh q hn)]; exact q
theorem Un.lay {fs ex:List Addr} {H H1:Hp} {h h1:Heap} {a:Addr} {o:HO} (u:Un fs ex H H1 h h1) (hn:H1 a=none) (hh:h.get? a=none):Un fs ex H (upd H1 a o) h h1 where
  keep:=u.keep
  slot:=u.slot
  free:=fun b ob q n hx=>by rw [ZP (fun z=>by rw [z,hh] at q; cases q)]; exact u.free b ob q n hx
  there:=u.there
  tups:=fun b xs q=>by rw [ZP (zh (u.tups b xs q) hn)]; exact u.tups b xs q
  frzs:=fun b ob xs q=>by rw [ZP (zh (u.frzs b ob xs q) hn)]; exact u.frzs b ob xs q
  tbls:=fun b ps q=>by
    obtain ⟨m,e⟩:=u.tbls b ps q
    exact ⟨m,by rw [ZP (zh e hn)]; exact e⟩
theorem Zqm {pins:List (Addr×Obj)} {σ:St} {H:Hp} {s:Shared} {cl:List (Str×Addr)} {it:Addr} {fp:List Addr} {tn:Nat→Heap→Prop} {J:It} {n:Nat} {Pv:Nat→List V→Hp→Prop} {RR:Value→Addr→Result→Shared→Prop} {E:Value→Shared→Prop}
    (I:Inv X pins σ H s) (hcm:X.calm=true) (S:Za3 scope X.env.scope x X.N N' src) (hcl:∀n c,(n,c)∈cl→X.env.cells.lookup n=some c) (hcl2:∀y∈scope.names,y.2=.free→∃c,(y.1,c)∈cl)
    (T:ZnQ X.prog X.w X.K (.Name x px) J fp it tn) (t0:tn 0 s.heap) (hfp:∀b∈fp,Zij X pins H b)
    (helt:∀(cl:List (Str×Addr)) (C:Addr) (s₀:Shared) (H₀:Hp) (fp:List Addr),PE (X.comp scope N' cl C s₀ H₀ fp) elt te)
    (hn:n≤sizeLine) (p0:Pv 0 [] H) (turn:∀i ys H,i<n→Pv i ys H→J.go i H∧∀y H',J.yld i H y H'→te (inner src σ (some y)) H' fun z H2=>Pv (i+1) (ys++[z]) H2) (stop:∀ys H,Pv n ys H→J.stop n H)
    (hR:∀(D C:Addr) (o:Obj) (ys:List V) (H':Hp) (s':Shared),Pv n ys H'→H' D=none→Inv X (pins++[(C,o)]) σ (upd H' D (.lst ys)) s'→(∃m,s'.heap.Ns C m)→Zij X pins (upd H' D (.lst ys)) C→RR (.ref D) C (.ok .next) s') :
    wpAny (model X.prog X.w) X.A (newList []) (fun acc s₃=>wpAny (model X.prog X.w) X.A (newFunctionEnv scope X.env.globals cl [] X.env.qual none .none (some X.env)) (fun cenv s₄=>
      codeAny (model X.prog X.w) X.A (.compStart (.ListComp elt [⟨.Name x px,iter,[],0⟩] scope pos) 0 (.ref it) acc { cenv with scope:=relabel scope X.env }) (RR acc cenv.locals) s₄) E s₃) E s:=by
  refine wpAny_newObj_type (wpAny_newFunctionEnv S.cell (by intro y hy; simp at hy) (fun h₁ hns₁ hsb₁=>?_) S.kind)
  dsimp only at hns₁ hsb₁ ⊢
  generalize hH2:s.heap.push { cls:=.type "list",dict:=none,data:=.seq ([]:List Value).toArray }=H2 at hns₁ hsb₁ ⊢
  have hC:H2.objs.size=s.heap.objs.size+1:=by rw [←hH2,Heap.size_push]
  have hDC:s.heap.objs.size≠H2.objs.size:=by rw [hC]; exact Nat.ne_of_lt (Nat.lt_succ_self _)
  have hCle:s.heap.objs.size≤H2.objs.size:=by rw [hC]; exact Nat.le_succ _
  have below:∀b,b<s.heap.objs.size→b≠H2.objs.size∧b≠s.heap.objs.size:=fun b hb=>⟨by rw [hC]; exact Nat.ne_of_lt (Nat.lt_succ_of_lt hb),Nat.ne_of_lt hb⟩
  have old:∀b o,s.heap.get? b=some o→h₁.get? b=some o:=fun b o e=>hsb₁.extBut b o (below b (Heap.lt_size e)).1 (Heap.get?_push_of_some _ (hH2 ▸ Heap.get?_push_of_some _ e))
  have hacc:h₁.PlainList s.heap.objs.size #[]:=⟨_,hsb₁.extBut _ _ hDC (Heap.get?_push_of_some _ (hH2 ▸ Heap.get?_push_size _ rfl))⟩
  have hfl:∀b∈fp,b<s.heap.objs.size:=fun b hb=>by
    obtain ⟨o,e,_⟩:=T.obj 0 _ t0 b hb
    exact Heap.lt_size e
  have fresh:∀a,s.heap.objs.size≤a→s.heap.get? a=none:=fun a ha=>by
    cases e:s.heap.get? a with
    | none=>rfl
    | some o'=>exact absurd (Heap.lt_size e) (Nat.not_lt.mpr ha)
  generalize eD:s.heap.objs.size=D at hDC hacc hCle below fresh hfl hC ⊢
  generalize eC:H2.objs.size=C at hDC hCle below hC hns₁ hsb₁ ⊢
  have I1:Inv (X.comp scope N' cl C s H fp) [] (inner src σ none) H { s with heap:=h₁,toks:=s.toks+([]:List (Str×Value)).length }:=
    Zmd I S hcl hcl2 (by rw [eD]; exact hCle) hfp (by rw [eD]; exact hfl) ⟨_,hns₁⟩ old rfl rfl
  have stat:∀{H':Hp} {pl:List (Addr×Obj)},(∀p∈pl,p.1=D)→(∀b∈fp,H' b=none)→∀b∈fp,Zij (X.comp scope N' cl C s H fp) pl H' b:=fun {H' pl} hp hn b hb=>
    ⟨hn b hb,(below b (hfl b hb)).1,fun z=>by
      rcases List.mem_cons.mp (I.stkSub b z) with q | q
      · exact (hfp b hb).2.1 q
      · exact (hfp b hb).2.2.1 q,.inl hb,fun y c e=>(hfp b hb).2.2.2.2.1 y c (hcl y c (PySem.mem_of_lookup e)),fun p hq=>by
      rw [hp p (by rcases List.mem_append.mp hq with z | z; exact absurd (show p∈([]:List (Addr×Obj)) from z) (by simp); exact z)]
      exact Ne.symm (below b (hfl b hb)).2⟩
  have nD:D∉frs X.stack:=fun z=>by
    rcases List.mem_cons.mp (I.stkSub D z) with q | q
    · have:=I.lt; rw [←q,eD] at this; exact Nat.lt_irrefl _ this
    · exact I.nofs (a:=D) (by rw [eD]; exact Nat.le_refl _) q
  have nC:C∉X.fs:=I.nofs (by rw [eD]; exact hCle)
  have cellD:∀y c,cl.lookup y=some c→c<D:=fun y c e=>by
    obtain ⟨v,q⟩:=I.cell y c (hcl y c (PySem.mem_of_lookup e))
    have:=q.lt
    rw [eD] at this
    exact this
  have loop:∀s₃:Shared,s₃={ s with heap:=h₁,toks:=s.toks+([]:List (Str×Value)).length }→
      codeAny (model X.prog X.w) X.A (.compLoop (.ListComp elt [⟨.Name x px,iter,[],0⟩] scope pos) 0 (.ref it) (.ref D) (compEnvC scope cl C X.env)) (RR (.ref D) C) s₃:=by
    rintro s₃ rfl
    refine Zlz (fun k s'=>∃(i:Nat) (ys:List V) (its:List Value) (H':Hp) (xo:Option V),Inv (X.comp scope N' cl C s H fp) [] (inner src σ xo) H' s'∧tn i s'.heap∧(∀b∈fp,H' b=none)∧s'.heap.PlainList D its.toArray∧Vals ys its∧H' D=none∧
      Pv i ys H'∧ys.length=i∧i≤n∧k=n+1-i) ?_ (n+1) ⟨0,[],[],H,none,I1,T.keep _ _ _ t0 (fun b _ o e=>old b o e),fun b hb=>(hfp b hb).1,hacc,.nil,I.hok.fresh (by rw [eD]; exact Nat.le_refl _),p0,rfl,Nat.zero_le _,rfl⟩
    rintro k s' ⟨i,ys,its,H',xo,I3,t3,f3,l3,v3,d3,p3,e3,le3,rfl⟩
    by_cases hlt:i<n
    · obtain ⟨go,step⟩:=turn i ys H' hlt p3
      obtain ⟨nn,oD⟩:=id l3
      have I3p:Inv (X.comp scope N' cl C s H fp) [(D,{ cls:=.type "list",data:=.seq its.toArray nn })] (inner src σ xo) H' s':=
        I3.pins_of fun p hp=>by
          have ep:p=(D,{ cls:=.type "list",data:=.seq its.toArray nn }):=by simpa using hp
          subst ep
          exact ⟨oD,d3,hDC,nD,fun v z=>by cases z⟩
      refine thn (T.item (X.comp scope N' cl C s H fp) rfl rfl rfl hcm i _ s' _ H' _ I3p (stat (by simp) f3) t3 go) fun r s4 ⟨u,hr,h4⟩=>?_
      subst hr
      refine thn h4 fun _ s5 ⟨y,H5,I5,r5,y5,st5,fr5⟩=>?_
      have I5':=I5.pinned (stat (by simp) fr5) (T.obj _ _ st5)
      have hg:PG (X.comp scope N' cl C s H fp) (.Name x px) (Zlr 0):=
        ZfE S.nd (by show N'[0]?=some x; rw [S.names]; rfl) (.inl (lookup_relabel_local S.own)) (.inr (lookup_relabel_local S.own))
      refine wpAny_mono (hg _ s5 _ H5 y u (fun σ2 H2=>σ2=inner src σ (some y)∧H2=H5) I5' r5 ⟨rfl,rfl⟩) (fun _ s6 ⟨σ6,H6,I6,e6,e6'⟩=>?_) fun _ _ z=>False.elim z
      subst e6 e6'
      refine wpAny_mono (helt cl C s H fp _ s6 _ _ _ I6 (step y _ y5)) (fun v s7 ⟨z,H7,I7,r7,q7⟩=>?_) fun _ _ z=>False.elim z
      have o7:=I7.pin (D,{ cls:=.type "list",data:=.seq its.toArray nn }) (by simp)
      have hys:its.toArray.size≤sizeLine:=by
        have:=v3.length
        rw [List.size_toArray]
        omega
      refine wpAny_list_append_plain (hsz:=hys) (items:=its.toArray) (s:=s7) ⟨nn,o7.1⟩ fun h8 hl8 hs8=>?_
      refine ⟨n+1-(i+1),by omega,i+1,ys++[z],its++[v],H7,some y,?_,?_,?_,?_,v3.append (.cons r7 .nil),o7.2.1,q7,by rw [List.length_append,e3]<;>rfl,hlt,rfl⟩
      · have I7':Inv (X.comp scope N' cl C s H fp) [] (inner src σ (some y)) H7 s7:=I7.pins_of fun p hp=>absurd hp (by simp)
        exact I7'.turned (t':=s7.toks) (it:=D) (fun b o hb e=>(hs8.2 b hb).trans e) o7.2.1 hDC (.inr (by show s.heap.objs.size≤D; rw [eD]; exact Nat.le_refl _)) (fun y c e=>Nat.ne_of_lt (cellD y c e)) fun p hp=>absurd (show p∈([]:List (Addr×Obj)) from hp) (by simp)
      · refine T.keep _ _ _ st5 fun b hb o e=>(hs8.2 b (below b (hfl b hb)).2).trans ?_
        exact (I7.pin (b,o) (List.mem_append_right _ (List.mem_append_right _ (Zd1 hb e)))).1
      · intro b hb
        obtain ⟨o,e,_⟩:=T.obj _ _ st5 b hb
        exact (I7.pin (b,o) (List.mem_append_right _ (List.mem_append_right _ (Zd1 hb e)))).2.1
      · have:(its++[v]).toArray=its.toArray.push v:=by simp
        rw [this]; exact hl8
    · have ein:i=n:=by omega
      subst ein
      obtain ⟨nn,oD⟩:=id l3
      have I3p:Inv (X.comp scope N' cl C s H fp) [(D,{ cls:=.type "list",data:=.seq its.toArray nn })] (inner src σ xo) H' s':=
        I3.pins_of fun p hp=>by
          have ep:p=(D,{ cls:=.type "list",data:=.seq its.toArray nn }):=by simpa using hp
          subst ep
          exact ⟨oD,d3,hDC,nD,fun v z=>by cases z⟩
      refine thn (T.done (X.comp scope N' cl C s H fp) rfl rfl rfl hcm i _ s' _ H' _ I3p (stat (by simp) f3) t3 (stop ys H' p3)) fun r s4 ⟨hr,I4⟩=>?_
      subst hr
      have o4:=I4.pin (D,{ cls:=.type "list",data:=.seq its.toArray nn }) (by simp)
      have newI:Inv X pins σ (upd H' D (.lst ys)) s4:=I.call' (ch:=fp) I4.os (I4.base.lay d3 (fresh D (Nat.le_refl _))) (I4.hok.lay d3 ⟨by omega,its,nn,v3,o4.1⟩) I4.bare (fun b hb=>
        ⟨(hfp b hb).2.2.2.1,(hfp b hb).2.1,(hfp b hb).2.2.2.2.1,(hfp b hb).2.2.2.2.2⟩)
      obtain ⟨m,hm,_⟩:=I4.loc
      obtain ⟨o,es,ep,ho,hd,_⟩:=id hm
      refine hR D C o ys H' s4 p3 d3 (newI.pins_of fun p hp=>?_) ⟨m,hm⟩ (I.fpOk (by rw [eD]; exact hCle) (by rw [ZP (Ne.symm hDC)]; exact I4.free))
      rcases List.mem_append.mp hp with z | z
      · exact newI.pin p (List.mem_append_right _ z)
      · have ep:p=(C,o):=by simpa using z
        subst ep
        refine ⟨ho,by rw [ZP (Ne.symm hDC)]; exact I4.free,fun z=>?_,nC,fun v z=>?_⟩
        · have:=I.lt
          rw [eD,←z] at this
          exact absurd (Nat.lt_of_lt_of_le this hCle) (Nat.lt_irrefl _)
        · have z':o.data=.cell v:=z
          rw [hd] at z'; cases z'
  exact codeAny_compStart_list (loop _ rfl) (T.self _ 0 _ _ _ (T.keep _ _ _ t0 (fun b _ o e=>old b o e)) (loop _ rfl))
theorem Zvv {sc:Scope} {N:List Str} (S:Za3 scope sc x N N' src) (hsc:X.env.scope=sc) (hN:X.N=N) (hi:PI X (.Name x px) iter wi)
    (helt:∀(cl:List (Str×Addr)) (C:Addr) (s₀:Shared) (H₀:Hp) (fp:List Addr),PE (X.comp scope N' cl C s₀ H₀ fp) elt te) (hcm:X.calm=true:=by rfl) (hs:∀v,foldedSetIterable iter X.env v=pure v:=by intro _; rfl) :
    PE X (.ListComp elt [⟨.Name x px,iter,[],0⟩] scope pos) (tLc wi src te):=by
  subst hsc hN
  intro pins s σ H Q I h
  obtain ⟨cl,hclos,hcl,hcl2⟩:=ZfY (scope:=scope) (env:=X.env) fun y hy hf=>I.ok.has y.1 (.inl (S.free y hy hf))
  rw [eval_ListComp]
  refine wpAny_comprehension_free (use:=none) rfl hs hclos S.kind S.loc ?_
  refine thn (hi pins s σ H _ I h) fun v s1 h1=>thn h1 fun itv s2 h2=>?_
  obtain ⟨it,fp,tn,J,H2,e,I2,T,st2,f2,n,Pv,hn,p0,turn,done⟩:=h2
  subst e
  refine Zqm I2 hcm S hcl hcl2 T st2 f2 helt hn p0 turn (fun ys H p=>(done ys H p).1) fun D C o ys H' s' p d J' hm ho=>?_
  obtain ⟨m,hm⟩:=hm
  refine ⟨m,hm,fun h' hs'=>?_⟩
  have J2:Inv X pins σ (upd H' D (.lst ys)) s':=J'.pins_of fun q hq=>J'.pin q (List.mem_append_right _ (List.mem_append_left _ hq))
  obtain ⟨f0,f1,f2,f3,f4,f5⟩:=ho
  exact ⟨.ref D,_,J2.turned (t':=s'.toks) (it:=C) (fun b o hb e=>(hs'.2 b hb).trans e) f0 f1 f3 f4 f5,rfl,(done ys H' p).2 D d⟩
theorem Zvp {sc:Scope} {N:List Str} {i:Nat} {y:Str} {py spos:Pos} (hnd:X.N.Nodup) (hi':X.N[i]?=some y) (S:Za3 scope sc x N N' src) (hsc:X.env.scope=sc) (hN:X.N=N) (hi:PI X (.Name x px) iter wi)
    (helt:∀(cl:List (Str×Addr)) (C:Addr) (s₀:Shared) (H₀:Hp) (fp:List Addr),PE (X.comp scope N' cl C s₀ H₀ fp) elt te) (hsw:swapsWith (.ListComp elt [⟨.Name x px,iter,[],0⟩] scope pos) (some (.Name y py)) spos.line X.env=pure true:=by rfl)
    (hy:X.env.scope.names.lookup y=some .local:=by rfl) (hcm:X.calm=true:=by rfl) (hs:∀v,foldedSetIterable iter X.env v=pure v:=by intro _; rfl) :
    PS X (.Assign [.Name y py] (.ListComp elt [⟨.Name x px,iter,[],0⟩] scope pos) spos) (Zvc (tLc wi src te) (Zlr i)):=by
  subst hsc hN
  intro pins s σ H Dn I h
  obtain ⟨cl,hclos,hcl,hcl2⟩:=ZfY (scope:=scope) (env:=X.env) fun y hy hf=>I.ok.has y.1 (.inl (S.free y hy hf))
  rw [exec_Assign_Name_used _ _ _ _ hsw]
  refine wpAny_bind (wpAny_standAt (wpAny_bind ?_))
  show wpAny _ X.A (do let _ ←comprehension (.ListComp elt [⟨.Name x px,iter,[],0⟩] scope pos) scope X.env _ (newList []) false (eval iter X.env) (some (assign (.Name y py) X.env))) _ _ s
  refine wpAny_bind (wpAny_mono (wpAny_comprehension_free (use:=some (assign (.Name y py) X.env)) (Q:=fun _ s'=>SP X pins Dn .next s') rfl hs hclos S.kind S.loc ?_) (fun _ s' hq=>wpAny_pure (wpAny_pure hq)) fun _ _ e=>e)
  refine thn (hi pins s σ H _ I h) fun v s1 h1=>thn h1 fun itv s2 h2=>?_
  obtain ⟨it,fp,tn,J,H2,e,I2,T,st2,f2,n,Pv,hn,p0,turn,done⟩:=h2
  subst e
  refine Zqm I2 hcm S hcl hcl2 T st2 f2 helt hn p0 turn (fun ys H p=>(done ys H p).1) fun D C o ys H' s' p d J' hm ho=>?_
  show wpAny _ X.A (assign (.Name y py) X.env (.ref D)) _ _ _
  obtain ⟨m,hm⟩:=hm
  have hg:PG X (.Name y py) (Zlr i):=ZfE hnd hi' (.inl hy) (.inr hy)
  refine thn (hg _ s' σ _ (.ref D) (.ref D) (fun σ2 H3=>σ2=σ.set i (some (.ref D))∧H3=upd H' D (.lst ys)) J' rfl ⟨rfl,rfl⟩) fun _ s6 ⟨σ6,H6,I6,e6,e7⟩=>?_
  subst e6 e7
  have pc:=I6.pin (C,o) (by simp)
  have pc':=J'.pin (C,o) (by simp)
  refine ⟨m,hm.at fun q e=>?_,fun h' hs'=>?_⟩
  · rw [pc'.1] at e; cases e; exact pc.1
  have J2:Inv X pins (σ.set i (some (.ref D))) (upd H' D (.lst ys)) s6:=I6.pins_of fun q hq=>I6.pin q (List.mem_append_right _ (List.mem_append_left _ hq))
  obtain ⟨f0,f1,f2,f3,f4,f5⟩:=ho
  exact ⟨_,_,J2.turned (t':=s6.toks) (it:=C) (fun b o hb e=>(hs'.2 b hb).trans e) f0 f1 f3 f4 f5,(done ys H' p).2 D d⟩
end
end L2
set_option Elab.async false
set_option linter.all false
set_option maxRecDepth 100000
set_option maxHeartbeats 4000000
namespace L2
open PySem PySem.Spec PyProof.Rows PySem.SeqAt
section
variable {X:Cx}
theorem ZnP {bs:List Bool}:(List.range bs.length).all (fun i=>bs.getD i false)=bs.all id:=by
  induction bs with
  | nil=>rfl
  | cons b r ih=>
    rw [List.length_cons,List.range_succ_eq_map,List.all_cons,List.all_map,List.all_cons]
    have:((fun i=>(b::r).getD i false)∘Nat.succ)=fun i=>r.getD i false:=by funext i; rfl
    rw [this,ih]
    rfl
theorem ZqQ (hc:X.calm=true):CallR X (.builtin "all") (fun xs H Q=>∃(p:Addr) (bs:List Bool),xs=[.ref p]∧SqL X.K H p (bs.map V.bl)∧Q (.bl (bs.all id)) H):=by
  intro pins s σ H xs us Q I r h
  obtain ⟨p,bs,rfl,hq,q⟩:=h
  obtain ⟨u,rfl,rx⟩:=Zfv r
  cases rx
  obtain ⟨its,r',pl,hz⟩:=I.list hq
  have hl:=r'.length
  rw [List.length_map] at hl
  refine call_all_walk (wpAny_pyIter_list pl.isList ?_)
  have hne:p≠s.heap.objs.size:=by
    obtain ⟨o,n,e,_⟩:=pl
    exact Nat.ne_of_lt (Heap.lt_size e)
  refine ⟨s.heap.objs.size,_,_,_,_,_,fun i=>bs.getD i false,rfl,Walks.list (A:=X.A.in1) (I.ok.hd hc) _ p hne its.toArray,⟨⟨_,Heap.get?_push_size _ rfl,rfl,rfl⟩,?_⟩,?_,fun h' tk hk=>?_⟩
  · obtain ⟨o,n,e,hc',hd,hs⟩:=pl
    exact ⟨o,Heap.get?_push_of_some _ e,hc',n,hs⟩
  · intro i v s2 Q2 E2 hp q2
    have hp':its[i]?=some v:=by simpa using hp
    have hi:i<bs.length:=by rw [hl]; exact (List.getElem?_eq_some_iff.mp hp').1
    obtain ⟨u,hu,ru⟩:=r'.get (i:=i) (x:=.bl (bs.getD i false)) (by rw [List.getElem?_map,List.getElem?_eq_getElem hi,List.getD_eq_getElem?_getD,List.getElem?_eq_getElem hi]; rfl)
    rw [hp'] at hu; cases hu
    cases ru
    exact wpAny_truthy_bool q2
  · refine ⟨.bl (bs.all id),H,(I.kept (t':=s.toks) fun b o e=>Heap.get?_push_of_some _ e).turned (it:=s.heap.objs.size) (fun b o hb e=>hk b o (by simpa using hb) e) (I.hok.fresh (Nat.le_refl _)) (Nat.ne_of_gt I.lt) (.inr I.sz) (fun x c e z=>?_) (fun q hq z=>?_),?_,q⟩
    · obtain ⟨v,w'⟩:=I.cell x c e
      exact absurd w'.lt (by rw [z]; exact Nat.lt_irrefl _)
    · exact absurd (Heap.lt_size (I.pin q hq).1) (by rw [z]; exact Nat.lt_irrefl _)
    · show Value.bool _=Value.bool _
      rw [List.size_toArray,←hl,ZnP]
theorem Ziw {ns:List Int}:∀k,k≤ns.length→preSum (fun i=>ns.getD i 0) k=(ns.take k).sum
  | 0,_=>by simp [preSum]
  | k+1,h=>by
    have hk:k<ns.length:=by omega
    rw [preSum,Ziw k (by omega),List.take_add_one,List.getElem?_eq_getElem hk,List.getD_eq_getElem?_getD,List.getElem?_eq_getElem hk]
    show _=(ns.take k++[ns[k]]).sum
    rw [List.sum_append,List.sum_cons,List.sum_nil,Int.add_zero]
    rfl
theorem ZqO (hc:X.calm=true):CallR X (.builtin "sum") (fun xs H Q=>∃(p:Addr) (ns:List Int),xs=[.ref p]∧SqL X.K H p (ns.map V.int)∧Q (.int ns.sum) H):=by
  intro pins s σ H xs us Q I r h
  obtain ⟨p,ns,rfl,hq,q⟩:=h
  obtain ⟨u,rfl,rx⟩:=Zfv r
  cases rx
  obtain ⟨its,r',pl,hz⟩:=I.list hq
  have hl:=r'.length
  rw [List.length_map] at hl
  refine call_sum_walkG (wpAny_pyIter_list pl.isList ?_)
  have hne:p≠s.heap.objs.size:=by
    obtain ⟨o,n,e,_⟩:=pl
    exact Nat.ne_of_lt (Heap.lt_size e)
  refine ⟨s.heap.objs.size,_,_,_,_,_,fun i=>ns.getD i 0,rfl,Walks.list (A:=X.A.in1) (I.ok.hd hc) _ p hne its.toArray,⟨⟨_,Heap.get?_push_size _ rfl,rfl,rfl⟩,?_⟩,?_,?_,fun h' tk t' hk=>?_⟩
  · obtain ⟨o,n,e,hc',hd,hs⟩:=pl
    exact ⟨o,Heap.get?_push_of_some _ e,hc',n,hs⟩
  · intro b hb
    have hb':b=s.heap.objs.size∨b=p:=by simpa using hb
    rcases hb' with rfl | rfl
    · show _<(s.heap.push _).objs.size
      rw [Heap.size_push]; exact Nat.lt_succ_self _
    · obtain ⟨o,n,e,_⟩:=pl
      show _<(s.heap.push _).objs.size
      rw [Heap.size_push]; exact Nat.lt_succ_of_lt (Heap.lt_size e)
  · intro i v hp
    have hp':its[i]?=some v:=by simpa using hp
    have hi:i<ns.length:=by rw [hl]; exact (List.getElem?_eq_some_iff.mp hp').1
    obtain ⟨u,hu,ru⟩:=r'.get (i:=i) (x:=.int (ns.getD i 0)) (by rw [List.getElem?_map,List.getElem?_eq_getElem hi,List.getD_eq_getElem?_getD,List.getElem?_eq_getElem hi]; rfl)
    rw [hp'] at hu; cases hu
    exact ru
  · refine ⟨.int ns.sum,H,(I.kept (t':=s.toks) fun b o e=>Heap.get?_push_of_some _ e).turned (it:=s.heap.objs.size) (fun b o hb e=>hk b o (by simpa using hb) e) (I.hok.fresh (Nat.le_refl _)) (Nat.ne_of_gt I.lt) (.inr I.sz) (fun x c e z=>?_) (fun q hq z=>?_),⟨t',?_⟩,q⟩
    · obtain ⟨v,w'⟩:=I.cell x c e
      exact absurd w'.lt (by rw [z]; exact Nat.lt_irrefl _)
    · exact absurd (Heap.lt_size (I.pin q hq).1) (by rw [z]; exact Nat.lt_irrefl _)
    · rw [List.size_toArray,←hl,Ziw _ (Nat.le_refl _),List.take_length]
mutual
inductive RdV (K:PySem.W.Frag) (H:Hp):V→PyData→Prop
  | non:RdV K H .non .none
  | bl (b:Bool):RdV K H (.bl b) (.bool b)
  | int (i:Int):RdV K H (.int i) (.int i)
  | str (x:Str):RdV K H (.str x) (.str x)
  | lst {a:Addr} {xs:List V} {ds:List PyData}:SqL K H a xs→RdVs K H xs ds→RdV K H (.ref a) (.list ds)
  | tup {a:Addr} {xs:List V} {ds:List PyData}:SqT K H a xs→RdVs K H xs ds→RdV K H (.ref a) (.tuple ds)
inductive RdVs (K:PySem.W.Frag) (H:Hp):List V→List PyData→Prop
  | nil:RdVs K H [] []
  | cons {x:V} {xs:List V} {d:PyData} {ds:List PyData}:RdV K H x d→RdVs K H xs ds→RdVs K H (x::xs) (d::ds)
end
mutual
theorem RdV.reads {pins:List (Addr×Obj)} {σ:St} {H:Hp} {s:Shared} (I:Inv X pins σ H s):∀{x:V} {d:PyData} {u:Value},RdV X.K H x d→RelV x u→∃as,Reads s.heap u d as
  | _,_,_,.non,r=>by cases r; exact ⟨_,.none⟩
  | _,_,_,.bl b,r=>by cases r; exact ⟨_,.bool b⟩
  | _,_,_,.int i,r=>by obtain ⟨t,rfl⟩:=r; exact ⟨_,.int i t⟩
  | _,_,_,.str x,r=>by obtain ⟨t,rfl⟩:=r; exact ⟨_,.str x t⟩
  | _,_,_,.lst h hs,r=>by
    cases r
    obtain ⟨its,rv,⟨o,n,e,hc,hd,hq⟩,_⟩:=I.list h
    obtain ⟨as,q⟩:=RdVs.reads I hs rv
    exact ⟨_,.list e hc hq (by simpa using q)⟩
  | _,_,_,.tup h hs,r=>by
    cases r
    obtain ⟨its,rv,⟨o,e,hc,n,hq⟩,_⟩:=I.tuple h
    obtain ⟨as,q⟩:=RdVs.reads I hs rv
    exact ⟨_,.tuple e hc hq (by simpa using q)⟩
theorem RdVs.reads {pins:List (Addr×Obj)} {σ:St} {H:Hp} {s:Shared} (I:Inv X pins σ H s):∀{xs:List V} {ds:List PyData} {us:List Value},RdVs X.K H xs ds→Vals xs us→∃as,ReadsAll s.heap us ds as
  | _,_,_,.nil,r=>by cases r; exact ⟨_,.nil⟩
  | _,_,_,.cons h hs,r=>by
    cases r with
    | cons r rr=>
      obtain ⟨as,q⟩:=RdV.reads I h r
      obtain ⟨bs,q2⟩:=RdVs.reads I hs rr
      exact ⟨_,.cons q q2⟩
end
theorem Zt0 (hu:X.A.units+64<cLine):OpR X (compareOp .Eq) (fun x y H Q=>∃d e:PyData,RdV X.K H x d∧RdV X.K H y e∧shaped d=true∧shaped e=true∧noMix d e=true∧Q (.bl (same d e)) H):=by
  intro pins s σ H x y v u Q I rx ry h
  obtain ⟨d,e,hd,he,sd,se,hm,q⟩:=h
  obtain ⟨as,ra⟩:=hd.reads I rx
  obtain ⟨bs,rb⟩:=he.reads I ry
  exact eq_dataH_same ra rb sd se hu hm ⟨.bl _,H,I,rfl,q⟩
theorem ZtX (hu:X.A.units+64<cLine):OpR X (compareOp .NotEq) (fun x y H Q=>∃d e:PyData,RdV X.K H x d∧RdV X.K H y e∧shaped d=true∧shaped e=true∧noMix d e=true∧Q (.bl (!same d e)) H):=by
  intro pins s σ H x y v u Q I rx ry h
  obtain ⟨d,e,hd,he,sd,se,hm,q⟩:=h
  obtain ⟨as,ra⟩:=hd.reads I rx
  obtain ⟨bs,rb⟩:=he.reads I ry
  exact ne_dataH_same ra rb sd se hu hm ⟨.bl _,H,I,rfl,q⟩
theorem ZrN:OpR X (compareOp .IsNot) (fun x y H Q=>∃b c:Bool,x=.bl b∧y=.bl c∧Q (.bl (!(b == c))) H):=by
  intro pins s σ H x y v u Q I rx ry h
  obtain ⟨b,c,rfl,rfl,q⟩:=h
  cases rx
  cases ry
  have e:(Value.bool b == Value.bool c)=(b == c):=by cases b<;>cases c<;>rfl
  exact wpAny_isNot_plain rfl ⟨.bl _,H,I,rfl,by rw [e]; exact q⟩
def Zev (xs:List V) (lo hi st:Option Int):List V:=(sliceRange (sliceBounds lo hi st xs.length).1 (sliceBounds lo hi st xs.length).2.1 (sliceBounds lo hi st xs.length).2.2).filterMap (xs[·]?)
theorem Vals.pick {xs:List V} {us:List Value} (r:Vals xs us):∀ks:List Nat,Vals (ks.filterMap (xs[·]?)) (ks.filterMap (us[·]?))
  | []=>.nil
  | k::ks=>by
    cases e:xs[k]? with
    | none=>
      have e':=r.none_of e
      rw [List.filterMap_cons_none e,List.filterMap_cons_none e']
      exact r.pick ks
    | some x=>
      obtain ⟨u,e',q⟩:=r.get e
      rw [List.filterMap_cons_some e,List.filterMap_cons_some e']
      exact .cons q (r.pick ks)
def ZyS (K:PySem.W.Frag) (te:TE) (tl th ts:TO):TE:=fun σ H Q=>te σ H fun x H1=>tl σ H1 fun l H2=>th σ H2 fun u H3=>ts σ H3 fun st H4=>∃a xs,x=.ref a∧SqL K H4 a xs∧st≠some 0∧(Zev xs l u st).length≤sizeLine∧
  ∀p,H4 p=none→Q (.ref p) (upd H4 p (.lst (Zev xs l u st)))
theorem Zns {e sp:Expr} {te:TE} {lo hi:Option Expr} {tl th ts:TO} {pos p2:Pos} (he:PE X e te) (hl:PO X lo tl) (hu:PO X hi th) (hs:PO X (some sp) ts):PE X (.Subscript e (.Slice lo hi (some sp) p2) pos) (ZyS X.K te tl th ts):=by
  intro pins s σ H Q I h
  refine Subscript_ (thn (he pins s σ H _ I h) fun v s1 ⟨x,H1,I1,r1,q1⟩=>?_)
  refine wpAny_Slice (thn (hl pins s1 σ H1 _ I1 q1) fun vl s2 ⟨l,H2,I2,pl,q2⟩=>thn (hu pins s2 σ H2 _ I2 q2) fun vu s3 ⟨u,H3,I3,pu,q3⟩=>thn (hs pins s3 σ H3 _ I3 q3) fun vs s4 ⟨st,H4,I4,ps,q4⟩=>?_)
  obtain ⟨a,xs,rfl,hx,h0,hz',q⟩:=q4
  cases r1
  have I5:Inv X pins σ H4 { s4 with heap:=s4.heap.push { cls:=.type "slice",data:=.fields #[vl,vu,vs] } }:=I4.kept (t':=s4.toks) fun b ob q=>Heap.get?_push_of_some _ q
  obtain ⟨its,r,ht,hz⟩:=I5.list hx
  have hlen:=r.length
  show wpAny (model X.prog X.w) X.A (subscriptTail e (.Slice lo hi (some sp) p2) (.ref a) (.ref s4.heap.objs.size)) (EP X pins σ Q) X.xe { s4 with heap:=s4.heap.push { cls:=.type "slice",data:=.fields #[vl,vu,vs] } }
  refine tail_any (ops:=[.ref a,.ref s4.heap.objs.size]) ht.isList.typeIs slot_list_getitem.lookup (wpAny_getItem_list_slice ht.isList (Heap.IsSliceOf.new ..) pl pu ps h0 ?_ (by rw [List.size_toArray]<;>omega)) (by with_unfolding_all rfl)
  have ep:slicePick its.toArray l u st=((sliceRange (sliceBounds l u st xs.length).1 (sliceBounds l u st xs.length).2.1 (sliceBounds l u st xs.length).2.2).filterMap (its[·]?)).toArray:=by
    unfold slicePick
    rw [List.size_toArray,←hlen]
    simp
  rw [ep]
  refine ⟨.ref _,_,I5.laid (t':=s4.toks) (o:=.lst (Zev xs l u st)) (fun b ob q=>Heap.get?_push_of_some _ q) (Nat.le_refl _) ?_,rfl,q _ (I5.hok.fresh (Nat.le_refl _))⟩
  exact ⟨hz',_,0,r.pick _,Heap.get?_push_size _ rfl⟩
theorem Zgh:fillsNumberSlot (.type "tuple") "mul"=pure false:=
  PySem.fillsNumberSlot_seq (id:="tuple.__mul__") (r:=some (.builtin "tuple.__rmul__")) F.slot_tuple_mul.lookup (by decide +kernel) F.slot_tuple_rmul.lookup (by decide +kernel)
theorem Zi8:seqRepeat? (.type "tuple")=pure (some (.builtin "tuple.__mul__")):=by
  unfold seqRepeat?
  rw [PySem.seqSlot_of (T:="tuple") (name:="__mul__") (id:="tuple.__mul__") F.slot_tuple_mul.lookup (by decide +kernel),PySem.seqSlot_of (T:="tuple") (name:="__rmul__") (id:="tuple.__rmul__") F.slot_tuple_rmul.lookup (by decide +kernel)]
  rfl
end
end L2
set_option Elab.async false
set_option linter.all false
set_option maxRecDepth 100000
set_option maxHeartbeats 4000000
namespace L2
open PySem PySem.Spec PyProof.Rows Builtin
theorem ZhN (a:Int) (t:Tok) (l:Addr) (items:Array Value) (n:Nat) (dd:Option Addr) (sl:Array (Option Value)) :
    Meets (Builtin.«int.__rmul__» ⟨[.int a t,.ref l],[]⟩) (fun _ R s=>s.heap.get? l=some { cls:=.type "tuple",dict:=dd,data:=.seq items n,slots:=sl }∧R (.ok (.ret Value.notImplemented)) s):=
  .of_wp fun prog w A R s h=>by obtain ⟨hp,g,d,tk,os⟩:=s; obtain ⟨hl,h⟩:=h; wp_walk; exact ⟨_,rfl,h⟩
theorem Zic (l:Addr) (items:Array Value) (n:Nat) (dd:Option Addr) (sl:Array (Option Value)) (u:Tok) :
    Meets (Builtin.«tuple.__mul__» ⟨[.ref l,.int 1 u],[]⟩) (fun _ R s=>s.heap.get? l=some { cls:=.type "tuple",dict:=dd,data:=.seq items n,slots:=sl }∧R (.ok (.ret (Value.ref l))) s):=
  .of_wp fun prog w A R s h=>by
    obtain ⟨hp,g,d,tk,os⟩:=s; obtain ⟨hl,h⟩:=h
    wp_walk
    exact ⟨_,rfl,h⟩
theorem Zhq (l:Addr) (items:Array Value) (n:Nat) (dd:Option Addr) (sl:Array (Option Value)) (u:Tok) (h0:items.isEmpty=false) :
    Meets (Builtin.«tuple.__mul__» ⟨[.ref l,.int 0 u],[]⟩) (fun _ R s=>s.heap.get? l=some { cls:=.type "tuple",dict:=dd,data:=.seq items n,slots:=sl }∧R (.ok (.ret (Value.ref s.heap.objs.size))) { s with heap:=s.heap.push { cls:=.type "tuple",data:=.seq #[] } }):=
  .of_wp fun prog w A R s h=>by
    obtain ⟨hp,g,d,tk,os⟩:=s; obtain ⟨hl,h⟩:=h
    wp_walk
    exact ⟨_,rfl,h⟩
theorem Zhr (l:Addr) (items:Array Value) (n:Nat) (dd:Option Addr) (sl:Array (Option Value)) (x:Int) (u:Tok) (h0:items.isEmpty=false) (h1:2≤x) (h2:x<1000) (h3:items.size*x≤1000) :
    Meets (Builtin.«tuple.__mul__» ⟨[.ref l,.int x u],[]⟩) (fun _ R s=>s.heap.get? l=some { cls:=.type "tuple",dict:=dd,data:=.seq items n,slots:=sl }∧R (.ok (.ret (Value.ref s.heap.objs.size))) { s with heap:=s.heap.push { cls:=.type "tuple",data:=.seq (List.foldl (fun x1 x2=>x1++x2) #[] (List.replicate x.toNat items)) } }):=
  .of_wp fun prog w A R s h=>by
    obtain ⟨hp,g,d,tk,os⟩:=s; obtain ⟨hl,h⟩:=h
    have c1:¬(decide (x < -(2 ^ 63)) || decide (x≥2 ^ 63))=true:=by rw [decide_eq_false (by omega),decide_eq_false (by omega)]; decide
    have c2:¬(items.isEmpty || x == 1)=true:=by
      have:(x == 1)=false:=by simp; omega
      rw [h0,this]; decide
    have c3:¬(decide (x≤0) || items.isEmpty)=true:=by rw [h0,decide_eq_false (by omega)]; decide
    have c4:¬((items.size:Int)*x > (2 ^ 63-1)/8):=by omega
    have c5:¬Tuple.tupleTooMany ((items.size:Int)*x)=true:=by
      unfold Tuple.tupleTooMany
      rw [decide_eq_false (by rw [sizeLine_eq]; omega)]
      decide
    wp_walk
    rw [if_neg c1]
    wp_walk
    rw [if_neg c2]
    show wpAny (model prog w) A.in1 (if (decide (x≤0) || items.isEmpty)=true then _ else if (items.size:Int)*x > (2 ^ 63-1)/8 then _ else if Tuple.tupleTooMany ((items.size:Int)*x)=true then _ else _) _ _ _
    rw [if_neg c3,if_neg c4,if_neg c5]
    have hz:(List.foldl (fun x1 x2=>x1++x2) #[] (List.replicate x.toNat items)).size≤sizeLine:=by
      have:(List.replicate x.toNat items).foldl (fun x1 x2=>x1++x2) #[]=(List.replicate x.toNat items.toList).flatten.toArray:=by
        have:=Ze9 items.toList x.toNat []
        simpa using this
      rw [this,List.size_toArray,Zje,sizeLine_eq]
      have e:items.toList.length=items.size:=by simp
      rw [e]
      have e2:((x.toNat*items.size:Nat):Int)=(items.size:Int)*x:=by
        rw [Int.natCast_mul,Int.mul_comm]
        congr 1
        omega
      omega
    wp_walk
    exact ⟨_,rfl,h⟩
section
variable {X:Cx}
def Zvj (K:PySem.W.Frag):R2:=fun x y H Q=>∃(a:Addr) (k:Int) (xs:List V),x=.ref a∧y=.int k∧SqT K H a xs∧xs≠[]∧0≤k∧k<1000∧(xs.length:Int)*k≤1000∧
  (k=1→Q (.ref a) H)∧(k≠1→∀p,H p=none→Q (.ref p) (upd H p (.tup (List.replicate k.toNat xs).flatten)))
theorem op_repT:OpR X (binaryOp .Mult) (Zvj X.K):=by
  intro pins s σ H x y v u Q I rx ry h
  obtain ⟨a,k,xs,rfl,rfl,hH,hne,h0,h1,h2,q1,q2⟩:=h
  cases rx
  obtain ⟨t,rfl⟩:=ry
  obtain ⟨its,r,pl,hz⟩:=I.tuple hH
  obtain ⟨⟨oc,dd,data,sl⟩,e,hc,n,hd⟩:=pl
  simp only at hc hd
  subst hc hd
  have hl:=r.length
  have he:its.toArray.isEmpty=false:=by
    cases r with
    | nil=>exact absurd rfl hne
    | cons _ _=>rfl
  refine wpAny_binaryOp_repeat_ref (T:="tuple") (U:="int") (by decide) ⟨_,e,rfl⟩ (fun s'=>typeIs_int s' k t) Zgh F.fills_int_mul F.slot_int_rmul Zi8 F.slot_int_index.lookup
    (call_meets F.slot_int_rmul (typeIs_int s k t) F.entry_int_rmul (F.args_int_rmul_2 _ _) (ZhN k t a its.toArray n dd sl) ⟨e,rfl,⟨_,e,rfl⟩,?_⟩)
  by_cases k1:k=1
  · subst k1
    exact call_meets F.slot_tuple_mul ⟨_,e,rfl⟩ F.entry_tuple_mul (F.args_tuple_mul_2 _ _) (Zic a its.toArray n dd sl t) ⟨e,.ref a,H,I,rfl,q1 rfl⟩
  · by_cases k0:k=0
    · subst k0
      refine call_meets F.slot_tuple_mul ⟨_,e,rfl⟩ F.entry_tuple_mul (F.args_tuple_mul_2 _ _) (Zhq a its.toArray n dd sl t he) ⟨e,.ref s.heap.objs.size,_,I.laid (t':=s.toks) (o:=.tup []) (fun b ob q=>Heap.get?_push_of_some _ q) (Nat.le_refl _) ?_,rfl,?_⟩
      · exact ⟨Nat.zero_le _,[],.nil,IsTup.new _ _⟩
      · exact q2 k1 _ (I.hok.fresh (Nat.le_refl _))
    · refine call_meets F.slot_tuple_mul ⟨_,e,rfl⟩ F.entry_tuple_mul (F.args_tuple_mul_2 _ _) (Zhr a its.toArray n dd sl k t he (by omega) h1 (by rw [List.size_toArray,←hl]; exact h2)) ⟨e,?_⟩
      have hnew:List.foldl (fun x1 x2=>x1++x2) #[] (List.replicate k.toNat its.toArray)=(List.replicate k.toNat its).flatten.toArray:=by
        have:=Ze9 its k.toNat []
        rw [List.nil_append] at this
        exact this
      rw [hnew]
      refine ⟨.ref s.heap.objs.size,_,I.laid (t':=s.toks) (o:=.tup (List.replicate k.toNat xs).flatten) (fun b ob q=>Heap.get?_push_of_some _ q) (Nat.le_refl _) ?_,rfl,q2 k1 _ (I.hok.fresh (Nat.le_refl _))⟩
      refine ⟨?_,_,r.rep k.toNat,IsTup.new _ _⟩
      rw [Zje,sizeLine_eq]
      have e2:((k.toNat*xs.length:Nat):Int)=(xs.length:Int)*k:=by
        rw [Int.natCast_mul,Int.mul_comm]
        congr 1
        omega
      omega
end
end L2
set_option Elab.async false
set_option linter.all false
set_option maxRecDepth 100000
set_option maxHeartbeats 4000000
namespace My
open PySem L2
def ZaP (t:Int):Int:=if t=0 then 0 else (t-1) % 65535+1
theorem ZmX {t:Int} (h:0≤t):0≤ZaP t∧ZaP t≤65535∧(ZaP t-t) % 65535=0∧(ZaP t=0↔t=0):=by
  unfold ZaP; split<;>omega
theorem Zfp {t:Int} (h:0≤t) (h1:t≤65535):ZaP t=t:=by
  unfold ZaP; split<;>omega
theorem ZiN {t:Int} (h:65535<t):ZaP (t % 65536+t/65536)=ZaP t∧0≤t % 65536+t/65536∧t % 65536+t/65536<t:=by
  unfold ZaP
  rw [if_neg (by omega),if_neg (by omega)]
  omega
def zu:List Int→Int
  | []=>0
  | [a]=>256*a
  | a::b::r=>256*a+b+zu r
def Zej:List Int→List Int
  | []=>[]
  | [a]=>[a]
  | a::_::r=>a::Zej r
def ZhA:List Int→List Int
  | []=>[]
  | [_]=>[]
  | _::b::r=>b::ZhA r
theorem Zmj:∀ns:List Int,256*(Zej ns).sum+(ZhA ns).sum=zu ns
  | []=>rfl
  | [a]=>by simp [Zej,ZhA,zu]
  | a::b::r=>by
    have:=Zmj r
    simp only [Zej,ZhA,zu,List.sum_cons]
    omega
theorem Zmh:∀{ns:List Int},(∀z∈ns,0≤z)→0≤zu ns
  | [],_=>by simp [zu]
  | [a],h=>by have:=h a (by simp); simp only [zu]; omega
  | a::b::r,h=>by
    have h1:=h a (by simp)
    have h2:=h b (by simp)
    have h3:=Zmh (ns:=r) fun z hz=>h z (by simp [hz])
    simp only [zu]; omega
theorem Zhm:∀{ns ms:List Int},ns.length % 2=0→zu (ns++ms)=zu ns+zu ms
  | [],ms,_=>by simp [zu]
  | [a],ms,h=>by simp at h
  | a::b::r,ms,h=>by
    have:=Zhm (ns:=r) (ms:=ms) (by simp only [List.length_cons] at h; omega)
    show zu (a::b::(r++ms))=_
    simp only [zu,this]
    omega
theorem Zl9 {w:Int} (h:0≤w):ZaP (w+(256*((65535-ZaP w)/256)+(65535-ZaP w) % 256))=65535:=by
  have e:256*((65535-ZaP w)/256)+(65535-ZaP w) % 256=65535-ZaP w:=by omega
  rw [e]
  unfold ZaP
  split<;>split<;>omega
theorem ZcX:∀(m:Nat) (ns:List Int),ns.length≤2*m→((List.range m).map fun k=>2*k).filterMap (fun i=>(ns.map V.int)[i]?)=(Zej ns).map V.int
  | 0,ns,h=>by
    have:ns=[]:=List.length_eq_zero_iff.mp (by omega)
    subst this; rfl
  | m+1,ns,h=>by
    rw [List.range_succ_eq_map,List.map_cons,List.map_map]
    have shift:∀(xs:List Int),(List.map ((fun k=>2*k)∘Nat.succ) (List.range m)).filterMap (fun i=>(xs.map V.int)[i]?)=((List.range m).map fun k=>2*k).filterMap (fun i=>((xs.drop 2).map V.int)[i]?):=fun xs=>by
      rw [List.filterMap_map,List.filterMap_map]
      congr 1
      funext k
      show (xs.map V.int)[2*(k+1)]?=((xs.drop 2).map V.int)[2*k]?
      rw [List.getElem?_map,List.getElem?_map,List.getElem?_drop]
      congr 2
      omega
    match ns,h with
    | [],_=>
      have:=shift []
      rw [List.filterMap_cons_none (by rfl),this,ZcX m _ (by simp)]
      rfl
    | [a],_=>
      have:=shift [a]
      rw [List.filterMap_cons_some (b:=V.int a) (by rfl),this,ZcX m _ (by simp)]
      rfl
    | a::b::r,h=>
      have:=shift (a::b::r)
      rw [List.filterMap_cons_some (b:=V.int a) (by rfl),this,ZcX m _ (by simp only [List.length_cons] at h; simp; omega)]
      rfl
theorem ZmE:∀ns:List Int,ZhA ns=Zej (ns.drop 1)
  | []=>rfl
  | [_]=>rfl
  | [_,_]=>rfl
  | _::b::c::r=>by
    have:=ZmE (c::r)
    simp only [ZhA,List.drop,Zej] at *
    rw [this]
theorem ZnJ (ns:List Int):Zev (ns.map V.int) none none (some 2)=(Zej ns).map V.int:=by
  unfold Zev sliceBounds sliceRange
  simp only [Option.getD_some,List.length_map,show ((2:Int) > 0)=True from eq_true (by decide),if_true]
  have e:(if (0:Int)<(ns.length:Int) then ((ns.length:Int)-0+2-1)/2 else 0).toNat=(ns.length+1)/2:=by split<;>omega
  rw [e]
  have e2:(fun k:Nat=>((0:Int)+2*(k:Int)).toNat)=fun k=>2*k:=by funext k; omega
  rw [e2]
  exact ZcX _ ns (by omega)
theorem ZqL (ns:List Int):Zev (ns.map V.int) (some 1) none (some 2)=(ZhA ns).map V.int:=by
  unfold Zev sliceBounds sliceRange
  simp only [Option.getD_some,List.length_map,show ((2:Int) > 0)=True from eq_true (by decide),show ((1:Int)<0)=False from eq_false (by decide),if_true,if_false]
  rw [ZmE]
  by_cases h:ns.length=0
  · have:ns=[]:=List.length_eq_zero_iff.mp h
    subst this; rfl
  · have e0:max (0:Int) (min 1 (ns.length:Int))=1:=by omega
    rw [e0]
    have e:(if (1:Int)<(ns.length:Int) then ((ns.length:Int)-1+2-1)/2 else 0).toNat=ns.length/2:=by split<;>omega
    rw [e,←ZcX (ns.length/2) (ns.drop 1) (by rw [List.length_drop]; omega),List.filterMap_map,List.filterMap_map]
    congr 1
    funext k
    show (ns.map V.int)[((1:Int)+2*(k:Int)).toNat]?=((ns.drop 1).map V.int)[2*k]?
    rw [List.getElem?_map,List.getElem?_map,List.getElem?_drop]
    congr 2
theorem ZiO:∀ns:List Int,(Zej ns).length≤ns.length
  | []=>Nat.le_refl _
  | [_]=>Nat.le_refl _
  | _::_::r=>by have:=ZiO r; simp only [Zej,List.length_cons]; omega
theorem Zk7:∀ns:List Int,(ZhA ns).length≤ns.length
  | []=>Nat.le_refl _
  | [_]=>Nat.zero_le _
  | _::_::r=>by have:=Zk7 r; simp only [ZhA,List.length_cons]; omega
def wpre (ns:List Int):Nat→Int
  | 0=>0
  | i+1=>wpre ns i+ns.getD i 0*(if i % 2=0 then 256 else 1)
theorem ZkP (a b:Int) (r:List Int):∀i,wpre (a::b::r) (i+2)=256*a+b+wpre r i
  | 0=>by simp [wpre]; omega
  | i+1=>by
    have e:(i+2) % 2=i % 2:=by omega
    rw [wpre,ZkP a b r i]
    show _+r.getD i 0*(if (i+2) % 2=0 then 256 else 1)=256*a+b+(wpre r i+r.getD i 0*(if i % 2=0 then 256 else 1))
    rw [e]
    omega
theorem ZkQ:∀ns:List Int,wpre ns ns.length=zu ns
  | []=>rfl
  | [a]=>by simp [wpre,zu]; omega
  | a::b::r=>by
    show wpre (a::b::r) (r.length+2)=_
    rw [ZkP,ZkQ r]
    rfl
end My
set_option Elab.async false
set_option linter.all false
set_option maxRecDepth 100000
namespace L2
open PySem PySem.Spec PyProof.Rows
section
variable {κ:Type} [DecidableEq κ]
def valV (kvs:List (κ×V)) (k:κ):Option V:=(kvs.find? fun kv=>decide (kv.1=k)).map (·.2)
def Zeu (kvs:List (κ×V)) (k:κ) (v:V):List (κ×V):=
  if (kvs.any fun kv=>decide (kv.1=k))=true then kvs.map (fun kv=>if kv.1=k then (kv.1,v) else kv) else kvs++[(k,v)]
def Zfg (kvs:List (κ×V)) (k:κ):List (κ×V):=kvs.filter fun kv=>decide (kv.1≠k)
theorem Zho {p:κ×V} {r:List (κ×V)} {k:κ} (e:p.1=k):valV (p::r) k=some p.2:=by simp [valV,List.find?_cons,e]
theorem Zhp {p:κ×V} {r:List (κ×V)} {k:κ} (e:¬p.1=k):valV (p::r) k=valV r k:=by simp [valV,List.find?_cons,e]
theorem ZkR (k:κ):∀kvs:List (κ×V),(kvs.any fun kv=>decide (kv.1=k))=(valV kvs k).isSome
  | []=>rfl
  | p::r=>by
    rw [List.any_cons]
    by_cases e:p.1=k
    · simp only [Zho e,decide_eq_true e,Bool.true_or,Option.isSome_some]
    · rw [Zhp e,decide_eq_false e,Bool.false_or]; exact ZkR k r
theorem Zlh (kvs:List (κ×V)) (k:κ) (v:V):(Zeu kvs k v).length≤kvs.length+1:=by
  unfold Zeu
  split
  · rw [List.length_map]; omega
  · rw [List.length_append,List.length_cons,List.length_nil]; omega
theorem RelO.isSome_eq {o:Option V} {u:Option Value} (r:RelO o u):o.isSome=u.isSome:=by
  cases o with
  | none=>cases u with
    | none=>rfl
    | some _=>exact (show False from r).elim
  | some _=>cases u with
    | none=>exact (show False from r).elim
    | some _=>rfl
theorem RelO.getD {o:Option V} {u:Option Value} {d:V} {d':Value} (r:RelO o u) (rd:RelV d d'):RelV (o.getD d) (u.getD d'):=by
  cases o with
  | none=>cases u with
    | none=>exact rd
    | some _=>exact (show False from r).elim
  | some _=>cases u with
    | none=>exact (show False from r).elim
    | some _=>exact r
theorem KV.val {kvs:List (κ×V)} {vs:List (κ×Value)} (r:KV kvs vs) (k:κ):RelO (valV kvs k) (valueAt vs k):=by
  unfold KV at r
  induction r with
  | nil=>exact True.intro
  | @cons p q ps qs h t ih=>
    obtain ⟨h1,h2⟩:=h
    by_cases e:p.1=k
    · have e':q.1=k:=h1.symm.trans e
      have b:valueAt (q::qs) k=some q.2:=by simp [valueAt,List.find?_cons,e']
      rw [Zho e,b]; exact h2
    · have e':¬q.1=k:=fun z=>e (h1.trans z)
      have b:valueAt (q::qs) k=valueAt qs k:=by simp [valueAt,List.find?_cons,e']
      rw [Zhp e,b]; exact ih
theorem KV.any {kvs:List (κ×V)} {vs:List (κ×Value)} (r:KV kvs vs) (k:κ):(kvs.any fun kv=>decide (kv.1=k))=vs.any fun kv=>decide (kv.1=k):=by
  unfold KV at r
  induction r with
  | nil=>rfl
  | cons h t ih=>rw [List.any_cons,List.any_cons,ih,h.1]
theorem KV.repl {kvs:List (κ×V)} {vs:List (κ×Value)} (r:KV kvs vs) (k:κ) {y:V} {u:Value} (ry:RelV y u) :
    KV (kvs.map fun kv=>if kv.1=k then (kv.1,y) else kv) (vs.map fun kv=>if kv.1=k then (kv.1,u) else kv):=by
  unfold KV at r ⊢
  induction r with
  | nil=>exact .nil
  | @cons p q ps qs h t ih=>
    rw [List.map_cons,List.map_cons]
    refine .cons ?_ ih
    obtain ⟨h1,h2⟩:=h
    by_cases e:p.1=k
    · rw [if_pos e,if_pos (h1.symm.trans e)]; exact ⟨h1,ry⟩
    · rw [if_neg e,if_neg (fun z=>e (h1.trans z))]; exact ⟨h1,h2⟩
theorem KV.put {kvs:List (κ×V)} {vs:List (κ×Value)} (r:KV kvs vs) (k:κ) {y:V} {u:Value} (ry:RelV y u):KV (Zeu kvs k y) (stored vs k u):=by
  unfold Zeu stored
  rw [r.any k]
  by_cases e:(vs.any fun kv=>decide (kv.1=k))=true
  · rw [if_pos e,if_pos e]; exact r.repl k ry
  · rw [if_neg e,if_neg e]; exact Paired.snoc r ⟨rfl,ry⟩
theorem KV.drop {kvs:List (κ×V)} {vs:List (κ×Value)} (r:KV kvs vs) (k:κ):KV (Zfg kvs k) (without vs k):=by
  unfold KV at r ⊢
  unfold Zfg without
  induction r with
  | nil=>exact .nil
  | @cons p q ps qs h t ih=>
    obtain ⟨h1,h2⟩:=h
    rw [List.filter_cons,List.filter_cons]
    by_cases e:p.1=k
    · have a:¬decide (p.1≠k)=true:=by simp [e]
      have b:¬decide (q.1≠k)=true:=by simp [h1.symm.trans e]
      rw [if_neg a,if_neg b]; exact ih
    · have e':¬q.1=k:=fun z=>e (h1.trans z)
      have a:decide (p.1≠k)=true:=by simp [e]
      have b:decide (q.1≠k)=true:=by simp [e']
      rw [if_pos a,if_pos b]; exact .cons ⟨h1,h2⟩ ih
theorem KV.length {kvs:List (κ×V)} {vs:List (κ×Value)} (r:KV kvs vs):kvs.length=vs.length:=Paired.length r
theorem Zlu (kvs:List (κ×V)) (k:κ):(Zfg kvs k).length≤kvs.length:=List.length_filter_le _ _
end
theorem Zlk {P:Program} {w:World} {k:Key} {u:Value} (r:RelV (kV k) u):(ZaF P w).is k u=true:=by
  cases k with
  | inl i=>obtain ⟨t,e⟩:=(show ∃t,u=Value.int i t from r); subst e; exact Zld P w i t
  | inr x=>obtain ⟨t,e⟩:=(show ∃t,u=Value.str x t from r); subst e; exact Zlc P w x t
theorem ZiJ {P:Program} {w:World}:∀{ks:List Key} {us:List Value},Vals (ks.map kV) us→ItemsAre (ZaF P w) ks us
  | [],_,r=>by rw [List.map_nil] at r; cases r; exact .nil
  | k::ks,_,r=>by
    rw [List.map_cons] at r
    cases r with
    | cons h t=>exact .cons (Zlk h) (ZiJ t)
abbrev KT (H:Hp):List (List Key×V)→List (List Key×Addr×Value)→Prop:=Paired fun p q=>p.1=q.1∧H q.2.1=some (.tup (p.1.map kV))∧RelV p.2 q.2.2
theorem KT.val {H:Hp} {kvs:List (List Key×V)} {xs:List (List Key×Addr×Value)} (r:KT H kvs xs) (k:List Key):RelO (valV kvs k) ((atKey xs k).map (·.2)):=by
  induction r with
  | nil=>exact True.intro
  | @cons p q ps qs h t ih=>
    obtain ⟨h1,_,h2⟩:=h
    by_cases e:p.1=k
    · have e':q.1=k:=h1.symm.trans e
      have b:atKey (q::qs) k=some q.2:=by simp [atKey,List.find?_cons,e']
      rw [Zho e,b]; exact h2
    · have e':¬q.1=k:=fun z=>e (h1.trans z)
      have b:atKey (q::qs) k=atKey qs k:=by simp [atKey,List.find?_cons,e']
      rw [Zhp e,b]; exact ih
theorem KT.repl {H:Hp} {kvs:List (List Key×V)} {xs:List (List Key×Addr×Value)} (r:KT H kvs xs) (k:List Key) {y:V} {u:Value} (ry:RelV y u) :
    KT H (kvs.map fun kv=>if kv.1=k then (kv.1,y) else kv) (xs.map (putAt k u)):=by
  induction r with
  | nil=>exact .nil
  | @cons p q ps qs h t ih=>
    rw [List.map_cons,List.map_cons]
    refine .cons ?_ ih
    obtain ⟨h1,h2,h3⟩:=h
    unfold putAt
    by_cases e:p.1=k
    · rw [if_pos e,if_pos (h1.symm.trans e)]; exact ⟨h1,h2,ry⟩
    · rw [if_neg e,if_neg (fun z=>e (h1.trans z))]; exact ⟨h1,h2,h3⟩
theorem KT.put {H:Hp} {kvs:List (List Key×V)} {xs:List (List Key×Addr×Value)} (r:KT H kvs xs) (k:List Key) {b:Addr} {y:V} {u:Value} (hb:H b=some (.tup (k.map kV))) (ry:RelV y u) :
    KT H (Zeu kvs k y) (storedH xs k b u):=by
  have e:(kvs.any fun kv=>decide (kv.1=k))=(atKey xs k).isSome:=by
    rw [ZkR,(r.val k).isSome_eq,Option.isSome_map]
  unfold Zeu storedH
  rw [e]
  by_cases q:(atKey xs k).isSome=true
  · rw [if_pos q,if_pos q]; exact r.repl k ry
  · rw [if_neg q,if_neg q]; exact Paired.snoc r ⟨rfl,hb,ry⟩
theorem KT.keeps {H H':Hp} {kvs:List (List Key×V)} {xs:List (List Key×Addr×Value)} (r:KT H kvs xs) (ht:∀b ys,H b=some (.tup ys)→H' b=some (.tup ys)):KT H' kvs xs:=
  Paired.mapP r fun _ _ z=>⟨z.1,ht _ _ z.2.1,z.2.2⟩
section
variable {P:Program} {w:World} {H:Hp} {h:Heap} {a:Addr}
theorem ZsL {u:HO} (ok:HOk P w H h) (e:Rd H a u):ObjOk P w H h a u:=e.ok ok
theorem ZqH {kvs:List (Key×V)} (ok:HOk P w H h) (e:Rd H a (.dK kvs)):kvs.length≤sizeLine∧(a == sysModules)=false∧∃vs,KV kvs vs∧h.DictOf (ZaF P w) a vs:=
  show ObjOk P w H h a (.dK kvs) from ZsL ok e
theorem ZqI {kvs:List (Key×V)} (ok:HOk P w H h) (e:H a=some (.dK kvs)):kvs.length≤sizeLine∧(a == sysModules)=false∧∃vs,KV kvs vs∧h.DictOf (ZaF P w) a vs:=ZqH ok (.inl e)
theorem Zqo {ks:List Key} (ok:HOk P w H h) (e:H a=some (.tup (ks.map kV))):(tupleKind (ZaF P w)).is h ks a:=by
  obtain ⟨_,its,r,o,h1,h2,n,h3⟩:=(show ObjOk P w H h a (.tup (ks.map kV)) from ok a _ e)
  exact ⟨o,its.toArray,n,h1,h2,h3,by simpa using ZiJ r⟩
theorem ZsY {kvs:List (List Key×V)} (ok:HOk P w H h) (e:Rd H a (.dT kvs)):kvs.length≤sizeLine∧(a == sysModules)=false∧
    ∃xs,KT H kvs xs∧h.DictOfH (tupleKind (ZaF P w)) a xs:=by
  obtain ⟨z,y,xs,r,o,es,ep,h1,h2,h3,h4,h5⟩:=(show ObjOk P w H h a (.dT kvs) from ZsL ok e)
  refine ⟨z,y,xs,r,o,es,ep,h1,h2,h3,h4,fun x hx=>?_,h5⟩
  have all:∀{l:List (List Key×V)} {m:List (List Key×Addr×Value)},KT H l m→∀x∈m,(tupleKind (ZaF P w)).is h x.1 x.2.1:=by
    intro l m q
    induction q with
    | nil=>intro x hx; exact nomatch hx
    | @cons p q ps qs hq t ih=>
      intro x hx
      rcases List.mem_cons.mp hx with e | hx
      · subst e
        exact Zqo ok (by rw [←hq.1]; exact hq.2.1)
      · exact ih x hx
  exact all r x hx
end
def DGet (H:Hp) (a:Addr) (y:V) (r:Option V):Prop:=
  (∃kvs k,Rd H a (.dK kvs)∧y=kV k∧r=valV kvs k)∨∃kvs k b,Rd H a (.dT kvs)∧y=.ref b∧H b=some (.tup (k.map kV))∧r=valV kvs k
def DPut (H:Hp) (a:Addr) (y v:V) (H':Hp):Prop:=
  (∃kvs k,H a=some (.dK kvs)∧y=kV k∧kvs.length<sizeLine∧H'=upd H a (.dK (Zeu kvs k v)))∨
  ∃kvs k b,H a=some (.dT kvs)∧y=.ref b∧H b=some (.tup (k.map kV))∧kvs.length<sizeLine∧H'=upd H a (.dT (Zeu kvs k v))
theorem DGet.k {H:Hp} {a:Addr} {kvs:List (Key×V)} {k:Key} (e:H a=some (.dK kvs)):DGet H a (kV k) (valV kvs k):=.inl ⟨kvs,k,.inl e,rfl,rfl⟩
theorem DGet.t {H:Hp} {a b:Addr} {kvs:List (List Key×V)} {k:List Key} (e:H a=some (.dT kvs)) (eb:H b=some (.tup (k.map kV))):DGet H a (.ref b) (valV kvs k):=.inr ⟨kvs,k,b,.inl e,rfl,eb,rfl⟩
theorem DPut.k {H:Hp} {a:Addr} {kvs:List (Key×V)} {k:Key} {v:V} (e:H a=some (.dK kvs)) (hl:kvs.length<sizeLine):DPut H a (kV k) v (upd H a (.dK (Zeu kvs k v))):=.inl ⟨kvs,k,e,rfl,hl,rfl⟩
theorem DPut.t {H:Hp} {a b:Addr} {kvs:List (List Key×V)} {k:List Key} {v:V} (e:H a=some (.dT kvs)) (eb:H b=some (.tup (k.map kV))) (hl:kvs.length<sizeLine) :
    DPut H a (.ref b) v (upd H a (.dT (Zeu kvs k v))):=.inr ⟨kvs,k,b,e,rfl,eb,hl,rfl⟩
section
variable {X:Cx} {pins:List (Addr×Obj)} {σ:St} {H:Hp} {s:Shared} {a:Addr} {y v:V} {u r:Value} {o:Option V} {A:Around} {E:Value→Shared→Prop}
theorem Inv.big (I:Inv X pins σ H s):sysModules<s.heap.objs.size:=by
  have h:mainGlobals<s.heap.objs.size:=(I.mod.glob.keeps I.bk).lt
  exact Nat.lt_trans (by decide) h
theorem ZzD {Q:Value→Shared→Prop} (hu:A.units+1<cLine) (I:Inv X pins σ H s) (g:DGet H a y o) (ry:RelV y u) (h:∀s',Inv X pins σ H s'→Q (.bool o.isSome) s') :
    wpAny (model X.prog X.w) A (compareOp .In u (.ref a)) Q E s:=by
  rcases g with ⟨kvs,k,e,ey,l⟩ | ⟨kvs,k,b,e,ey,eb,l⟩
  · subst ey
    obtain ⟨z,hd,vs,rel,dd⟩:=ZqH I.hok e
    refine wpAny_in_of (Zlk ry) hd dd.mapOf ?_
    rw [←(rel.val k).isSome_eq,←l]
    exact h _ (I.tok _)
  · subst ey
    cases (show u=Value.ref b from ry)
    obtain ⟨z,hd,xs,rel,dd⟩:=ZsY I.hok e
    refine wpAny_in_heap (tupleKind_room_in1 hu) (Zqo I.hok eb) hd dd ?_
    have q:=(rel.val k).isSome_eq
    rw [Option.isSome_map] at q
    rw [←q,←l]
    exact h _ (I.tok _)
theorem Zjm {h':Heap} {t':Nat} {ob:HO} (I:Inv X pins σ H s) (mu:Mut (H a)) (hs:Heap.SameBut a s.heap h') (he:∃q,h'.get? a=some q) (new:ObjOk X.prog X.w (upd H a ob) h' a ob) :
    Inv X pins σ (upd H a ob) { s with heap:=h',toks:=t' }:=
  I.write (x:=a) (e:=a) mu (.inl rfl) (fun b q hb z=>(hs.2 b hb).trans z) he new
theorem Zmc {P:Program} {w:World} {H':Hp} {h':Heap} {kvs:List (Key×V)} {vs:List (Key×Value)} (z:kvs.length≤sizeLine) (hd:(a == sysModules)=false) (rel:KV kvs vs) (dd:h'.DictOf (ZaF P w) a vs) :
    ObjOk P w H' h' a (.dK kvs):=⟨z,hd,vs,rel,dd⟩
end
section
variable {X:Cx} {pins:List (Addr×Obj)} {σ:St} {H:Hp} {s:Shared} {a:Addr} {kvs:List (Key×V)} {k:Key} {u:Value} {A:Around} {E:Value→Shared→Prop}
theorem ZuL {Q:Unit→Shared→Prop} (I:Inv X pins σ H s) (e:H a=some (.dK kvs)) (ry:RelV (kV k) u) (l:(valV kvs k).isSome=true) (h:∀s',Inv X pins σ (upd H a (.dK (Zfg kvs k))) s'→Q () s') :
    wpAny (model X.prog X.w) A (delItem (.ref a) u) Q E s:=by
  obtain ⟨z,hd,vs,rel,dd⟩:=ZqI I.hok e
  refine wpAny_delItem_slot dd.typeIs (by decide) PySem.F.slot_dict_delitem
    (call_meetsIn PySem.F.slot_dict_delitem dd.typeIs PySem.F.entry_dict_delitem (PySem.F.args_dict_delitem_2 _ _) (meets_dict_delitem_pairs (ZaF X.prog X.w) a (Zlk ry)) ⟨vs,dd,by rw [←rel.length]; exact z,by rw [←(rel.val k).isSome_eq]; exact l,fun h' dd' hs=>h _ ?_⟩)
  have he:∃q,h'.get? a=some q:=let ⟨q,_,_,hq,_⟩:=dd'; ⟨q,hq⟩
  exact Zjm I (by rw [e]; exact True.intro) hs he (Zmc (Nat.le_trans (Zlu kvs k) z) hd (rel.drop k) dd')
theorem Zv1 {v:V} {more:List Value} {Q:Value→Shared→Prop} (I:Inv X pins σ H s) (e:H a=some (.dK kvs)) (ry:RelV (kV k) u) (l:valV kvs k=some v) (hm:more=[]∨∃x,more=[x])
    (h:∀w' s',Inv X pins σ (upd H a (.dK (Zfg kvs k))) s'→RelV v w'→Q w' s'):wpAny (model X.prog X.w) A (call (.builtin "dict.pop") (.ref a::u::more)) Q E s:=by
  obtain ⟨z,hd,vs,rel,dd⟩:=ZqI I.hok e
  obtain ⟨w',hw,rw'⟩:=RelO.some_of (v:=v) (o:=valueAt vs k) (by rw [←l]; exact rel.val k)
  have hp:(keyPart u).isSome=true:=by
    cases k with
    | inl i=>obtain ⟨t,q⟩:=(show ∃t,u=Value.int i t from ry); subst q; rfl
    | inr x=>obtain ⟨t,q⟩:=(show ∃t,u=Value.str x t from ry); subst q; rfl
  have ha:argsOk "dict.pop" ⟨.ref a::u::more,[]⟩:=by
    rcases hm with q | ⟨x,q⟩
    · subst q; exact PySem.F.args_dict_pop_2 _ _
    · subst q; exact PySem.F.args_dict_pop_3 _ _ _
  refine call_meetsIn PySem.F.slot_dict_pop dd.typeIs PySem.F.entry_dict_pop ha (meets_dict_pop_there (ZaF X.prog X.w) a (Zlk ry) more hm hp)
    ⟨vs,w',dd,by rw [←rel.length]; exact z,hw,fun h' dd' hs=>h w' _ ?_ rw'⟩
  have he:∃q,h'.get? a=some q:=let ⟨q,_,_,hq,_⟩:=dd'; ⟨q,hq⟩
  exact Zjm I (by rw [e]; exact True.intro) hs he (Zmc (Nat.le_trans (Zlu kvs k) z) hd (rel.drop k) dd')
end
def Zvb (ty td:TE):TE:=fun σ H Q=>ty σ H fun y H1=>td σ H1 fun x H2=>∃a o,x=.ref a∧DGet H2 a y o∧Q (.bl o.isSome) H2
section
variable {X:Cx} {o i e value:Expr} {pos pos' tpos:Pos} {td ty tv:TE}
theorem ZtU (hu:X.A.units+1<cLine) (hi:PE X i ty) (ho:PE X o td):PC X .In i o (Zvb ty td):=by
  intro pins s σ H Q I h
  refine thn (hi pins s σ H _ I h) fun iv s1 ⟨y,H1,I1,ry,q1⟩=>thn (ho pins s1 σ H1 _ I1 q1) fun u s2 ⟨x,H2,I2,rx,a,ov,ex,g,q2⟩=>?_
  subst ex
  obtain rfl:u=Value.ref a:=rx
  exact ZzD hu I2 g ry fun s3 I3=>⟨.bl ov.isSome,H2,I3,rfl,q2⟩
end
theorem ZqJ {P:Program} {w:World} {H:Hp} (h:Heap) (hb:sysModules<h.objs.size):ObjOk P w H (h.push { cls:=.type "dict",data:=.dict #[] }) h.objs.size (.dK []):=
  ⟨Nat.zero_le _,beq_eq_false_iff_ne.mpr (Ne.symm (Nat.ne_of_lt hb)),[],.nil,Heap.DictOf.new h⟩
def Ztt:TE:=fun _ H Q=>∀p,H p=none→Q (.ref p) (upd H p (.dK []))
section
variable {X:Cx} {pos:Pos}
theorem ZpU:PE X (.Dict [] [] pos) Ztt:=fun pins s σ H Q I h=>
  wpAny_Dict_empty ⟨.ref s.heap.objs.size,_,I.laid (a:=s.heap.objs.size) (o:=.dK []) (t':=s.toks) (fun _ _ q=>Heap.get?_push_of_some _ q) (Nat.le_refl _) (ZqJ s.heap I.big),rfl,h _ (I.hok.fresh (Nat.le_refl _))⟩
end
structure M1 (X:Cx) (o:Expr) (m:Str) (apos:Pos) (e:Expr) (cpos:Pos):Prop where
  base:attributeBase o m X.env (eval o X.env)=eval o X.env
  few:((backTo cpos (starEach [e] X.env)).all (fun x=>!x.1) && (backToKw cpos (keywordEach [] X.env)).all (fun x=>x.1.isSome)
    && decide (([e]:List Expr).length+([]:List Keyword).length+(if ([]:List Keyword).isEmpty then 0 else 1)<30))=true
  line:(apos.endLine == cpos.line)=true
  trees:backTo cpos (starEach [e] X.env)=[(false,eval e X.env)]
structure M2 (X:Cx) (o:Expr) (m:Str) (apos:Pos) (e f:Expr) (cpos:Pos):Prop where
  base:attributeBase o m X.env (eval o X.env)=eval o X.env
  few:((backTo cpos (starEach [e,f] X.env)).all (fun x=>!x.1) && (backToKw cpos (keywordEach [] X.env)).all (fun x=>x.1.isSome)
    && decide (([e,f]:List Expr).length+([]:List Keyword).length+(if ([]:List Keyword).isEmpty then 0 else 1)<30))=true
  line:(apos.endLine == cpos.line)=true
  trees:backTo cpos (starEach [e,f] X.env)=[(false,eval e X.env),(false,eval f X.env)]
def IsD (H:Hp) (a:Addr):Prop:=(∃kvs,Rd H a (.dK kvs))∨∃kvs,Rd H a (.dT kvs)
theorem Zqp {X:Cx} {pins:List (Addr×Obj)} {σ:St} {H:Hp} {s:Shared} {a:Addr} (I:Inv X pins σ H s) (d:IsD H a) :
    s.TypeIs (.ref a) "dict"∧(∀b,Value.ref a=.ref b→∃ob,s.heap.get? b=some ob∧ob.dict=none)∧(a == sysModules)=false:=by
  rcases d with ⟨kvs,e⟩ | ⟨kvs,e⟩
  · obtain ⟨_,hd,vs,_,dd⟩:=ZqH I.hok e
    refine ⟨dd.typeIs,fun b q=>?_,hd⟩
    cases q
    obtain ⟨ob,_,_,h1,h2,_⟩:=dd
    exact ⟨ob,h1,h2.2.1⟩
  · obtain ⟨_,hd,xs,_,dd⟩:=ZsY I.hok e
    refine ⟨dd.typeIs,fun b q=>?_,hd⟩
    cases q
    obtain ⟨ob,_,_,h1,h2,_⟩:=dd
    exact ⟨ob,h1,h2.2.1⟩
section
variable {X:Cx} {pins:List (Addr×Obj)} {σ:St} {H:Hp} {s:Shared} {a:Addr} {y d:V} {u r:Value} {o:Option V} {A:Around} {E:Value→Shared→Prop}
end
def Zts (td ty:TE):TE:=fun σ H Q=>td σ H fun x H1=>∃a,x=.ref a∧IsD H1 a∧ty σ H1 fun y H2=>∃kvs k v,H2 a=some (.dK kvs)∧y=kV k∧valV kvs k=some v∧Q v (upd H2 a (.dK (Zfg kvs k)))
section
variable {X:Cx} {o e f:Expr} {apos cpos:Pos} {td ty tx:TE}
theorem ZpT (ho:PE X o td) (he:PE X e ty) (m:M1 X o "pop" apos e cpos):PE X (.Call (.Attribute o "pop" apos) [e] [] cpos) (Zts td ty):=by
  intro pins s σ H Q I h
  refine wpAny_Call_method m.base m.few m.line PySem.F.plainAttrs_dict PySem.F.slot_dict_pop PySem.F.type_dict_pop (thn (ho pins s σ H _ I h) fun u s1 ⟨x,H1,I1,rx,a,ex,d,q1⟩=>?_)
  subst ex
  obtain rfl:u=Value.ref a:=rx
  obtain ⟨t1,t2,_⟩:=Zqp I1 d
  refine ⟨t1,t2,?_⟩
  rw [m.trees]
  refine Calls.callWith_builtin rfl (Calls.evalArgs_plain (Calls.spliced_cons (thn (he pins s1 σ H1 _ I1 q1) fun iv s2 ⟨y,H2,I2,ry,kvs,k,v,ea,ey,l,q2⟩=>Calls.spliced_nil ?_)))
  subst ey
  exact Zv1 I2 ea ry l (.inl rfl) fun w' s3 I3 rw'=>⟨v,_,I3,rw',q2⟩
end
section
variable {X:Cx} {pins:List (Addr×Obj)} {σ:St} {H:Hp} {s:Shared} {a:Addr} {kvs:List (Key×V)} {A:Around} {E:Value→Shared→Prop}
end
section
variable {X:Cx} {pins:List (Addr×Obj)} {σ:St} {H:Hp} {s:Shared} {a:Addr} {y:V} {u:Value} {A:Around} {E:Value→Shared→Prop}
end
end L2
set_option Elab.async false
set_option linter.all false
set_option maxRecDepth 100000
set_option maxHeartbeats 4000000
namespace L2.MM
open PySem PySem.Spec PyProof.Rows
theorem nr {α:Sort _} {a b:α} (h:a=b):a=b:=h
inductive D where
  | non | bl (b:Bool) | int (i:Int) | str (x:Str) | ty (n:String)
  | scr (ns:List Int) | tup (xs:List D) | lst (xs:List D) | ref (l:Nat)
  deriving Inhabited
inductive Cell where
  | lst (xs:List D) | dK (kvs:List (Key×D)) | dT (kvs:List (List Key×D)) | ins (C:Str) (fs:List (Str×D))
abbrev Sto:=List Cell
structure Bx where
  n:Nat
  m:Nat→Addr
  F:Addr→Prop
  os:List Addr
  ks:Addr→List Int→Prop
def Bx.ok (B:Bx) (a:Addr):Prop:=(∀i,i<B.n→B.m i≠a)∧¬B.F a∧a∉B.os
mutual
def RepV (B:Bx) (H:Hp):D→V→Prop
  | .non,v=>v=.non
  | .bl b,v=>v=.bl b
  | .int i,v=>v=.int i
  | .str x,v=>v=.str x
  | .ty n,v=>v=.ty n
  | .scr ns,v=>∃a,v=.ref a∧((∃o,H a=some (.frz o (.lst (ns.map V.int)))∧B.ok a)∨B.ks a ns)
  | .tup xs,v=>∃a vs,v=.ref a∧H a=some (.tup vs)∧B.ok a∧RepL B H xs vs
  | .lst xs,v=>∃a vs,v=.ref a∧H a=some (.lst vs)∧B.ok a∧RepL B H xs vs
  | .ref l,v=>l<B.n∧v=.ref (B.m l)
def RepL (B:Bx) (H:Hp):List D→List V→Prop
  | [],vs=>vs=[]
  | d::ds,vs=>∃v r,vs=v::r∧RepV B H d v∧RepL B H ds r
end
abbrev RepKV {κ:Type} (B:Bx) (H:Hp):List (κ×D)→List (κ×V)→Prop:=Paired fun p q=>p.1=q.1∧RepV B H p.2 q.2
structure ExtS (B B':Bx) (H H':Hp):Prop where
  n:B.n≤B'.n
  m:∀i,i<B.n→B'.m i=B.m i
  fr:∀i,B.n≤i→i<B'.n→H (B'.m i)=none
  keep:∀a o,H a=some o→(∀i,i<B.n→B.m i≠a)→a∉B.os→H' a=some o
  sm:∀a,H a≠none→H' a≠none
  os:∀a,a∈B'.os→a∈B.os∨H a=none
  F:B'.F=B.F
  ks:B'.ks=B.ks
structure ExtE (B B':Bx) (H H':Hp):Prop extends ExtS B B' H H' where
  osE:B'.os=B.os
  ko:∀a o,a∈B.os→(∀i,i<B.n→B.m i≠a)→H a=some o→H' a=some o
theorem ExtS.refl (B:Bx) (H:Hp):ExtS B B H H:=⟨Nat.le_refl _,fun _ _=>rfl,fun i h h'=>absurd h' (Nat.not_lt.mpr h),fun _ _ h _ _=>h,fun _ h=>h,fun _ h=>.inl h,rfl,rfl⟩
theorem ExtE.refl (B:Bx) (H:Hp):ExtE B B H H:=⟨ExtS.refl B H,rfl,fun _ _ _ _ h=>h⟩
section
variable {B B' B'':Bx} {H H' H'':Hp}
theorem Bx.ok.ext {a:Addr} {o:HO} (k:B.ok a) (E:ExtS B B' H H') (h:H a=some o):B'.ok a∧H' a=some o:=by
  refine ⟨⟨fun i hi e=>?_,by rw [E.F]; exact k.2.1,fun z=>?_⟩,E.keep a o h k.1 k.2.2⟩
  · by_cases q:i<B.n
    · rw [E.m i q] at e; exact k.1 i q e
    · have:=E.fr i (Nat.not_lt.mp q) hi
      rw [e,h] at this; cases this
  · rcases E.os a z with z | z
    · exact k.2.2 z
    · rw [h] at z; cases z
theorem ExtS.trans (E:ExtS B B' H H') (E':ExtS B' B'' H' H''):ExtS B B'' H H'' where
  n:=Nat.le_trans E.n E'.n
  m:=fun i hi=>(E'.m i (Nat.lt_of_lt_of_le hi E.n)).trans (E.m i hi)
  fr:=fun i h1 h2=>by
    by_cases q:i<B'.n
    · rw [E'.m i q]; exact E.fr i h1 q
    · cases z:H (B''.m i) with
      | none=>rfl
      | some o=>exact absurd (E'.fr i (Nat.not_lt.mp q) h2) (E.sm _ (by rw [z]; simp))
  keep:=fun a o h h1 h2=>by
    have h':=E.keep a o h h1 h2
    refine E'.keep a o h' (fun i hi e=>?_) (fun z=>?_)
    · by_cases q:i<B.n
      · rw [E.m i q] at e; exact h1 i q e
      · have:=E.fr i (Nat.not_lt.mp q) hi
        rw [e,h] at this; cases this
    · rcases E.os a z with z | z
      · exact h2 z
      · rw [h] at z; cases z
  sm:=fun a h=>E'.sm a (E.sm a h)
  os:=fun a h=>by
    rcases E'.os a h with z | z
    · exact E.os a z
    · right
      cases q:H a with
      | none=>rfl
      | some o=>exact absurd z (E.sm a (by rw [q]; simp))
  F:=E'.F.trans E.F
  ks:=E'.ks.trans E.ks
theorem ExtE.trans (E:ExtE B B' H H') (E':ExtE B' B'' H' H''):ExtE B B'' H H'' where
  toExtS:=E.toExtS.trans E'.toExtS
  osE:=E'.osE.trans E.osE
  ko:=fun a o ha h1 h=>by
    have h':=E.ko a o ha h1 h
    refine E'.ko a o (by rw [E.osE]; exact ha) (fun i hi e=>?_) h'
    by_cases q:i<B.n
    · rw [E.m i q] at e; exact h1 i q e
    · have:=E.fr i (Nat.not_lt.mp q) hi
      rw [e,h] at this; cases this
mutual
theorem RepV.ext (E:ExtS B B' H H'):∀{d:D} {v:V},RepV B H d v→RepV B' H' d v
  | .non,_,h=>h
  | .bl _,_,h=>h
  | .int _,_,h=>h
  | .str _,_,h=>h
  | .ty _,_,h=>h
  | .scr _,_,h=>by
    obtain ⟨a,e,h⟩:=h
    refine ⟨a,e,?_⟩
    rcases h with ⟨o,h,k⟩ | h
    · obtain ⟨k',h'⟩:=k.ext E h
      exact .inl ⟨o,h',k'⟩
    · exact .inr (by rw [E.ks]; exact h)
  | .tup _,_,h=>by
    obtain ⟨a,vs,e,h,k,l⟩:=h
    obtain ⟨k',h'⟩:=k.ext E h
    exact ⟨a,vs,e,h',k',RepL.ext E l⟩
  | .lst _,_,h=>by
    obtain ⟨a,vs,e,h,k,l⟩:=h
    obtain ⟨k',h'⟩:=k.ext E h
    exact ⟨a,vs,e,h',k',RepL.ext E l⟩
  | .ref l,_,h=>⟨Nat.lt_of_lt_of_le h.1 E.n,by rw [h.2,E.m l h.1]⟩
theorem RepL.ext (E:ExtS B B' H H'):∀{ds:List D} {vs:List V},RepL B H ds vs→RepL B' H' ds vs
  | [],_,h=>h
  | _::_,_,h=>by
    obtain ⟨v,r,e,hv,hr⟩:=h
    exact ⟨v,r,e,RepV.ext E hv,RepL.ext E hr⟩
end
theorem RepL.len:∀{ds:List D} {vs:List V},RepL B H ds vs→vs.length=ds.length
  | [],_,h=>by cases (show _=[] from h); rfl
  | _::_,_,h=>by
    obtain ⟨v,r,rfl,_,hr⟩:=h
    simp [RepL.len hr]
theorem RepL.app:∀{ds es:List D} {vs us:List V},RepL B H ds vs→RepL B H es us→RepL B H (ds++es) (vs++us)
  | [],_,_,_,h,q=>by cases (show _=[] from h); exact q
  | _::_,_,_,_,h,q=>by
    obtain ⟨v,r,rfl,hv,hr⟩:=h
    exact ⟨v,_,rfl,hv,RepL.app hr q⟩
theorem RepL.get:∀{ds:List D} {vs:List V} {i:Nat} {d:D},RepL B H ds vs→ds[i]?=some d→∃v,vs[i]?=some v∧RepV B H d v
  | [],_,_,_,_,e=>by simp at e
  | _::_,_,0,_,h,e=>by
    obtain ⟨v,r,rfl,hv,_⟩:=h
    simp at e; subst e
    exact ⟨v,rfl,hv⟩
  | _::_,_,i+1,_,h,e=>by
    obtain ⟨v,r,rfl,_,hr⟩:=h
    obtain ⟨w,q1,q2⟩:=RepL.get (i:=i) hr (by simpa using e)
    exact ⟨w,by simpa using q1,q2⟩
theorem RepL.take:∀{ds:List D} {vs:List V} (n:Nat),RepL B H ds vs→RepL B H (ds.take n) (vs.take n)
  | _,_,0,_=>by rw [List.take_zero,List.take_zero]; exact rfl
  | [],_,n+1,h=>by cases (show _=[] from h); exact rfl
  | _::_,_,n+1,h=>by
    obtain ⟨v,r,rfl,hv,hr⟩:=h
    exact ⟨v,_,rfl,hv,RepL.take n hr⟩
theorem RepL.drop:∀{ds:List D} {vs:List V} (n:Nat),RepL B H ds vs→RepL B H (ds.drop n) (vs.drop n)
  | _,_,0,h=>h
  | [],_,n+1,h=>by cases (show _=[] from h); exact rfl
  | _::_,_,n+1,h=>by
    obtain ⟨v,r,rfl,hv,hr⟩:=h
    exact RepL.drop n hr
theorem RepL.set {d:D} {v:V} (q:RepV B H d v):∀{ds:List D} {vs:List V} (i:Nat),RepL B H ds vs→RepL B H (ds.set i d) (vs.set i v)
  | [],_,_,h=>by cases (show _=[] from h); exact rfl
  | _::_,_,0,h=>by
    obtain ⟨w,r,rfl,_,hr⟩:=h
    exact ⟨v,r,rfl,q,hr⟩
  | _::_,_,i+1,h=>by
    obtain ⟨w,r,rfl,hw,hr⟩:=h
    exact ⟨w,_,rfl,hw,RepL.set q i hr⟩
theorem RepL.map {α:Type} {f:α→D} {g:α→V} (q:∀a,RepV B H (f a) (g a)):∀l:List α,RepL B H (l.map f) (l.map g)
  | []=>rfl
  | a::l=>⟨_,_,rfl,q a,RepL.map q l⟩
theorem RepKV.ext {κ:Type} (E:ExtS B B' H H'):∀{ks:List (κ×D)} {vs:List (κ×V)},RepKV B H ks vs→RepKV B' H' ks vs
  | _,_,.nil=>.nil
  | _,_,.cons h t=>.cons ⟨h.1,RepV.ext E h.2⟩ (RepKV.ext E t)
end
structure Mo where
  cl:Str→Addr
  K:PySem.W.Frag
def KL (K:PySem.W.Frag) (a:Addr) (ns:List Int):Prop:=∃(o:Obj) (its:Array Value) (n:Nat),K.lookup a=some o∧o.cls=.type "list"∧o.dict=none∧o.data=.seq its n∧its.size≤sizeLine∧Vals (ns.map V.int) its.toList
def CellOk (cl:Mo) (B:Bx) (H:Hp) (a:Addr):Cell→Prop
  | .lst xs=>∃vs,H a=some (.lst vs)∧RepL B H xs vs
  | .dK kvs=>∃vs,H a=some (.dK vs)∧RepKV B H kvs vs
  | .dT kvs=>∃vs,H a=some (.dT vs)∧RepKV B H kvs vs
  | .ins C fs=>∃dx vs,H a=some (.ins (cl.cl C) dx vs)∧RepKV B H fs vs
structure Good (cl:Mo) (B:Bx) (θ:Sto) (H:Hp):Prop where
  len:θ.length=B.n
  inj:∀i j,i<B.n→j<B.n→B.m i=B.m j→i=j
  cel:∀i c,θ[i]?=some c→CellOk cl B H (B.m i) c
  cF:∀i,i<B.n→¬B.F (B.m i)∧B.m i∉B.os
  Fs:∀a,B.F a→H a≠none
  oS:∀a,a∈B.os→H a≠none
  oF:∀a,a∈B.os→¬B.F a
  kc:∀a ns,B.ks a ns→KL cl.K a ns
section
variable {cl:Mo} {B B' B'':Bx} {H H' H'':Hp} {θ θ':Sto}
theorem CellOk.ext {a:Addr} {c:Cell} (k:CellOk cl B H a c) (E:ExtS B B' H H') (h:∀o,H a=some o→H' a=some o):CellOk cl B' H' a c:=by
  cases c with
  | lst xs=>obtain ⟨vs,e,r⟩:=k; exact ⟨vs,h _ e,r.ext E⟩
  | dK kvs=>obtain ⟨vs,e,r⟩:=k; exact ⟨vs,h _ e,r.ext E⟩
  | dT kvs=>obtain ⟨vs,e,r⟩:=k; exact ⟨vs,h _ e,r.ext E⟩
  | ins C fs=>obtain ⟨dx,vs,e,r⟩:=k; exact ⟨dx,vs,h _ e,r.ext E⟩
theorem CellOk.there {a:Addr} {c:Cell} (k:CellOk cl B H a c):H a≠none:=by
  cases c with
  | lst xs=>obtain ⟨vs,e,r⟩:=k; rw [e]; simp
  | dK kvs=>obtain ⟨vs,e,r⟩:=k; rw [e]; simp
  | dT kvs=>obtain ⟨vs,e,r⟩:=k; rw [e]; simp
  | ins C fs=>obtain ⟨dx,vs,e,r⟩:=k; rw [e]; simp
theorem Good.there (G:Good cl B θ H) {i:Nat} (hi:i<B.n):H (B.m i)≠none:=by
  have:i < θ.length:=by rw [G.len]; exact hi
  exact (G.cel i _ (List.getElem?_eq_getElem this)).there
theorem Good.okNone (G:Good cl B θ H) {p:Addr} (h:H p=none):B.ok p:=
  ⟨fun i hi e=>G.there hi (by rw [e]; exact h),fun z=>G.Fs p z h,fun z=>G.oS p z h⟩
theorem ZcN (G:Good cl B θ H) {p:Addr} (h:H p=none) (o:HO):ExtE B B H (upd H p o):=by
  have ne:∀a u,H a=some u→upd H p o a=some u:=fun a u e=>by rw [ZP (zh e h)]; exact e
  exact ⟨⟨Nat.le_refl _,fun _ _=>rfl,fun i h h'=>absurd h' (Nat.not_lt.mpr h),fun a u e _ _=>ne a u e,fun a e=>by
    cases q:H a with
    | none=>exact absurd q e
    | some u=>rw [ne a u q]; simp,fun _ h=>.inl h,rfl,rfl⟩,rfl,fun a u _ _ e=>ne a u e⟩
theorem ZeI (G:Good cl B θ H) {p:Addr} (h:H p=none) (o:HO):Good cl B θ (upd H p o):=by
  have E:=ZcN G h o
  exact ⟨G.len,G.inj,fun i c e=>(G.cel i c e).ext E.toExtS fun u q=>by rw [ZP (zh q h)]; exact q,G.cF,fun a z=>E.sm a (G.Fs a z),fun a z=>E.sm a (G.oS a z),G.oF,G.kc⟩
theorem Zrt (G:Good cl B θ H) {p:Addr} (h:H p=none) {xs:List D} {vs:List V} (r:RepL B H xs vs):RepV B (upd H p (.lst vs)) (.lst xs) (.ref p):=
  ⟨p,vs,rfl,zE,G.okNone h,r.ext (ZcN G h _).toExtS⟩
theorem Zrs (G:Good cl B θ H) {p:Addr} (h:H p=none) {xs:List D} {vs:List V} (r:RepL B H xs vs):RepV B (upd H p (.tup vs)) (.tup xs) (.ref p):=
  ⟨p,vs,rfl,zE,G.okNone h,r.ext (ZcN G h _).toExtS⟩
def Bx.push (B:Bx) (p:Addr):Bx:={ B with n:=B.n+1,m:=fun i=>if i=B.n then p else B.m i }
theorem ZhR (G:Good cl B θ H) {p:Addr} (h:H p=none) (o:HO):ExtE B (B.push p) H (upd H p o):=by
  have E:=ZcN G h o
  refine ⟨⟨Nat.le_succ _,fun i hi=>if_neg (Nat.ne_of_lt hi),fun i h1 h2=>?_,E.keep,E.sm,fun _ h=>.inl h,rfl,rfl⟩,rfl,E.ko⟩
  have e:i=B.n:=Nat.le_antisymm (Nat.le_of_lt_succ h2) h1
  show H (if i=B.n then p else B.m i)=none
  rw [if_pos e]; exact h
theorem ZiK (G:Good cl B θ H) {p:Addr} (h:H p=none) {o:HO} {c:Cell} (k:CellOk cl (B.push p) (upd H p o) p c):Good cl (B.push p) (θ++[c]) (upd H p o):=by
  have E:=ZhR G h o
  have hm:∀i,i<B.n→(B.push p).m i=B.m i:=fun i hi=>if_neg (Nat.ne_of_lt hi)
  have hn:(B.push p).m B.n=p:=if_pos rfl
  have cs:∀i,i<(B.push p).n→i<B.n∨i=B.n:=fun i hi=>Nat.lt_succ_iff_lt_or_eq.mp hi
  have ok:=G.okNone h
  refine ⟨by rw [List.length_append,G.len]; rfl,fun i j hi hj e=>?_,fun i c' e=>?_,fun i hi=>?_,fun a z=>E.sm a (G.Fs a z),fun a z=>E.sm a (G.oS a z),G.oF,G.kc⟩
  · rcases cs i hi with a | a<;>rcases cs j hj with b | b
    · rw [hm i a,hm j b] at e; exact G.inj i j a b e
    · rw [hm i a,b,hn] at e; exact absurd e (ok.1 i a)
    · rw [hm j b,a,hn] at e; exact absurd e.symm (ok.1 j b)
    · rw [a,b]
  · by_cases q:i < θ.length
    · rw [List.getElem?_append_left q] at e
      rw [hm i (by rw [←G.len]; exact q)]
      exact (G.cel i c' e).ext E.toExtS fun u z=>by rw [ZP (zh z h)]; exact z
    · have q':=Nat.not_lt.mp q
      rw [List.getElem?_append_right q'] at e
      have:i - θ.length=0:=by
        cases z:i - θ.length with
        | zero=>rfl
        | succ k=>rw [z] at e; simp at e
      rw [this] at e
      simp at e
      subst e
      have:i=B.n:=by rw [←G.len]; omega
      rw [this,hn]; exact k
  · rcases cs i hi with a | a
    · rw [hm i a]; exact G.cF i a
    · rw [a,hn]; exact ⟨ok.2.1,ok.2.2⟩
theorem Zhi (G:Good cl B θ H) {l:Nat} (hl:l<B.n) (o:HO):ExtE B B H (upd H (B.m l) o):=by
  have ne:∀a u,(∀i,i<B.n→B.m i≠a)→H a=some u→upd H (B.m l) o a=some u:=fun a u k e=>by rw [ZP (Ne.symm (k l hl))]; exact e
  exact ⟨⟨Nat.le_refl _,fun _ _=>rfl,fun i h h'=>absurd h' (Nat.not_lt.mpr h),fun a u e k _=>ne a u k e,fun a e=>by
    by_cases q:a=B.m l
    · rw [q,zE]; simp
    · rw [ZP q]; exact e,fun _ h=>.inl h,rfl,rfl⟩,rfl,fun a u _ k e=>ne a u k e⟩
theorem ZhO (G:Good cl B θ H) {l:Nat} (hl:l<B.n) {o:HO} {c:Cell} (k:CellOk cl B (upd H (B.m l) o) (B.m l) c):Good cl B (θ.set l c) (upd H (B.m l) o):=by
  have E:=Zhi G hl o
  refine ⟨by rw [List.length_set]; exact G.len,G.inj,fun i c' e=>?_,G.cF,fun a z=>E.sm a (G.Fs a z),fun a z=>E.sm a (G.oS a z),G.oF,G.kc⟩
  by_cases q:i=l
  · subst q
    rw [List.getElem?_set_self (by rw [G.len]; exact hl)] at e
    cases e; exact k
  · rw [List.getElem?_set_ne (Ne.symm q)] at e
    have hi:i<B.n:=by rw [←G.len]; exact (List.getElem?_eq_some_iff.mp e).1
    exact (G.cel i c' e).ext E.toExtS fun u z=>by rw [ZP (fun z'=>q (G.inj i l hi hl z'))]; exact z
end
inductive R (α:Type) where
  | ok (a:α) (θ:Sto) | ex (c:Str) (θ:Sto) | bad
def R.bind {α β:Type} (r:R α) (k:α→Sto→R β):R β:=match r with
  | .ok a θ=>k a θ
  | .ex c θ=>.ex c θ
  | .bad=>.bad
@[simp] theorem R.bind_ok {α β:Type} (a:α) (θ:Sto) (k:α→Sto→R β):(R.ok a θ).bind k=k a θ:=nr rfl
@[simp] theorem R.bind_bad {α β:Type} (k:α→Sto→R β):(R.bad:R α).bind k=.bad:=nr rfl
inductive Sl where
  | no | val (d:D) | own (xs:List D)
structure Frm (cl:Mo) (B:Bx) (θ:Sto) (ρ:List Sl) (σ:St) (H:Hp):Prop where
  good:Good cl B θ H
  len:ρ.length=σ.length
  val:∀(i:Nat) (d:D),ρ[i]?=some (Sl.val d)→∃v,σ[i]?=some (some v)∧RepV B H d v
  own:∀(i:Nat) (xs:List D),ρ[i]?=some (Sl.own xs)→∃a vs,σ[i]?=some (some (.ref a))∧a∈B.os∧H a=some (.lst vs)∧RepL B H xs vs
  ne:∀(i j:Nat) (xs ys:List D) (a:Addr),i≠j→ρ[i]?=some (Sl.own xs)→ρ[j]?=some (Sl.own ys)→σ[i]?=some (some (.ref a))→σ[j]?≠some (some (.ref a))
theorem Frm.ext {cl:Mo} {B B':Bx} {θ θ':Sto} {ρ:List Sl} {σ:St} {H H':Hp} (F:Frm cl B θ ρ σ H) (E:ExtE B B' H H') (G:Good cl B' θ' H'):Frm cl B' θ' ρ σ H' where
  good:=G
  len:=F.len
  val:=fun i d e=>let ⟨v,h1,h2⟩:=F.val i d e; ⟨v,h1,h2.ext E.toExtS⟩
  own:=fun i xs e=>by
    obtain ⟨a,vs,h1,h2,h3,h4⟩:=F.own i xs e
    exact ⟨a,vs,h1,by rw [E.osE]; exact h2,E.ko a _ h2 (fun i hi z=>(F.good.cF i hi).2 (by rw [z]; exact h2)) h3,h4.ext E.toExtS⟩
  ne:=F.ne
def z0 (mg:Str→Option Value) (x:Str):Addr:=match mg x with
  | some (.ref a)=>a
  | _=>0
abbrev _root_.L2.Cx.cl (X:Cx):Mo:=⟨z0 X.mg,X.K⟩
def XE (X:Cx) (σ:St) (B:Bx) (H:Hp) (c:Str) (θ':Sto):Prop:=False
theorem XE.trans {X:Cx} {σ:St} {B B':Bx} {H H':Hp} {c:Str} {θ':Sto} (h:XE X σ B H c θ') (E:ExtE B B' H H'):XE X σ B' H' c θ':=h
def wpR (X:Cx) (σ:St) {α β:Type} (Rel:Bx→Hp→α→β→Prop) (B:Bx) (H:Hp) (r:R α) (Q:β→Hp→Prop):Prop:=match r with
  | .ok a θ'=>∀B' H' b,ExtE B B' H H'→Good X.cl B' θ' H'→Rel B' H' a b→Q b H'
  | .ex c θ'=>XE X σ B H c θ'
  | .bad=>False
section
variable {X:Cx} {σ:St} {α β γ δ:Type} {Rel:Bx→Hp→α→β→Prop} {Rel':Bx→Hp→γ→δ→Prop} {B B':Bx} {H H':Hp}
theorem wpR.mono {r:R α} {Q Q':β→Hp→Prop} (h:wpR X σ Rel B H r Q) (hQ:∀b H',Q b H'→Q' b H'):wpR X σ Rel B H r Q':=by
  cases r with
  | ok a θ'=>exact fun B' H' b e g q=>hQ _ _ (h B' H' b e g q)
  | ex c θ'=>exact h
  | bad=>exact h
theorem wpR.trans {r:R α} {Q:β→Hp→Prop} (h:wpR X σ Rel B H r Q) (E:ExtE B B' H H'):wpR X σ Rel B' H' r Q:=by
  cases r with
  | ok a θ'=>exact fun B2 H2 b e g q=>h B2 H2 b (E.trans e) g q
  | ex c θ'=>exact XE.trans (c:=c) (θ':=θ') (σ:=σ) (X:=X) h E
  | bad=>exact h
theorem wpR.bind {r:R α} {k:α→Sto→R γ} {Q:δ→Hp→Prop} (h:wpR X σ Rel' B H (r.bind k) Q) :
    wpR X σ Rel B H r (fun b H1=>∃B1 θ1 a,ExtE B B1 H H1∧Good X.cl B1 θ1 H1∧Rel B1 H1 a b∧wpR X σ Rel' B1 H1 (k a θ1) Q):=by
  cases r with
  | ok a θ'=>exact fun B1 H1 b E g q=>⟨B1,θ',a,E,g,q,wpR.trans h E⟩
  | ex c θ'=>exact h
  | bad=>exact h
end
abbrev EM:=List Sl→Sto→R D
abbrev TMr:=List Sl→Sto→R Bool
abbrev AM:=List Sl→Sto→R (List D)
def EqB (_:Bx) (_:Hp) (a b:Bool):Prop:=a=b
def tM (X:Cx) (f:EM):TE:=fun σ H Q=>∃B θ ρ,Frm X.cl B θ ρ σ H∧wpR X σ RepV B H (f ρ θ) Q
def tMT (X:Cx) (f:TMr):TT:=fun σ H Q=>∃B θ ρ,Frm X.cl B θ ρ σ H∧wpR X σ EqB B H (f ρ θ) Q
def tMA (X:Cx) (f:AM):TA:=fun σ H Q=>∃B θ ρ,Frm X.cl B θ ρ σ H∧wpR X σ RepL B H (f ρ θ) Q
def ME (X:Cx) (e:Expr) (f:EM):Prop:=PE X e (tM X f)
def MT (X:Cx) (e:Expr) (f:TMr):Prop:=PT X e (tMT X f)
def MW (X:Cx) (e:Expr) (f:TMr):Prop:=PW X e (tMT X f)
def MA (X:Cx) (es:List Expr) (f:AM):Prop:=PA X es (tMA X f)
section
variable {X:Cx} {σ:St} {H:Hp} {γ δ:Type} {Rel':Bx→Hp→γ→δ→Prop}
theorem zc {f:EM} {Q Q':VK} (h:tM X f σ H Q) (hQ:∀v H',Q v H'→Q' v H'):tM X f σ H Q':=let ⟨B,θ,ρ,F,w⟩:=h; ⟨B,θ,ρ,F,w.mono hQ⟩
theorem Zdy {f:TMr} {Q Q':Bool→Hp→Prop} (h:tMT X f σ H Q) (hQ:∀v H',Q v H'→Q' v H'):tMT X f σ H Q':=let ⟨B,θ,ρ,F,w⟩:=h; ⟨B,θ,ρ,F,w.mono hQ⟩
theorem ZbP {f:AM} {Q Q':List V→Hp→Prop} (h:tMA X f σ H Q) (hQ:∀v H',Q v H'→Q' v H'):tMA X f σ H Q':=let ⟨B,θ,ρ,F,w⟩:=h; ⟨B,θ,ρ,F,w.mono hQ⟩
variable {B:Bx} {θ:Sto} {ρ:List Sl}
theorem step {f:EM} {k:D→Sto→R γ} {Q:δ→Hp→Prop} (F:Frm X.cl B θ ρ σ H) (h:wpR X σ Rel' B H ((f ρ θ).bind k) Q) :
    tM X f σ H (fun v H1=>∃B1 θ1 d,ExtE B B1 H H1∧Frm X.cl B1 θ1 ρ σ H1∧RepV B1 H1 d v∧wpR X σ Rel' B1 H1 (k d θ1) Q):=
  ⟨B,θ,ρ,F,(wpR.bind (Rel:=RepV) h).mono fun v H1 ⟨B1,θ1,d,E,G,r,w⟩=>⟨B1,θ1,d,E,F.ext E G,r,w⟩⟩
theorem Zmt {f:TMr} {k:Bool→Sto→R γ} {Q:δ→Hp→Prop} (F:Frm X.cl B θ ρ σ H) (h:wpR X σ Rel' B H ((f ρ θ).bind k) Q) :
    tMT X f σ H (fun c H1=>∃B1 θ1,ExtE B B1 H H1∧Frm X.cl B1 θ1 ρ σ H1∧wpR X σ Rel' B1 H1 (k c θ1) Q):=
  ⟨B,θ,ρ,F,(wpR.bind (Rel:=EqB) h).mono fun v H1 ⟨B1,θ1,d,E,G,r,w⟩=>by cases (show d=v from r); exact ⟨B1,θ1,E,F.ext E G,w⟩⟩
theorem Zhw {f:AM} {k:List D→Sto→R γ} {Q:δ→Hp→Prop} (F:Frm X.cl B θ ρ σ H) (h:wpR X σ Rel' B H ((f ρ θ).bind k) Q) :
    tMA X f σ H (fun v H1=>∃B1 θ1 d,ExtE B B1 H H1∧Frm X.cl B1 θ1 ρ σ H1∧RepL B1 H1 d v∧wpR X σ Rel' B1 H1 (k d θ1) Q):=
  ⟨B,θ,ρ,F,(wpR.bind (Rel:=RepL) h).mono fun v H1 ⟨B1,θ1,d,E,G,r,w⟩=>⟨B1,θ1,d,E,F.ext E G,r,w⟩⟩
theorem ZO {α β:Type} {Rel:Bx→Hp→α→β→Prop} {a:α} {b:β} {Q:β→Hp→Prop} (G:Good X.cl B θ H) (r:Rel B H a b) (h:wpR X σ Rel B H (.ok a θ) Q):Q b H:=h B H b (ExtE.refl B H) G r
end
theorem PE.imp {X:Cx} {e:Expr} {t t':TE} (h:PE X e t) (hi:∀σ H Q,t' σ H Q→t σ H Q):PE X e t':=fun pins s σ H Q I q=>h pins s σ H Q I (hi σ H Q q)
theorem PT.imp {X:Cx} {e:Expr} {t t':TT} (h:PT X e t) (hi:∀σ H Q,t' σ H Q→t σ H Q):PT X e t':=fun pins s σ H Q I q=>h pins s σ H Q I (hi σ H Q q)
theorem PW.imp {X:Cx} {e:Expr} {t t':TT} (h:PW X e t) (hi:∀σ H Q,t' σ H Q→t σ H Q):PW X e t':=fun wh pins s σ H Q I q=>h wh pins s σ H Q I (hi σ H Q q)
theorem PA.imp {X:Cx} {es:List Expr} {t t':TA} (h:PA X es t) (hi:∀σ H Q,t' σ H Q→t σ H Q):PA X es t':=fun pos pins s σ H Q I q=>h pos pins s σ H Q I (hi σ H Q q)
theorem OpR.imp {X:Cx} {f:Value→Value→Sem Value} {r r':R2} (h:OpR X f r) (hi:∀x y H Q,r' x y H Q→r x y H Q):OpR X f r':=fun pins s σ H x y v u Q I rx ry q=>h pins s σ H x y v u Q I rx ry (hi x y H Q q)
theorem IxR.imp {X:Cx} {r r':R2} (h:IxR X r) (hi:∀x y H Q,r' x y H Q→r x y H Q):IxR X r':=fun pins s σ H x y v u Q v1 s1 I rx ry q=>h pins s σ H x y v u Q v1 s1 I rx ry (hi _ _ _ _ q)
theorem CallR.imp {X:Cx} {f:Value} {r r':List V→Hp→VK→Prop} (h:CallR X f r) (hi:∀xs H Q,r' xs H Q→r xs H Q):CallR X f r':=fun pins s σ H xs us Q I r q=>h pins s σ H xs us Q I r (hi _ _ _ q)
end L2.MM
set_option Elab.async false
set_option linter.all false
set_option maxRecDepth 100000
set_option maxHeartbeats 4000000
namespace L2.MM
open PySem PySem.Spec PyProof.Rows
noncomputable section
variable {X:Cx}
def ZaR (θ:Sto):D→Option (List D)
  | .lst xs=>some xs
  | .ref l=>match θ[l]? with
    | some (.lst xs)=>some xs
    | _=>none
  | _=>none
def seqOf (θ:Sto):D→Option (List D)
  | .tup xs=>some xs
  | .scr ns=>some (ns.map D.int)
  | d=>ZaR θ d
theorem Zag {cl:Mo} {B:Bx} {θ:Sto} {H:Hp} (G:Good cl B θ H) {d:D} {v:V} {xs:List D} (r:RepV B H d v) (h:ZaR θ d=some xs):∃a vs,v=.ref a∧H a=some (.lst vs)∧RepL B H xs vs:=by
  cases d with
  | lst ys=>
    obtain ⟨a,vs,e,h1,_,h2⟩:=r
    cases h
    exact ⟨a,vs,e,h1,h2⟩
  | ref l=>
    obtain ⟨hl,rfl⟩:=r
    simp only [ZaR] at h
    split at h
    · rename_i ys e
      cases h
      obtain ⟨vs,q1,q2⟩:=G.cel l _ e
      exact ⟨_,vs,rfl,q1,q2⟩
    · cases h
  | _=>cases h
theorem ZcV {cl:Mo} {B:Bx} {θ:Sto} {H:Hp} (G:Good cl B θ H) {d:D} {v:V} {xs:List D} (r:RepV B H d v) (h:seqOf θ d=some xs) :
    ∃a vs,v=.ref a∧(SqL cl.K H a vs∨SqT cl.K H a vs)∧RepL B H xs vs:=by
  cases d with
  | tup ys=>
    obtain ⟨a,vs,e,h1,_,h2⟩:=r
    cases h
    exact ⟨a,vs,e,.inr (SqT.of h1),h2⟩
  | scr ns=>
    obtain ⟨a,e,h1⟩:=r
    cases h
    refine ⟨a,ns.map V.int,e,.inl ?_,RepL.map (f:=D.int) (g:=V.int) (fun _=>rfl) ns⟩
    rcases h1 with ⟨o,h1,_⟩ | h1
    · exact .inl (.inr ⟨o,h1⟩)
    · exact .inr (G.kc a ns h1)
  | lst ys=>
    obtain ⟨a,vs,e,h1,h2⟩:=Zag G r (show ZaR θ (.lst ys)=some xs from h)
    exact ⟨a,vs,e,.inl (SqL.of h1),h2⟩
  | ref l=>
    obtain ⟨a,vs,e,h1,h2⟩:=Zag G r (show ZaR θ (.ref l)=some xs from h)
    exact ⟨a,vs,e,.inl (SqL.of h1),h2⟩
  | _=>cases h
abbrev BIG:Nat:=100000
theorem Zar {n:Nat} (h:n≤BIG):n≤sizeLine:=Nat.le_trans h (by rw [sizeLine_eq]; decide)
def Zd (i:Nat):EM:=fun ρ θ=>match ρ[i]? with
  | some (Sl.val d)=>.ok d θ
  | _=>.bad
def mC (d:D):EM:=fun _ θ=>.ok d θ
section
variable {a b c e:Expr} {pos:Pos} {fa fb fc:EM} {ft fu:TMr}
theorem Zb (i:Nat) {x:Str} {pos:Pos} (hN:X.N[i]?=some x:=by rfl) (hv:Vis X.env.scope x:=by first | exact Or.inl rfl | exact Or.inr (Or.inl rfl) | exact Or.inr (Or.inr rfl))
    (hd:(x == ("__debug__":Str))=false:=by decide) (hcd:(x == ("__classdict__":Str))=false:=by decide):ME X (.Name x pos) (Zd i):=by
  refine PE.imp (ZpN hN hv hd hcd) fun σ H Q h=>?_
  obtain ⟨B,θ,ρ,F,w⟩:=h
  unfold Zd at w
  split at w
  · rename_i d e
    obtain ⟨v,h1,h2⟩:=F.val i d e
    exact ⟨v,h1,ZO F.good h2 w⟩
  · exact w.elim
theorem Zl0 {d:D} {v:V} (h:PE X e (tC v)) (r:∀B H,RepV B H d v):ME X e (mC d):=by
  refine PE.imp h fun σ H Q h=>?_
  obtain ⟨B,θ,ρ,F,w⟩:=h
  exact ZO F.good (r B H) w
theorem Zh {i j pos}:ME X (.Constant (.int i) j pos) (mC (.int i)):=Zl0 ZtR fun _ _=>rfl
theorem zm {i j pos}:ME X (.Constant (.bool i) j pos) (mC (.bl i)):=Zl0 Zvx fun _ _=>rfl
theorem ZaI {j pos}:ME X (.Constant .none j pos) (mC .non):=Zl0 ZtQ fun _ _=>rfl
theorem Zqf {i j pos}:ME X (.Constant (.str i) j pos) (mC (.str i)):=Zl0 ZtO fun _ _=>rfl
theorem Zm {x:Str} {i:Int} (h:∃t,X.mg x=some (.int i t)) (hg:Gl X x:=by rfl) (hd:(x == ("__debug__":Str))=false:=by decide):ME X (.Name x pos) (mC (.int i)):=Zl0 (ZrJ h hg hd) fun _ _=>rfl
theorem Zw {x:Str} {y:Str} (h:∃t,X.mg x=some (.str y t)) (hg:Gl X x:=by rfl) (hd:(x == ("__debug__":Str))=false:=by decide):ME X (.Name x pos) (mC (.str y)):=by
  obtain ⟨t,h⟩:=h
  exact Zl0 (ZmC hg h (v:=.str y) ⟨t,rfl⟩ hd) fun _ _=>rfl
theorem Zqe {x:Str} {n:String} {pos:Pos} (hm:X.mg x=none) (hv:bootBuiltins x=some (.type n)) (hg:Gl X x:=by rfl) (hn:x≠"__name__":=by decide) (hd:(x == ("__debug__":Str))=false:=by decide):ME X (.Name x pos) (mC (.ty n)):=
  Zl0 (Zvs hm hv hg hn hd) fun _ _=>rfl
abbrev OM:=D→D→Sto→R D
def mOp (g:OM) (fa fb:EM):EM:=fun ρ θ=>(fa ρ θ).bind fun x θ=>(fb ρ θ).bind fun y θ=>g x y θ
def rM (X:Cx) (g:OM):R2:=fun x y H Q=>∃σ B θ d e,Good X.cl B θ H∧RepV B H d x∧RepV B H e y∧wpR X σ RepV B H (g d e θ) Q
theorem Zmr {g:OM} (σ:St) (H:Hp) (Q:VK) (h:tM X (mOp g fa fb) σ H Q):tOp (rM X g) (tM X fa) (tM X fb) σ H Q:=by
  obtain ⟨B,θ,ρ,F,w⟩:=h
  refine zc (step F w) ?_
  rintro x' H1 ⟨B1,θ1,x,E1,F1,rx,w1⟩
  refine zc (step F1 w1) ?_
  rintro y' H2 ⟨B2,θ2,y,E2,F2,ry,w2⟩
  exact ⟨σ,B2,θ2,x,y,F2.good,rx.ext E2.toExtS,ry,w2⟩
theorem Zu {op:Operator} {g:OM} (ho:OpR X (binaryOp op) (rM X g)) (ha:ME X a fa) (hb:ME X b fb):ME X (.BinOp a op b pos) (mOp g fa fb):=PE.imp (Zvu ho ha hb) Zmr
theorem zI {op:CmpOp} {g:OM} (ho:OpR X (compareOp op) (rM X g)) (ha:ME X a fa) (hb:ME X b fb) (hm:behindInMarks op b=false:=by first | exact Zp7 _ | rfl):ME X (.Compare a [op] [b] pos) (mOp g fa fb):=PE.imp (ZrK ho ha hb hm) Zmr
theorem ZB {g:OM} (hr:IxR X (rM X g)) (ha:ME X a fa) (hb:ME X b fb) (hs:Znc b:=by intro _ _; rfl):ME X (.Subscript a b pos) (mOp g fa fb):=PE.imp (Zvw hr ha hb hs) Zmr
def ZF (f:EM):TMr:=fun ρ θ=>(f ρ θ).bind fun x θ=>match x with
  | .bl k=>.ok k θ
  | _=>.bad
theorem Zhu {f:EM} (σ:St) (H:Hp) (Q:Bool→Hp→Prop) (h:tMT X (ZF f) σ H Q):tM X f σ H (fun v H1=>∃k,v=.bl k∧Q k H1):=by
  obtain ⟨B,θ,ρ,F,w⟩:=h
  refine zc (step F w) ?_
  rintro v H1 ⟨B1,θ1,x,E1,F1,rx,w1⟩
  cases x with
  | bl k=>exact ⟨k,rx,ZO (Rel:=EqB) F1.good rfl w1⟩
  | _=>exact w1.elim
theorem Zz {op:CmpOp} {g:OM} (ho:OpR X (compareOp op) (rM X g)) (ha:ME X a fa) (hb:ME X b fb) (hm:behindInMarks op b=false:=by first | exact Zp7 _ | rfl):MT X (.Compare a [op] [b] pos) (ZF (mOp g fa fb)):=by
  refine PT.imp (Zry ho ha hb hm) fun σ H Q h=>?_
  have q:=Zhu σ H Q h
  exact Zmr σ H _ q
def Zd4 (g g':OM) (fa fb fc:EM):EM:=fun ρ θ=>(fa ρ θ).bind fun x θ=>(fb ρ θ).bind fun y θ=>(g x y θ).bind fun z θ=>match z with
  | .bl true=>(fc ρ θ).bind fun w θ=>g' y w θ
  | .bl false=>.ok (.bl false) θ
  | _=>.bad
theorem ZkV {g g':OM} (σ:St) (H:Hp) (Q:VK) (h:tM X (Zd4 g g' fa fb fc) σ H Q):ZlP (rM X g) (rM X g') (tM X fa) (tM X fb) (tM X fc) σ H Q:=by
  obtain ⟨B,θ,ρ,F,w⟩:=h
  refine zc (step F w) ?_
  rintro x' H1 ⟨B1,θ1,x,E1,F1,rx,w1⟩
  refine zc (step F1 w1) ?_
  rintro y' H2 ⟨B2,θ2,y,E2,F2,ry,w2⟩
  refine ⟨σ,B2,θ2,x,y,F2.good,rx.ext E2.toExtS,ry,(wpR.bind (Rel:=RepV) w2).mono ?_⟩
  rintro z' H3 ⟨B3,θ3,z,E3,G3,rz,w3⟩
  have F3:=F2.ext E3 G3
  cases z with
  | bl k=>
    refine ⟨k,rz,?_⟩
    cases k with
    | true=>
      rw [if_pos rfl]
      refine zc (step F3 w3) ?_
      rintro w' H4 ⟨B4,θ4,u,E4,F4,ru,w4⟩
      exact ⟨σ,B4,θ4,y,u,F4.good,ry.ext (E3.trans E4).toExtS,ru,w4⟩
    | false=>
      rw [if_neg Bool.false_ne_true]
      exact ZO G3 (show RepV B3 H3 (.bl false) (.bl false) from rfl) w3
  | _=>exact w3.elim
theorem ZfP {op op':CmpOp} {g g':OM} (ho:OpR X (compareOp op) (rM X g)) (ho':OpR X (compareOp op') (rM X g')) (ha:ME X a fa) (hb:ME X b fb) (hc:ME X c fc)
    (hm:lastMarks [op,op'] [b,c]=false:=by with_unfolding_all rfl):ME X (.Compare a [op,op'] [b,c] pos) (Zd4 g g' fa fb fc):=PE.imp (ZpV ho ho' ha hb hc hm) ZkV
theorem Zqc {op op':CmpOp} {g g':OM} (ho:OpR X (compareOp op) (rM X g)) (ho':OpR X (compareOp op') (rM X g')) (ha:ME X a fa) (hb:ME X b fb) (hc:ME X c fc)
    (hm:lastMarks [op,op'] [b,c]=false:=by with_unfolding_all rfl):MT X (.Compare a [op,op'] [b,c] pos) (ZF (Zd4 g g' fa fb fc)):=by
  refine PT.imp (ZpF ho ho' ha hb hc hm) fun σ H Q h=>?_
  have q:=Zhu σ H Q h
  exact ZkV σ H _ q
def Zg4 (θ:Sto):D→Option Bool
  | .non=>some false
  | .bl b=>some b
  | .int i=>some (i != 0)
  | .str x=>if x.length≤BIG then some ((x.length:Int) != 0) else none
  | d=>(seqOf θ d).map fun xs=>!xs.isEmpty
def zW (f:EM):TMr:=fun ρ θ=>(f ρ θ).bind fun x θ=>match Zg4 θ x with
  | some k=>.ok k θ
  | none=>.bad
theorem RepL.emp {B:Bx} {H:Hp} {xs:List D} {vs:List V} (r:RepL B H xs vs):vs.isEmpty=xs.isEmpty:=by
  cases xs with
  | nil=>cases (show vs=[] from r); rfl
  | cons _ _=>obtain ⟨v,q,rfl,_,_⟩:=r; rfl
theorem Zmk {cl:Mo} {B:Bx} {θ:Sto} {H:Hp} (G:Good cl B θ H) {d:D} {v:V} {k:Bool} (r:RepV B H d v) (h:Zg4 θ d=some k):TruV cl.K v H k:=by
  have sq:∀xs,seqOf θ d=some xs→((seqOf θ d).map fun xs=>!xs.isEmpty)=some k→TruV cl.K v H k:=fun xs e q=>by
    rw [e] at q
    cases q
    obtain ⟨a,vs,rfl,h1,h2⟩:=ZcV G r e
    show TruV cl.K (V.ref a) H (!xs.isEmpty)
    rw [←h2.emp]
    rcases h1 with h1 | h1
    · exact .inl ⟨vs,h1,rfl⟩
    · exact .inr (.inl ⟨vs,h1,rfl⟩)
  cases d with
  | non=>cases (show v=.non from r); cases h; rfl
  | bl b=>cases (show v=.bl b from r); cases h; rfl
  | int i=>cases (show v=.int i from r); cases h; rfl
  | str x=>
    cases (show v=.str x from r)
    simp only [Zg4] at h
    split at h
    · rename_i hz; cases h; exact ⟨Zar hz,rfl⟩
    · cases h
  | ty n=>simp [Zg4,seqOf,ZaR] at h
  | scr ns=>exact sq _ rfl h
  | tup xs=>exact sq _ rfl h
  | lst xs=>exact sq _ rfl h
  | ref l=>
    cases e:seqOf θ (.ref l) with
    | none=>simp only [Zg4,e] at h; cases h
    | some xs=>exact sq xs e h
theorem ZE (ha:ME X a fa) (he:∀whole,isTrue a X.env whole=(do let v ←whole; standAt a.pos; holding [v] (truthy v)):=by intro _; rfl):MT X a (zW fa):=by
  refine PT.imp (ZpE ha he) fun σ H Q h=>?_
  obtain ⟨B,θ,ρ,F,w⟩:=h
  refine zc (step F w) ?_
  rintro v H1 ⟨B1,θ1,x,E1,F1,rx,w1⟩
  cases e:Zg4 θ1 x with
  | none=>rw [e] at w1; exact w1.elim
  | some k=>rw [e] at w1; exact ⟨k,Zmk F1.good rx e,ZO (Rel:=EqB) F1.good rfl w1⟩
def Zgl (f g:TMr):TMr:=fun ρ θ=>(f ρ θ).bind fun k θ=>if k=true then g ρ θ else .ok false θ
def mOr (f g:TMr):TMr:=fun ρ θ=>(f ρ θ).bind fun k θ=>if k=true then .ok true θ else g ρ θ
def Zd2 (f:TMr):TMr:=fun ρ θ=>(f ρ θ).bind fun k θ=>.ok (!k) θ
theorem Zbc (ha:MT X a ft):MW X (.BoolOp .And [a] pos) ft:=Zrw ha
theorem zG (ha:MT X a ft):MW X (.BoolOp .Or [a] pos) ft:=ZtB ha
theorem Zds {rest:List Expr} (ha:MT X a ft) (hb:MW X (.BoolOp .And (b::rest) pos) fu):MW X (.BoolOp .And (a::b::rest) pos) (Zgl ft fu):=by
  refine PW.imp (ZtC ha hb) fun σ H Q h=>?_
  obtain ⟨B,θ,ρ,F,w⟩:=h
  refine Zdy (Zmt F w) ?_
  rintro k H1 ⟨B1,θ1,E1,F1,w1⟩
  cases k with
  | true=>rw [if_pos rfl] at w1 ⊢; exact ⟨B1,θ1,ρ,F1,w1⟩
  | false=>rw [if_neg Bool.false_ne_true] at w1 ⊢; exact ZO (Rel:=EqB) F1.good rfl w1
theorem Zbx {rest:List Expr} (ha:MT X a ft) (hb:MW X (.BoolOp .Or (b::rest) pos) fu):MW X (.BoolOp .Or (a::b::rest) pos) (mOr ft fu):=by
  refine PW.imp (Zvo ha hb) fun σ H Q h=>?_
  obtain ⟨B,θ,ρ,F,w⟩:=h
  refine Zdy (Zmt F w) ?_
  rintro k H1 ⟨B1,θ1,E1,F1,w1⟩
  cases k with
  | true=>rw [if_pos rfl] at w1 ⊢; exact ZO (Rel:=EqB) F1.good rfl w1
  | false=>rw [if_neg Bool.false_ne_true] at w1 ⊢; exact ⟨B1,θ1,ρ,F1,w1⟩
theorem MW.mt {e:Expr} {f:TMr} (h:MW X e f):MT X e f:=PW.pt h
theorem Zbd (ha:MT X a ft):MT X (.UnaryOp .Not a pos) (Zd2 ft):=by
  refine PT.imp (ZtE ha) fun σ H Q h=>?_
  obtain ⟨B,θ,ρ,F,w⟩:=h
  refine Zdy (Zmt F w) ?_
  rintro k H1 ⟨B1,θ1,E1,F1,w1⟩
  exact ZO (Rel:=EqB) F1.good rfl w1
def Zcs (f g:EM):EM:=fun ρ θ=>(f ρ θ).bind fun x θ=>match x with
  | .bl true=>g ρ θ
  | .bl false=>.ok (.bl false) θ
  | _=>.bad
def Znx (f g:EM):EM:=fun ρ θ=>(f ρ θ).bind fun x θ=>match x with
  | .bl true=>.ok (.bl true) θ
  | .bl false=>g ρ θ
  | _=>.bad
def ZmQ (f:EM):EM:=fun ρ θ=>(f ρ θ).bind fun x θ=>match Zg4 θ x with
  | some k=>.ok (.bl (!k)) θ
  | none=>.bad
theorem Zc1 {op} (h:ME X a fa):ME X (.BoolOp op [a] pos) fa:=ZtP h
theorem ZbG {rest:List Expr} (ha:ME X a fa) (hb:ME X (.BoolOp .And (b::rest) pos) fb):ME X (.BoolOp .And (a::b::rest) pos) (Zcs fa fb):=by
  refine PE.imp (ZtT ha hb) fun σ H Q h=>?_
  obtain ⟨B,θ,ρ,F,w⟩:=h
  refine zc (step F w) ?_
  rintro v H1 ⟨B1,θ1,x,E1,F1,rx,w1⟩
  cases x with
  | bl k=>
    refine ⟨k,rx,?_⟩
    cases k with
    | true=>rw [if_pos rfl]; exact ⟨B1,θ1,ρ,F1,w1⟩
    | false=>rw [if_neg Bool.false_ne_true]; exact ZO F1.good (show RepV B1 H1 (.bl false) (.bl false) from rfl) w1
  | _=>exact w1.elim
theorem ZmO {rest:List Expr} (ha:ME X a fa) (hb:ME X (.BoolOp .Or (b::rest) pos) fb):ME X (.BoolOp .Or (a::b::rest) pos) (Znx fa fb):=by
  refine PE.imp (Zvt ha hb) fun σ H Q h=>?_
  obtain ⟨B,θ,ρ,F,w⟩:=h
  refine zc (step F w) ?_
  rintro v H1 ⟨B1,θ1,x,E1,F1,rx,w1⟩
  cases x with
  | bl k=>
    refine ⟨k,rx,?_⟩
    cases k with
    | true=>rw [if_pos rfl]; exact ZO F1.good (show RepV B1 H1 (.bl true) (.bl true) from rfl) w1
    | false=>rw [if_neg Bool.false_ne_true]; exact ⟨B1,θ1,ρ,F1,w1⟩
  | _=>exact w1.elim
theorem Zqg (ha:ME X a fa):ME X (.UnaryOp .Not a pos) (ZmQ fa):=by
  intro pins s σ H Q I h
  obtain ⟨B,θ,ρ,F,w⟩:=h
  refine UnaryOp_ (thn (ha pins s σ H _ I (step F w)) fun v s1 ⟨x,H1,I1,r1,q1⟩=>?_)
  obtain ⟨B1,θ1,d,E1,F1,rx,w1⟩:=q1
  cases e:Zg4 θ1 d with
  | none=>rw [e] at w1; exact w1.elim
  | some k=>
    rw [e] at w1
    refine not_of (thn (Zpl pins s1 σ H1 x v (fun k' H'=>Q (.bl (!k')) H') I1 r1 ⟨k,Zmk F1.good rx e,ZO F1.good (show RepV B1 H1 (.bl (!k)) (.bl (!k)) from rfl) w1⟩) fun b s2 ⟨H2,I2,q2⟩=>?_)
    exact ⟨.bl (!b),H2,I2,rfl,q2⟩
def ZfR (t:TMr) (f g:EM):EM:=fun ρ θ=>(t ρ θ).bind fun k θ=>if k=true then f ρ θ else g ρ θ
theorem ZcA {c:Expr} (hc:MT X c ft) (ha:ME X a fa) (hb:ME X b fb):ME X (.IfExp c a b pos) (ZfR ft fa fb):=by
  refine PE.imp (ZpR hc ha hb) fun σ H Q h=>?_
  obtain ⟨B,θ,ρ,F,w⟩:=h
  refine Zdy (Zmt F w) ?_
  rintro k H1 ⟨B1,θ1,E1,F1,w1⟩
  cases k with
  | true=>rw [if_pos rfl] at w1 ⊢; exact ⟨B1,θ1,ρ,F1,w1⟩
  | false=>rw [if_neg Bool.false_ne_true] at w1 ⊢; exact ⟨B1,θ1,ρ,F1,w1⟩
def Zk:AM:=fun _ θ=>.ok [] θ
def Zc (f:EM) (g:AM):AM:=fun ρ θ=>(f ρ θ).bind fun x θ=>(g ρ θ).bind fun xs θ=>.ok (x::xs) θ
theorem Ze:MA X [] Zk:=PA.imp ZlV fun σ H Q h=>by
  obtain ⟨B,θ,ρ,F,w⟩:=h
  exact ZO (Rel:=RepL) F.good (show RepL B H [] [] from rfl) w
theorem Za {es:List Expr} {fs:AM} (ha:ME X e fa) (hr:MA X es fs) (hs:starEach (e::es) X.env=(false,eval e X.env)::starEach es X.env:=by rfl):MA X (e::es) (Zc fa fs):=by
  refine PA.imp (Zja ha hr hs) fun σ H Q h=>?_
  obtain ⟨B,θ,ρ,F,w⟩:=h
  refine zc (step F w) ?_
  rintro x' H1 ⟨B1,θ1,x,E1,F1,rx,w1⟩
  refine ZbP (Zhw F1 w1) ?_
  rintro xs' H2 ⟨B2,θ2,xs,E2,F2,rxs,w2⟩
  exact ZO (Rel:=RepL) F2.good (show RepL B2 H2 (x::xs) (x'::xs') from ⟨x',xs',rfl,rx.ext E2.toExtS,rxs⟩) w2
def zM (f:AM):EM:=fun ρ θ=>(f ρ θ).bind fun xs θ=>if xs.length≤BIG then .ok (.tup xs) θ else .bad
def Zcr (f:AM):EM:=fun ρ θ=>(f ρ θ).bind fun xs θ=>if xs.length≤BIG then .ok (.lst xs) θ else .bad
theorem Zhn {σ:St} {B:Bx} {θ:Sto} {H:Hp} {xs:List D} {vs:List V} {Q:VK} (G:Good X.cl B θ H) (r:RepL B H xs vs) (w:wpR X σ RepV B H (.ok (.tup xs) θ) Q):∀p,H p=none→Q (.ref p) (upd H p (.tup vs)):=
  fun p hp=>w B _ _ (ZcN G hp _) (ZeI G hp _) (Zrs G hp r)
theorem Zfj {σ:St} {B:Bx} {θ:Sto} {H:Hp} {xs:List D} {vs:List V} {Q:VK} (G:Good X.cl B θ H) (r:RepL B H xs vs) (w:wpR X σ RepV B H (.ok (.lst xs) θ) Q):∀p,H p=none→Q (.ref p) (upd H p (.lst vs)):=
  fun p hp=>w B _ _ (ZcN G hp _) (ZeI G hp _) (Zrt G hp r)
theorem ZU {es:List Expr} {fs:AM} {x1} (h:MA X es fs):ME X (.Tuple es x1 pos) (zM fs):=by
  refine PE.imp (ZtN h) fun σ H Q h=>?_
  obtain ⟨B,θ,ρ,F,w⟩:=h
  refine ZbP (Zhw F w) ?_
  rintro xs' H2 ⟨B2,θ2,xs,E2,F2,rxs,w2⟩
  split at w2
  · rename_i hz
    exact ⟨by rw [rxs.len]; exact Zar hz,Zhn F2.good rxs w2⟩
  · exact w2.elim
theorem Zak {es:List Expr} {fs:AM} (h:MA X es fs):ME X (.List es pos) (Zcr fs):=by
  refine PE.imp (ZpQ h) fun σ H Q h=>?_
  obtain ⟨B,θ,ρ,F,w⟩:=h
  refine ZbP (Zhw F w) ?_
  rintro xs' H2 ⟨B2,θ2,xs,E2,F2,rxs,w2⟩
  split at w2
  · rename_i hz
    exact ⟨by rw [rxs.len]; exact Zar hz,Zfj F2.good rxs w2⟩
  · exact w2.elim
abbrev GM:=List D→Sto→R D
def mCB (g:GM) (f:AM):EM:=fun ρ θ=>(f ρ θ).bind fun xs θ=>g xs θ
def rC (X:Cx) (g:GM):List V→Hp→VK→Prop:=fun xs H Q=>∃σ B θ ds,Good X.cl B θ H∧RepL B H ds xs∧wpR X σ RepV B H (g ds θ) Q
theorem ZsF {g:GM} {fs:AM} (σ:St) (H:Hp) (Q:VK) (h:tM X (mCB g fs) σ H Q):tCB (rC X g) (tMA X fs) σ H Q:=by
  obtain ⟨B,θ,ρ,F,w⟩:=h
  refine ZbP (Zhw F w) ?_
  rintro xs' H2 ⟨B2,θ2,xs,E2,F2,rxs,w2⟩
  exact ⟨σ,B2,θ2,xs,F2.good,rxs,w2⟩
theorem Z7 {x:Str} {id:String} {p:Pos} {es:List Expr} {fs:AM} {g:GM} (hc:CallR X (.builtin id) (rC X g)) (hm:X.mg x=none) (hv:bootBuiltins x=some (.builtin id)) (ha:MA X (e::es) fs) (hg:Gl X x:=by rfl) (hn:x≠"__name__":=by decide) (hdb:(x == ("__debug__":Str))=false:=by decide)
    (he:starEach (e::es) X.env=(false,eval e X.env)::starEach es X.env:=by rfl) (hpl:(backTo pos (starEach es X.env)).any (·.1)=false:=by rfl):ME X (.Call (.Name x p) (e::es) [] pos) (mCB g fs):=
  PE.imp (ZpX hc hg hm hv ha hn hdb he hpl) ZsF
theorem Zch {x:Str} {T:String} {p:Pos} {es:List Expr} {fs:AM} {g:GM} (hc:CallR X (.type T) (rC X g)) (hm:X.mg x=none) (hv:bootBuiltins x=some (.type T)) (ha:MA X (e::es) fs) (hg:Gl X x:=by rfl) (hn:x≠"__name__":=by decide) (hdb:(x == ("__debug__":Str))=false:=by decide)
    (he:starEach (e::es) X.env=(false,eval e X.env)::starEach es X.env:=by rfl) (hpl:(backTo pos (starEach es X.env)).any (·.1)=false:=by rfl):ME X (.Call (.Name x p) (e::es) [] pos) (mCB g fs):=
  PE.imp (Znt hc hg hm hv ha hn hdb he hpl) ZsF
end
end
end L2.MM
set_option Elab.async false
set_option linter.all false
set_option maxRecDepth 100000
set_option maxHeartbeats 4000000
namespace L2.MM
open PySem PySem.Spec PyProof.Rows PySem.SeqAt
noncomputable section
variable {X:Cx}
section
open Classical in
def opI (C:Int→Int→Prop) (g:Int→Int→D):OM:=fun x y θ=>match x,y with
  | .int i,.int j=>if C i j then .ok (g i j) θ else .bad
  | _,_=>.bad
open Classical in
@[simp] theorem ZmD (C:Int→Int→Prop) (g:Int→Int→D) (i j:Int) (θ:Sto):opI C g (.int i) (.int j) θ=if C i j then .ok (g i j) θ else .bad:=nr rfl
open Classical in
theorem ZeA {f:Value→Value→Sem Value} {C:Int→Int→Prop} {g:Int→Int→D} {gV:Int→Int→V} (h:OpR X f (rI C gV)) (r:∀B H i j,RepV B H (g i j) (gV i j)):OpR X f (rM X (opI C g)):=by
  refine OpR.imp h fun x y H Q q=>?_
  obtain ⟨σ,B,θ,d,e,G,rd,re,w⟩:=q
  unfold opI at w
  split at w
  · rename_i i j
    split at w
    · rename_i hc
      exact ⟨i,j,rd,re,hc,ZO G (r B H i j) w⟩
    · exact w.elim
  · exact w.elim
theorem Zit {f:Value→Value→Sem Value} {g:Int→Int→V} (h:OpR X f (rI0 g)):OpR X f (rI (fun _ _=>True) g):=OpR.imp h fun x y H Q ⟨i,j,a,b,_,q⟩=>⟨i,j,a,b,q⟩
abbrev Zgc:OM:=opI (fun _ _=>True) fun i j=>.int (i-j)
abbrev Zfq:OM:=opI (fun _ j=>0<j∧j<18446744073709551616) fun i j=>.int (i/j)
abbrev Zaa:OM:=opI (fun _ j=>0<j) fun i j=>.int (i % j)
abbrev Zv8:OM:=opI (fun _ _=>True) fun i j=>.int (Builtin.bitAnd i j)
abbrev ltM:OM:=opI (fun _ _=>True) fun i j=>.bl (decide (i<j))
abbrev leM:OM:=opI (fun _ _=>True) fun i j=>.bl (decide (i≤j))
abbrev gtM:OM:=opI (fun _ _=>True) fun i j=>.bl (decide (j<i))
abbrev geM:OM:=opI (fun _ _=>True) fun i j=>.bl (decide (j≤i))
theorem ZeC:OpR X (binaryOp .Sub) (rM X Zgc):=ZeA (Zit ZtV) fun _ _ _ _=>rfl
theorem Zeh:OpR X (binaryOp .FloorDiv) (rM X Zfq):=ZeA (OpR.imp ZpZ fun x y H Q ⟨i,j,a,b,c,q⟩=>⟨i,j,a,b,⟨c.1,by
  have h:j.natAbs<2 ^ 64:=by have:=c.1; have:=c.2; omega
  have h0:j.natAbs≠0:=by have:=c.1; omega
  have:=(Nat.log2_lt h0).mpr h
  omega⟩,q⟩) fun _ _ _ _=>rfl
theorem Zaf:OpR X (binaryOp .Mod) (rM X Zaa):=ZeA ZtY fun _ _ _ _=>rfl
theorem ZvG:OpR X (binaryOp .BitAnd) (rM X Zv8):=ZeA (Zit Zt2) fun _ _ _ _=>rfl
theorem Zt5:OpR X (compareOp .Lt) (rM X ltM):=ZeA (Zit ZvC) fun _ _ i j=>by show _=V.bl _; congr
theorem ZhC:OpR X (compareOp .LtE) (rM X leM):=ZeA (Zit ZvD) fun _ _ i j=>by show _=V.bl _; congr
theorem Zg9:OpR X (compareOp .Gt) (rM X gtM):=ZeA (Zit ZvE) fun _ _ i j=>by show _=V.bl _; congr
theorem ZrR:OpR X (compareOp .GtE) (rM X geM):=ZeA (Zit ZvF) fun _ _ i j=>by show _=V.bl _; congr
def ZX:OM:=fun x y θ=>match x,y with
  | .int i,.int j=>.ok (.int (i+j)) θ
  | .str i,.str j=>if i.length+j.length≤BIG then .ok (.str (i++j)) θ else .bad
  | .tup xs,.tup ys=>if xs.isEmpty=false∧xs.length+ys.length≤BIG then .ok (.tup (xs++ys)) θ else .bad
  | x,y=>match ZaR θ x,ZaR θ y with
    | some xs,some ys=>if xs.length+ys.length≤BIG then .ok (.lst (xs++ys)) θ else .bad
    | _,_=>.bad
@[simp] theorem Zq0 (i j:Int) (θ:Sto):ZX (.int i) (.int j) θ=.ok (.int (i+j)) θ:=nr rfl
@[simp] theorem ZqZ (xs ys:List D) (θ:Sto):ZX (.lst xs) (.lst ys) θ=if xs.length+ys.length≤BIG then .ok (.lst (xs++ys)) θ else .bad:=nr rfl
@[simp] theorem Zv9 (xs ys:List D) (θ:Sto):ZX (.tup xs) (.tup ys) θ=if xs.isEmpty=false∧xs.length+ys.length≤BIG then .ok (.tup (xs++ys)) θ else .bad:=nr rfl
theorem ZN:OpR X (binaryOp .Add) (rM X ZX):=by
  refine OpR.imp (op_add.or (op_add_str.or (op_catT.or Zt1))) fun x y H Q q=>?_
  obtain ⟨σ,B,θ,d,e,G,rd,re,w⟩:=q
  unfold ZX at w
  split at w
  · exact .inl ⟨_,_,rd,re,ZO G (show RepV B H (.int _) (.int _) from rfl) w⟩
  · split at w
    · rename_i hz
      exact .inr (.inl ⟨_,_,rd,re,Zar hz,ZO G (show RepV B H (.str _) (.str _) from rfl) w⟩)
    · exact w.elim
  · split at w
    · rename_i xs ys hz
      obtain ⟨a,vs,rfl,h1,k1,l1⟩:=rd
      obtain ⟨b,us,rfl,h2,k2,l2⟩:=re
      refine .inr (.inr (.inl ⟨a,b,vs,us,rfl,rfl,SqT.of h1,SqT.of h2,?_,?_,fun z=>?_,fun _=>Zhn G (l1.app l2) w⟩))
      · intro z
        have:=l1.emp
        rw [z,hz.1] at this
        simp at this
      · rw [l1.len,l2.len]; exact Zar hz.2
      · have e0:ys=[]:=by
          have:=l2.emp
          rw [z] at this
          cases ys with
          | nil=>rfl
          | cons _ _=>simp at this
        subst e0
        rw [List.append_nil] at w
        exact ZO G (show RepV B H (.tup xs) (.ref a) from ⟨a,vs,rfl,h1,k1,l1⟩) w
    · exact w.elim
  · split at w
    · rename_i xs ys e1 e2
      split at w
      · rename_i hz
        obtain ⟨a,vs,rfl,h1,l1⟩:=Zag G rd e1
        obtain ⟨b,us,rfl,h2,l2⟩:=Zag G re e2
        exact .inr (.inr (.inr ⟨a,b,vs,us,rfl,rfl,h1,h2,by rw [l1.len,l2.len]; exact Zar hz,Zfj G (l1.app l2) w⟩))
      · exact w.elim
    · exact w.elim
def Zeq (i j:Int):Prop:=(-18446744073709551616<i∧i<18446744073709551616)∨(-18446744073709551616<j∧j<18446744073709551616)
instance {i j:Int}:Decidable (Zeq i j):=by unfold Zeq; infer_instance
def ZbT:OM:=fun x y θ=>match x,y with
  | .int i,.int j=>if Zeq i j then .ok (.int (i*j)) θ else .bad
  | .tup xs,.int k=>if xs.isEmpty=false∧0≤k∧k<1000∧(xs.length:Int)*k≤1000 then .ok (.tup (List.replicate k.toNat xs).flatten) θ else .bad
  | x,.int k=>match ZaR θ x with
    | some xs=>if -1000000≤k∧k≤1000000∧xs.length*k.toNat≤BIG then .ok (.lst (List.replicate k.toNat xs).flatten) θ else .bad
    | _=>.bad
  | _,_=>.bad
@[simp] theorem Zqb (i j:Int) (θ:Sto):ZbT (.int i) (.int j) θ=if Zeq i j then .ok (.int (i*j)) θ else .bad:=nr rfl
@[simp] theorem Zqa (xs:List D) (k:Int) (θ:Sto):ZbT (.tup xs) (.int k) θ=if xs.isEmpty=false∧0≤k∧k<1000∧(xs.length:Int)*k≤1000 then .ok (.tup (List.replicate k.toNat xs).flatten) θ else .bad:=nr rfl
theorem RepL.rep {B:Bx} {H:Hp} {xs:List D} {vs:List V} (r:RepL B H xs vs):∀k:Nat,RepL B H (List.replicate k xs).flatten (List.replicate k vs).flatten
  | 0=>rfl
  | k+1=>by
    rw [List.replicate_succ,List.replicate_succ,List.flatten_cons,List.flatten_cons]
    exact r.app (RepL.rep r k)
theorem Zb7:OpR X (binaryOp .Mult) (rM X ZbT):=by
  refine OpR.imp (op_mul.or (op_repT.or ZtW)) fun x y H Q q=>?_
  obtain ⟨σ,B,θ,d,e,G,rd,re,w⟩:=q
  unfold ZbT at w
  split at w
  · split at w
    · rename_i hc
      exact .inl ⟨_,_,rd,re,hc.imp (fun h=>⟨by have:=h.1; omega,by have:=h.2; omega⟩) (fun h=>⟨by have:=h.1; omega,by have:=h.2; omega⟩),ZO G (show RepV B H (.int _) (.int _) from rfl) w⟩
    · exact w.elim
  · split at w
    · rename_i xs k hz
      obtain ⟨a,vs,rfl,h1,k1,l1⟩:=rd
      obtain ⟨z1,z2,z3,z4⟩:=hz
      refine .inr (.inl ⟨a,k,vs,rfl,re,SqT.of h1,?_,z2,z3,by rw [l1.len]; exact z4,fun z=>?_,fun _=>Zhn G (l1.rep _) w⟩)
      · intro z
        have:=l1.emp
        rw [z,z1] at this
        simp at this
      · subst z
        have e0:(List.replicate (1:Int).toNat xs).flatten=xs:=by simp
        rw [e0] at w
        exact ZO G (show RepV B H (.tup xs) (.ref a) from ⟨a,vs,rfl,h1,k1,l1⟩) w
    · exact w.elim
  · split at w
    · rename_i xs e1
      split at w
      · rename_i hz
        obtain ⟨a,vs,rfl,h1,l1⟩:=Zag G rd e1
        exact .inr (.inr ⟨a,_,vs,rfl,re,h1,by have:=hz.1; omega,by have:=hz.2.1; omega,by rw [l1.len]; exact Zar hz.2.2,Zfj G (l1.rep _) w⟩)
      · exact w.elim
    · exact w.elim
  · exact w.elim
def Zzg (f:EM):EM:=fun ρ θ=>(f ρ θ).bind fun x θ=>match x with
  | .int i=>.ok (.int (-i)) θ
  | _=>.bad
mutual
def dat:D→PyData
  | .bl b=>.bool b
  | .int i=>.int i
  | .str x=>.str x
  | .tup xs=>.tuple (ZeJ xs)
  | .lst xs=>.list (ZeJ xs)
  | _=>.none
def ZeJ:List D→List PyData
  | []=>[]
  | d::r=>dat d::ZeJ r
end
mutual
def plain:D→Bool
  | .non=>true
  | .bl _=>true
  | .int _=>true
  | .str _=>true
  | .tup xs=>ZbS xs
  | .lst xs=>ZbS xs
  | _=>false
def ZbS:List D→Bool
  | []=>true
  | d::r=>plain d && ZbS r
end
mutual
theorem rdv {B:Bx} {H:Hp} {K:PySem.W.Frag}:∀{d:D} {v:V},plain d=true→RepV B H d v→RdV K H v (dat d)
  | .non,_,_,r=>by cases (show _=V.non from r); exact .non
  | .bl b,_,_,r=>by cases (show _=V.bl b from r); exact .bl b
  | .int i,_,_,r=>by cases (show _=V.int i from r); exact .int i
  | .str x,_,_,r=>by cases (show _=V.str x from r); exact .str x
  | .tup xs,_,p,r=>by
    obtain ⟨a,vs,rfl,h,_,l⟩:=r
    exact .tup (SqT.of h) (Zru p l)
  | .lst xs,_,p,r=>by
    obtain ⟨a,vs,rfl,h,_,l⟩:=r
    exact .lst (SqL.of h) (Zru p l)
  | .ty _,_,p,_=>nomatch p
  | .scr _,_,p,_=>nomatch p
  | .ref _,_,p,_=>nomatch p
theorem Zru {B:Bx} {H:Hp} {K:PySem.W.Frag}:∀{ds:List D} {vs:List V},ZbS ds=true→RepL B H ds vs→RdVs K H vs (ZeJ ds)
  | [],_,_,r=>by cases (show _=[] from r); exact .nil
  | d::ds,_,p,r=>by
    obtain ⟨v,q,rfl,hv,hq⟩:=r
    have p':plain d=true∧ZbS ds=true:=by simpa [ZbS] using p
    exact .cons (rdv p'.1 hv) (Zru p'.2 hq)
end
mutual
theorem ZkZ:∀{d e:D},plain d=true→plain e=true→(same (dat d) (dat e)=true↔d=e):=fun {d e} p q=>by
  cases d with
  | ty _=>exact nomatch p
  | scr _=>exact nomatch p
  | ref _=>exact nomatch p
  | non=>cases e<;>simp_all [plain,dat,same]
  | bl _=>cases e<;>simp_all [plain,dat,same]
  | int _=>cases e<;>simp_all [plain,dat,same]
  | str _=>cases e<;>simp_all [plain,dat,same]
  | tup xs=>
    cases e with
    | tup ys=>
      simp only [dat,same,D.tup.injEq]
      exact Zge p q
    | ty _=>exact nomatch q
    | scr _=>exact nomatch q
    | ref _=>exact nomatch q
    | _=>simp [dat,same]
  | lst xs=>
    cases e with
    | lst ys=>
      simp only [dat,same,D.lst.injEq]
      exact Zge p q
    | ty _=>exact nomatch q
    | scr _=>exact nomatch q
    | ref _=>exact nomatch q
    | _=>simp [dat,same]
theorem Zge:∀{ds es:List D},ZbS ds=true→ZbS es=true→(sameAll (ZeJ ds) (ZeJ es)=true↔ds=es)
  | [],[],_,_=>by simp [ZeJ,sameAll]
  | [],_::_,_,_=>by simp [ZeJ,sameAll]
  | _::_,[],_,_=>by simp [ZeJ,sameAll]
  | d::ds,e::es,p,q=>by
    have p':plain d=true∧ZbS ds=true:=by simpa [ZbS] using p
    have q':plain e=true∧ZbS es=true:=by simpa [ZbS] using q
    simp only [ZeJ,sameAll,Bool.and_eq_true,List.cons.injEq]
    rw [ZkZ p'.1 q'.1,Zge p'.2 q'.2]
end
def look (θ:Sto) (d:D):D:=match d with
  | .ref l=>match θ[l]? with
    | some (.lst xs)=>.lst xs
    | _=>.ref l
  | d=>d
theorem ZfS {B:Bx} {θ:Sto} {H:Hp} {K:PySem.W.Frag} (G:Good X.cl B θ H) {d:D} {v:V} (r:RepV B H d v) (p:plain (look θ d)=true):RdV K H v (dat (look θ d)):=by
  cases d with
  | ref l=>
    unfold look at p ⊢
    simp only at p ⊢
    split at p
    · rename_i xs e
      obtain ⟨hl,rfl⟩:=r
      obtain ⟨vs,h1,h2⟩:=G.cel l _ e
      exact .lst (SqL.of h1) (Zru p h2)
    · exact nomatch p
  | _=>exact rdv p r
structure ZlJ (x y:D):Prop where
  px:plain x=true
  py:plain y=true
  sx:shaped (dat x)=true
  sy:shaped (dat y)=true
  nm:noMix (dat x) (dat y)=true
open Classical in
def eqM:OM:=fun x y θ=>if ZlJ (look θ x) (look θ y) then .ok (.bl (decide (look θ x=look θ y))) θ else .bad
open Classical in
def neM:OM:=fun x y θ=>if ZlJ (look θ x) (look θ y) then .ok (.bl (!decide (look θ x=look θ y))) θ else .bad
open Classical in
theorem Zk0 {d e:D} (p:plain d=true) (q:plain e=true):same (dat d) (dat e)=decide (d=e):=by
  rw [Bool.eq_iff_iff,ZkZ p q,decide_eq_true_iff]
open Classical in
theorem zV (hu:X.A.units+64<cLine):OpR X (compareOp .Eq) (rM X eqM):=by
  refine OpR.imp (Zt0 hu) fun x y H Q q=>?_
  obtain ⟨σ,B,θ,d,e,G,rd,re,w⟩:=q
  unfold eqM at w
  split at w
  · rename_i c
    refine ⟨_,_,ZfS G rd c.px,ZfS G re c.py,c.sx,c.sy,c.nm,?_⟩
    rw [Zk0 c.px c.py]
    exact ZO G (show RepV B H (.bl _) (.bl _) from rfl) w
  · exact w.elim
open Classical in
theorem ZdZ (hu:X.A.units+64<cLine):OpR X (compareOp .NotEq) (rM X neM):=by
  refine OpR.imp (ZtX hu) fun x y H Q q=>?_
  obtain ⟨σ,B,θ,d,e,G,rd,re,w⟩:=q
  unfold neM at w
  split at w
  · rename_i c
    refine ⟨_,_,ZfS G rd c.px,ZfS G re c.py,c.sx,c.sy,c.nm,?_⟩
    rw [Zk0 c.px c.py]
    exact ZO G (show RepV B H (.bl _) (.bl _) from rfl) w
  · exact w.elim
def Zjt:List D→Bool
  | []=>true
  | .int _::r=>Zjt r
  | _=>false
def Zia:List D→Bool
  | []=>true
  | .str _::r=>Zia r
  | _=>false
def memI (i:Int):List D→Bool
  | .int j::r=>decide (j=i) || memI i r
  | _=>false
def memS (x:Str):List D→Bool
  | .str y::r=>decide (y=x) || memS x r
  | _=>false
def inD (θ:Sto) (x y:D):Option Bool:=match seqOf θ y with
  | none=>none
  | some ys=>match x with
    | .int i=>if Zjt ys=true then some (memI i ys) else none
    | .str z=>if Zia ys=true then some (memS z ys) else none
    | _=>none
def inM:OM:=fun x y θ=>match inD θ x y with
  | some k=>.ok (.bl k) θ
  | none=>.bad
def Zcg:OM:=fun x y θ=>match inD θ x y with
  | some k=>.ok (.bl (!k)) θ
  | none=>.bad
theorem Zg3 {B:Bx} {H:Hp}:∀{ys:List D} {vs:List V},Zjt ys=true→RepL B H ys vs→vs.all Zdj=true∧∀i:Int,inV (.int i) vs=memI i ys
  | [],_,_,r=>by cases (show _=[] from r); exact ⟨rfl,fun _=>rfl⟩
  | d::ys,_,h,r=>by
    cases d with
    | int j=>
      obtain ⟨v,q,rfl,hv,hq⟩:=r
      cases (show v=V.int j from hv)
      obtain ⟨h1,h2⟩:=Zg3 (show Zjt ys=true from h) hq
      refine ⟨by simp [Zdj] at h1 ⊢; exact h1,fun i=>?_⟩
      have:=h2 i
      unfold inV at this ⊢
      rw [List.any_cons,this]
      show (j == i || memI i ys)=(decide (j=i) || memI i ys)
      rw [Bool.beq_eq_decide_eq]
    | _=>exact nomatch h
theorem Zg2 {B:Bx} {H:Hp}:∀{ys:List D} {vs:List V},Zia ys=true→RepL B H ys vs→vs.all Zdj=true∧∀i:Str,inV (.str i) vs=memS i ys
  | [],_,_,r=>by cases (show _=[] from r); exact ⟨rfl,fun _=>rfl⟩
  | d::ys,_,h,r=>by
    cases d with
    | str j=>
      obtain ⟨v,q,rfl,hv,hq⟩:=r
      cases (show v=V.str j from hv)
      obtain ⟨h1,h2⟩:=Zg2 (show Zia ys=true from h) hq
      refine ⟨by simp [Zdj] at h1 ⊢; exact h1,fun i=>?_⟩
      have:=h2 i
      unfold inV at this ⊢
      rw [List.any_cons,this]
      show (j == i || memS i ys)=(decide (j=i) || memS i ys)
      rw [Bool.beq_eq_decide_eq]
    | _=>exact nomatch h
theorem Zqr {cl:Mo} {B:Bx} {θ:Sto} {H:Hp} (G:Good cl B θ H) {d e:D} {x y:V} {k:Bool} (rd:RepV B H d x) (re:RepV B H e y) (h:inD θ d e=some k) :
    ∃p xs,y=.ref p∧(SqL cl.K H p xs∨SqT cl.K H p xs)∧Zdj x=true∧xs.all Zdj=true∧inV x xs=k:=by
  unfold inD at h
  split at h
  · cases h
  · rename_i ys e1
    obtain ⟨a,vs,rfl,h1,h2⟩:=ZcV G re e1
    split at h
    · split at h
      · rename_i i hz
        cases h
        cases (show x=V.int i from rd)
        obtain ⟨q1,q2⟩:=Zg3 hz h2
        exact ⟨a,vs,rfl,h1,rfl,q1,q2 i⟩
      · cases h
    · split at h
      · rename_i i hz
        cases h
        cases (show x=V.str i from rd)
        obtain ⟨q1,q2⟩:=Zg2 hz h2
        exact ⟨a,vs,rfl,h1,rfl,q1,q2 i⟩
      · cases h
    · cases h
theorem Zjc:OpR X (compareOp .In) (rM X inM):=by
  refine OpR.imp Znu fun x y H Q q=>?_
  obtain ⟨σ,B,θ,d,e,G,rd,re,w⟩:=q
  unfold inM at w
  split at w
  · rename_i k e1
    obtain ⟨p,xs,h1,h2,h3,h4,h5⟩:=Zqr G rd re e1
    exact ⟨p,xs,h1,h2,h3,h4,by rw [h5]; exact ZO G (show RepV B H (.bl _) (.bl _) from rfl) w⟩
  · exact w.elim
theorem ZfK:OpR X (compareOp .NotIn) (rM X Zcg):=by
  refine OpR.imp Zjb fun x y H Q q=>?_
  obtain ⟨σ,B,θ,d,e,G,rd,re,w⟩:=q
  unfold Zcg at w
  split at w
  · rename_i k e1
    obtain ⟨p,xs,h1,h2,h3,h4,h5⟩:=Zqr G rd re e1
    exact ⟨p,xs,h1,h2,h3,h4,by rw [h5]; exact ZO G (show RepV B H (.bl _) (.bl _) from rfl) w⟩
  · exact w.elim
def Zcu:D→Bool
  | .non=>true
  | _=>false
theorem Zll {B:Bx} {H:Hp} {d:D} {v:V} (r:RepV B H d v):Zcu d=decide (v=.non):=by
  cases d with
  | non=>cases (show v=.non from r); simp [Zcu]
  | bl b=>cases (show v=.bl b from r); simp [Zcu]
  | int i=>cases (show v=.int i from r); simp [Zcu]
  | str x=>cases (show v=.str x from r); simp [Zcu]
  | ty n=>cases (show v=.ty n from r); simp [Zcu]
  | scr ns=>obtain ⟨a,rfl,_⟩:=r; simp [Zcu]
  | tup xs=>obtain ⟨a,o,rfl,_⟩:=r; simp [Zcu]
  | lst xs=>obtain ⟨a,o,rfl,_⟩:=r; simp [Zcu]
  | ref l=>obtain ⟨_,rfl⟩:=r; simp [Zcu]
def isM:OM:=fun x y θ=>match y with
  | .non=>.ok (.bl (Zcu x)) θ
  | .bl c=>match x with
    | .bl b=>.ok (.bl (b == c)) θ
    | _=>.bad
  | _=>.bad
def Zd6:OM:=fun x y θ=>match y with
  | .non=>.ok (.bl (!Zcu x)) θ
  | .bl c=>match x with
    | .bl b=>.ok (.bl (!(b == c))) θ
    | _=>.bad
  | _=>.bad
theorem ZtZ:OpR X (compareOp .Is) (fun x y H Q=>∃b c:Bool,x=.bl b∧y=.bl c∧Q (.bl (b == c)) H):=by
  intro pins s σ H x y v u Q I rx ry h
  obtain ⟨b,c,rfl,rfl,q⟩:=h
  cases rx
  cases ry
  have e:(Value.bool b == Value.bool c)=(b == c):=by cases b<;>cases c<;>rfl
  exact wpAny_is_plain rfl ⟨.bl _,H,I,rfl,by rw [e]; exact q⟩
theorem ZrQ:OpR X (compareOp .Is) (rM X isM):=by
  refine OpR.imp (op_isN.or ZtZ) fun x y H Q q=>?_
  obtain ⟨σ,B,θ,d,e,G,rd,re,w⟩:=q
  unfold isM at w
  split at w
  · refine .inl ⟨re,?_⟩
    have q:=ZO G (show RepV B H (.bl _) (.bl _) from rfl) w
    rw [Zll rd] at q
    exact q
  · split at w
    · exact .inr ⟨_,_,rd,re,ZO G (show RepV B H (.bl _) (.bl _) from rfl) w⟩
    · exact w.elim
  · exact w.elim
theorem ZfL:OpR X (compareOp .IsNot) (rM X Zd6):=by
  refine OpR.imp (op_notN.or ZrN) fun x y H Q q=>?_
  obtain ⟨σ,B,θ,d,e,G,rd,re,w⟩:=q
  unfold Zd6 at w
  split at w
  · refine .inl ⟨re,?_⟩
    have q:=ZO G (show RepV B H (.bl _) (.bl _) from rfl) w
    rw [Zll rd] at q
    exact q
  · split at w
    · exact .inr ⟨_,_,rd,re,ZO G (show RepV B H (.bl _) (.bl _) from rfl) w⟩
    · exact w.elim
  · exact w.elim
end
end
end L2.MM
set_option Elab.async false
set_option linter.all false
set_option maxRecDepth 100000
set_option maxHeartbeats 4000000
namespace L2.MM
open PySem PySem.Spec PyProof.Rows PySem.SeqAt
noncomputable section
variable {X:Cx}
section
def ixD (θ:Sto) (x:D) (i:Int):Option D:=match x with
  | .str z=>if z.length≤BIG then (atI z.cps.toList i).map fun c=>.str ⟨#[c]⟩ else none
  | x=>(seqOf θ x).bind (atI · i)
def ixM:OM:=fun x y θ=>match y with
  | .int i=>match ixD θ x i with
    | some d=>.ok d θ
    | none=>.bad
  | _=>.bad
theorem RepL.atI {B:Bx} {H:Hp} {xs:List D} {vs:List V} {i:Int} {d:D} (r:RepL B H xs vs) (h:atI xs i=some d):∃v,atI vs i=some v∧RepV B H d v:=by
  unfold L2.atI at h ⊢
  rw [r.len]
  cases e:ixN xs.length i with
  | none=>rw [e] at h; cases h
  | some j=>
    rw [e] at h
    exact r.get h
theorem ZC:IxR X (rM X ixM):=by
  refine IxR.imp Zuc fun x y H Q q=>?_
  obtain ⟨σ,B,θ,d,e,G,rd,re,w⟩:=q
  unfold ixM at w
  split at w
  · rename_i i
    split at w
    · rename_i r e1
      have sq:(seqOf θ d).bind (L2.atI · i)=some r→rIx X.K x y H Q:=fun h=>by
        cases e2:seqOf θ d with
        | none=>rw [e2] at h; cases h
        | some xs=>
          rw [e2] at h
          obtain ⟨a,vs,rfl,h1,h2⟩:=ZcV G rd e2
          obtain ⟨v,h3,h4⟩:=h2.atI h
          have q:=ZO G h4 w
          rcases h1 with h1 | h1
          · exact .inl ⟨a,vs,i,v,rfl,re,h1,h3,q⟩
          · exact .inr (.inl ⟨a,vs,i,v,rfl,re,h1,h3,q⟩)
      cases d with
      | str z=>
        simp only [ixD] at e1
        split at e1
        · rename_i hz
          cases e2:L2.atI z.cps.toList i with
          | none=>rw [e2] at e1; cases e1
          | some c=>
            rw [e2] at e1
            cases e1
            exact .inr (.inr ⟨z,i,c,rd,re,Zar hz,e2,ZO G (show RepV B H (.str _) (.str _) from rfl) w⟩)
        · cases e1
      | non=>exact sq e1
      | bl _=>exact sq e1
      | int _=>exact sq e1
      | ty _=>exact sq e1
      | scr _=>exact sq e1
      | tup _=>exact sq e1
      | lst _=>exact sq e1
      | ref _=>exact sq e1
    · exact w.elim
  · exact w.elim
abbrev PM:=List Sl→Sto→R (Option Int)
def EqO (_:Bx) (_:Hp) (a b:Option Int):Prop:=a=b
def tMO (X:Cx) (f:PM):TO:=fun σ H Q=>∃B θ ρ,Frm X.cl B θ ρ σ H∧wpR X σ EqO B H (f ρ θ) Q
def MO (X:Cx) (e:Option Expr) (f:PM):Prop:=PO X e (tMO X f)
theorem Zes {f:PM} {σ:St} {H:Hp} {Q Q':Option Int→Hp→Prop} (h:tMO X f σ H Q) (hQ:∀v H',Q v H'→Q' v H'):tMO X f σ H Q':=let ⟨B,θ,ρ,F,w⟩:=h; ⟨B,θ,ρ,F,w.mono hQ⟩
theorem ZkX {σ:St} {H:Hp} {γ δ:Type} {Rel':Bx→Hp→γ→δ→Prop} {B:Bx} {θ:Sto} {ρ:List Sl} {f:PM} {k:Option Int→Sto→R γ} {Q:δ→Hp→Prop} (F:Frm X.cl B θ ρ σ H) (h:wpR X σ Rel' B H ((f ρ θ).bind k) Q) :
    tMO X f σ H (fun c H1=>∃B1 θ1,ExtE B B1 H H1∧Frm X.cl B1 θ1 ρ σ H1∧wpR X σ Rel' B1 H1 (k c θ1) Q):=
  ⟨B,θ,ρ,F,(wpR.bind (Rel:=EqO) h).mono fun v H1 ⟨B1,θ1,d,E,G,r,w⟩=>by cases (show d=v from r); exact ⟨B1,θ1,E,F.ext E G,w⟩⟩
def ZaV:PM:=fun _ θ=>.ok none θ
def Zby (f:EM):PM:=fun ρ θ=>(f ρ θ).bind fun x θ=>match x with
  | .int i=>.ok (some i) θ
  | _=>.bad
theorem PO.imp {e:Option Expr} {t t':TO} (h:PO X e t) (hi:∀σ H Q,t' σ H Q→t σ H Q):PO X e t':=fun pins s σ H Q I q=>h pins s σ H Q I (hi σ H Q q)
theorem ZbU:MO X none ZaV:=PO.imp ZrE fun σ H Q h=>by
  obtain ⟨B,θ,ρ,F,w⟩:=h
  exact ZO (Rel:=EqO) F.good rfl w
theorem Zao {e:Expr} {f:EM} (h:ME X e f):MO X (some e) (Zby f):=PO.imp (ZrD h) fun σ H Q h=>by
  obtain ⟨B,θ,ρ,F,w⟩:=h
  refine zc (step F w) ?_
  rintro v H1 ⟨B1,θ1,x,E1,F1,rx,w1⟩
  cases x with
  | int i=>exact ⟨i,rx,ZO (Rel:=EqO) F1.good rfl w1⟩
  | _=>exact w1.elim
def Za9 {α:Type} (xs:List α) (lo hi:Option Int):List α:=(xs.drop (HT.sIx xs.length 0 lo)).take (HT.sIx xs.length xs.length hi-HT.sIx xs.length 0 lo)
theorem RepL.cut {B:Bx} {H:Hp} {xs:List D} {vs:List V} (r:RepL B H xs vs) (lo hi:Option Int):RepL B H (Za9 xs lo hi) (Zlx vs lo hi):=by
  unfold Za9 Zlx
  rw [r.len]
  exact (r.drop _).take _
def Zfl (θ:Sto) (x:D) (lo hi:Option Int):Option D:=match x with
  | .tup xs=>if HT.sIx xs.length 0 lo=0∧HT.sIx xs.length xs.length hi=xs.length then none else some (.tup (Za9 xs lo hi))
  | x=>(ZaR θ x).map fun xs=>.lst (Za9 xs lo hi)
def mSl (f:EM) (lo hi:PM):EM:=fun ρ θ=>(f ρ θ).bind fun x θ=>(lo ρ θ).bind fun l θ=>(hi ρ θ).bind fun h θ=>match Zfl θ x l h with
  | some d=>.ok d θ
  | none=>.bad
theorem SlR.imp {r r':V→Option Int→Option Int→Hp→VK→Prop} (h:SlR X r) (hi:∀x l u H Q,r' x l u H Q→r x l u H Q):SlR X r':=by
  intro pins s σ H x v vl vu lo hi' sl Q I rx hs pl pu q
  exact h pins s σ H x v vl vu lo hi' sl Q I rx hs pl pu (hi _ _ _ _ _ q)
theorem Zbe {e:Expr} {lo hi:Option Expr} {f:EM} {fl fh:PM} {pos p2:Pos} (he:ME X e f) (hl:MO X lo fl) (hh:MO X hi fh):ME X (.Subscript e (.Slice lo hi none p2) pos) (mSl f fl fh):=by
  refine PE.imp (ZpO (sl_list.or Ztu) he hl hh) fun σ H Q h=>?_
  obtain ⟨B,θ,ρ,F,w⟩:=h
  refine zc (step F w) ?_
  rintro v H1 ⟨B1,θ1,x,E1,F1,rx,w1⟩
  refine Zes (ZkX F1 w1) ?_
  rintro l H2 ⟨B2,θ2,E2,F2,w2⟩
  refine Zes (ZkX F2 w2) ?_
  rintro u H3 ⟨B3,θ3,E3,F3,w3⟩
  have rx3:=rx.ext (E2.trans E3).toExtS
  have lst:∀d,(ZaR θ3 x).map (fun xs=>D.lst (Za9 xs l u))=some d→wpR X σ RepV B3 H3 (R.ok d θ3) Q→Zvi X.K v l u H3 Q:=fun d h w=>by
    cases e2:ZaR θ3 x with
    | none=>rw [e2] at h; cases h
    | some xs=>
      rw [e2] at h
      cases h
      obtain ⟨a,vs,rfl,h1,h2⟩:=Zag F3.good rx3 e2
      exact ⟨a,vs,rfl,SqL.of h1,Zfj F3.good (h2.cut l u) w⟩
  split at w3
  · rename_i d e1
    cases x with
    | tup xs=>
      simp only [Zfl] at e1
      split at e1
      · cases e1
      · rename_i hw
        cases e1
        obtain ⟨a,vs,rfl,h1,k1,l1⟩:=rx3
        exact .inr ⟨a,vs,rfl,SqT.of h1,by rw [l1.len]; exact hw,Zhn F3.good (l1.cut l u) w3⟩
    | non=>exact .inl (lst d e1 w3)
    | bl _=>exact .inl (lst d e1 w3)
    | int _=>exact .inl (lst d e1 w3)
    | str _=>exact .inl (lst d e1 w3)
    | ty _=>exact .inl (lst d e1 w3)
    | scr _=>exact .inl (lst d e1 w3)
    | lst _=>exact .inl (lst d e1 w3)
    | ref _=>exact .inl (lst d e1 w3)
  · exact w3.elim
def ZdC {α:Type} (xs:List α) (lo hi st:Option Int):List α:=(sliceRange (sliceBounds lo hi st xs.length).1 (sliceBounds lo hi st xs.length).2.1 (sliceBounds lo hi st xs.length).2.2).filterMap (xs[·]?)
theorem RepL.none_of:∀{B:Bx} {H:Hp} {xs:List D} {vs:List V} {i:Nat},RepL B H xs vs→xs[i]?=none→vs[i]?=none:=fun {B H xs vs i} r e=>by
  have h1:=r.len
  have h2:xs.length≤i:=List.getElem?_eq_none_iff.mp e
  exact List.getElem?_eq_none_iff.mpr (by omega)
theorem RepL.pick {B:Bx} {H:Hp} {xs:List D} {vs:List V} (r:RepL B H xs vs):∀ks:List Nat,RepL B H (ks.filterMap (xs[·]?)) (ks.filterMap (vs[·]?))
  | []=>rfl
  | k::ks=>by
    cases e:xs[k]? with
    | none=>rw [List.filterMap_cons_none e,List.filterMap_cons_none (r.none_of e)]; exact r.pick ks
    | some x=>
      obtain ⟨u,e',q⟩:=r.get e
      rw [List.filterMap_cons_some e,List.filterMap_cons_some e']
      exact ⟨_,_,rfl,q,r.pick ks⟩
def ZrZ (f:EM) (lo hi st:PM):EM:=fun ρ θ=>(f ρ θ).bind fun x θ=>(lo ρ θ).bind fun l θ=>(hi ρ θ).bind fun h θ=>(st ρ θ).bind fun s θ=>match ZaR θ x with
  | some xs=>if s≠some 0∧(ZdC xs l h s).length≤BIG then .ok (.lst (ZdC xs l h s)) θ else .bad
  | none=>.bad
theorem ZiF {e sp:Expr} {lo hi:Option Expr} {f:EM} {fl fh fs:PM} {pos p2:Pos} (he:ME X e f) (hl:MO X lo fl) (hh:MO X hi fh) (hs:MO X (some sp) fs):ME X (.Subscript e (.Slice lo hi (some sp) p2) pos) (ZrZ f fl fh fs):=by
  refine PE.imp (Zns he hl hh hs) fun σ H Q h=>?_
  obtain ⟨B,θ,ρ,F,w⟩:=h
  refine zc (step F w) ?_
  rintro v H1 ⟨B1,θ1,x,E1,F1,rx,w1⟩
  refine Zes (ZkX F1 w1) ?_
  rintro l H2 ⟨B2,θ2,E2,F2,w2⟩
  refine Zes (ZkX F2 w2) ?_
  rintro u H3 ⟨B3,θ3,E3,F3,w3⟩
  refine Zes (ZkX F3 w3) ?_
  rintro s H4 ⟨B4,θ4,E4,F4,w4⟩
  split at w4
  · rename_i xs e1
    split at w4
    · rename_i hz
      obtain ⟨a,vs,rfl,h1,h2⟩:=Zag F4.good (rx.ext ((E2.trans E3).trans E4).toExtS) e1
      have p:RepL B4 H4 (ZdC xs l u s) (Zev vs l u s):=by
        unfold ZdC Zev
        rw [h2.len]
        exact h2.pick _
      exact ⟨a,vs,rfl,SqL.of h1,hz.1,by rw [p.len]; exact Zar hz.2,Zfj F4.good p w4⟩
    · exact w4.elim
  · exact w4.elim
def Zdc:GM:=fun ds θ=>match ds with
  | [.str z]=>if z.length≤BIG then .ok (.int z.length) θ else .bad
  | [d]=>match seqOf θ d with
    | some xs=>.ok (.int xs.length) θ
    | none=>.bad
  | _=>.bad
theorem RepL.one {B:Bx} {H:Hp} {d:D} {vs:List V} (r:RepL B H [d] vs):∃v,vs=[v]∧RepV B H d v:=by
  obtain ⟨v,q,rfl,hv,hq⟩:=r
  cases (show q=[] from hq)
  exact ⟨v,rfl,hv⟩
theorem RepL.two {B:Bx} {H:Hp} {d e:D} {vs:List V} (r:RepL B H [d,e] vs):∃v u,vs=[v,u]∧RepV B H d v∧RepV B H e u:=by
  obtain ⟨v,q,rfl,hv,hq⟩:=r
  obtain ⟨u,rfl,hu⟩:=hq.one
  exact ⟨v,u,rfl,hv,hu⟩
theorem Zdm:CallR X (.builtin "len") (rC X Zdc):=by
  refine CallR.imp (call_len_str.or Zjo) fun vs H Q q=>?_
  obtain ⟨σ,B,θ,ds,G,r,w⟩:=q
  unfold Zdc at w
  split at w
  · split at w
    · rename_i z hz
      obtain ⟨v,rfl,rv⟩:=r.one
      cases (show v=V.str z from rv)
      exact .inl ⟨z,rfl,Zar hz,ZO G (show RepV B H (.int _) (.int _) from rfl) w⟩
    · exact w.elim
  · split at w
    · rename_i xs e1
      obtain ⟨v,rfl,rv⟩:=r.one
      obtain ⟨a,us,rfl,h1,h2⟩:=ZcV G rv e1
      exact .inr ⟨a,us,rfl,h1,by rw [h2.len]; exact ZO G (show RepV B H (.int _) (.int _) from rfl) w⟩
    · exact w.elim
  · exact w.elim
def ZfU:List D→Option (List Int)
  | []=>some []
  | .int i::r=>(ZfU r).map (i::·)
  | _=>none
@[simp] theorem Zqq (ns:List Int):ZfU (ns.map D.int)=some ns:=by
  induction ns with
  | nil=>rfl
  | cons n r ih=>simp [ZfU,ih]
theorem ZmS:∀{ds:List D} {ns:List Int},ZfU ds=some ns→ds=ns.map D.int
  | [],_,h=>by cases h; rfl
  | d::r,ns,h=>by
    cases d with
    | int i=>
      simp only [ZfU] at h
      cases e:ZfU r with
      | none=>rw [e] at h; cases h
      | some ms=>rw [e] at h; cases h; rw [ZmS e]; rfl
    | _=>cases h
theorem Zlm {B:Bx} {H:Hp}:∀{ns:List Int} {vs:List V},RepL B H (ns.map D.int) vs→vs=ns.map V.int
  | [],_,r=>r
  | n::ns,_,r=>by
    obtain ⟨v,q,rfl,hv,hq⟩:=r
    cases (show v=V.int n from hv)
    rw [Zlm hq]; rfl
def Zjp:List D→Option (List Bool)
  | []=>some []
  | .bl i::r=>(Zjp r).map (i::·)
  | _=>none
theorem ZqT:∀{ds:List D} {ns:List Bool},Zjp ds=some ns→ds=ns.map D.bl
  | [],_,h=>by cases h; rfl
  | d::r,ns,h=>by
    cases d with
    | bl i=>
      simp only [Zjp] at h
      cases e:Zjp r with
      | none=>rw [e] at h; cases h
      | some ms=>rw [e] at h; cases h; rw [ZqT e]; rfl
    | _=>cases h
theorem Zm5 {B:Bx} {H:Hp}:∀{ns:List Bool} {vs:List V},RepL B H (ns.map D.bl) vs→vs=ns.map V.bl
  | [],_,r=>r
  | n::ns,_,r=>by
    obtain ⟨v,q,rfl,hv,hq⟩:=r
    cases (show v=V.bl n from hv)
    rw [Zm5 hq]; rfl
def Zni:GM:=fun ds θ=>match ds with
  | [d]=>match (ZaR θ d).bind ZfU with
    | some ns=>.ok (.int ns.sum) θ
    | none=>.bad
  | _=>.bad
theorem ZsZ (hc:X.calm=true:=by rfl):CallR X (.builtin "sum") (rC X Zni):=by
  refine CallR.imp (ZqO hc) fun vs H Q q=>?_
  obtain ⟨σ,B,θ,ds,G,r,w⟩:=q
  unfold Zni at w
  split at w
  · rename_i d
    split at w
    · rename_i ns e1
      obtain ⟨v,rfl,rv⟩:=r.one
      cases e2:ZaR θ d with
      | none=>rw [e2] at e1; cases e1
      | some xs=>
        rw [e2] at e1
        obtain ⟨a,us,rfl,h1,h2⟩:=Zag G rv e2
        rw [ZmS (show ZfU xs=some ns from e1)] at h2
        rw [Zlm h2] at h1
        exact ⟨a,ns,rfl,SqL.of h1,ZO G (show RepV B H (.int _) (.int _) from rfl) w⟩
    · exact w.elim
  · exact w.elim
def ZqY:GM:=fun ds θ=>match ds with
  | [d]=>match (ZaR θ d).bind Zjp with
    | some ns=>.ok (.bl (ns.all id)) θ
    | none=>.bad
  | _=>.bad
theorem Zv4 (hc:X.calm=true:=by rfl):CallR X (.builtin "all") (rC X ZqY):=by
  refine CallR.imp (ZqQ hc) fun vs H Q q=>?_
  obtain ⟨σ,B,θ,ds,G,r,w⟩:=q
  unfold ZqY at w
  split at w
  · rename_i d
    split at w
    · rename_i ns e1
      obtain ⟨v,rfl,rv⟩:=r.one
      cases e2:ZaR θ d with
      | none=>rw [e2] at e1; cases e1
      | some xs=>
        rw [e2] at e1
        obtain ⟨a,us,rfl,h1,h2⟩:=Zag G rv e2
        rw [ZqT (show Zjp xs=some ns from e1)] at h2
        rw [Zm5 h2] at h1
        exact ⟨a,ns,rfl,SqL.of h1,ZO G (show RepV B H (.bl _) (.bl _) from rfl) w⟩
    · exact w.elim
  · exact w.elim
def Zle:GM:=fun ds θ=>match ds with
  | [.int i,.int j]=>.ok (.int (if j<i then j else i)) θ
  | [.int i,.int j,.int k]=>.ok (.int (if j<i then (if k<j then k else j) else (if k<i then k else i))) θ
  | _=>.bad
def ZrY:GM:=fun ds θ=>match ds with
  | [.int i,.int j]=>.ok (.int (if j > i then j else i)) θ
  | _=>.bad
theorem RepL.three {B:Bx} {H:Hp} {d e f:D} {vs:List V} (r:RepL B H [d,e,f] vs):∃v u w,vs=[v,u,w]∧RepV B H d v∧RepV B H e u∧RepV B H f w:=by
  obtain ⟨v,q,rfl,hv,hq⟩:=r
  obtain ⟨u,w,rfl,hu,hw⟩:=hq.two
  exact ⟨v,u,w,rfl,hv,hu,hw⟩
theorem ZnL (hc:X.calm=true):CallR X (.builtin "min") (fun xs H Q=>∃i j k,xs=[.int i,.int j,.int k]∧Q (.int (if j<i then (if k<j then k else j) else (if k<i then k else i))) H):=by
  intro pins s σ H xs us Q I r h
  obtain ⟨i,j,k,rfl,q⟩:=h
  cases r with
  | cons r1 rr=>
    obtain ⟨u2,u3,e,r2,r3⟩:=Zpj rr
    subst e
    obtain ⟨t1,rfl⟩:=r1
    obtain ⟨t2,rfl⟩:=r2
    obtain ⟨t3,rfl⟩:=r3
    refine min_three_ints (I.ok.hd hc) fun h' tk kk=>⟨_,H,I.kept kk,?_,q⟩
    by_cases c1:j<i
    · by_cases c2:k<j
      · simp only [c1,c2,if_true]; exact ⟨_,rfl⟩
      · simp only [c1,c2,if_true,if_false]; exact ⟨_,rfl⟩
    · by_cases c2:k<i
      · simp only [c1,c2,if_true,if_false]; exact ⟨_,rfl⟩
      · simp only [c1,c2,if_false]; exact ⟨_,rfl⟩
theorem Zm4 (hc:X.calm=true:=by rfl):CallR X (.builtin "min") (rC X Zle):=by
  refine CallR.imp ((ZnM hc).or (ZnL hc)) fun vs H Q q=>?_
  obtain ⟨σ,B,θ,ds,G,r,w⟩:=q
  unfold Zle at w
  split at w
  · rename_i i j
    obtain ⟨v,u,rfl,rv,ru⟩:=r.two
    cases (show v=V.int i from rv)
    cases (show u=V.int j from ru)
    exact .inl ⟨i,j,rfl,ZO G (show RepV B H (.int _) (.int _) from rfl) w⟩
  · rename_i i j k
    obtain ⟨v,u,z,rfl,rv,ru,rz⟩:=r.three
    cases (show v=V.int i from rv)
    cases (show u=V.int j from ru)
    cases (show z=V.int k from rz)
    exact .inr ⟨i,j,k,rfl,ZO G (show RepV B H (.int _) (.int _) from rfl) w⟩
  · exact w.elim
theorem Zv2 (hc:X.calm=true:=by rfl):CallR X (.builtin "max") (rC X ZrY):=by
  refine CallR.imp (ZnN hc) fun vs H Q q=>?_
  obtain ⟨σ,B,θ,ds,G,r,w⟩:=q
  unfold ZrY at w
  split at w
  · rename_i i j
    obtain ⟨v,u,rfl,rv,ru⟩:=r.two
    cases (show v=V.int i from rv)
    cases (show u=V.int j from ru)
    exact ⟨i,j,rfl,ZO G (show RepV B H (.int _) (.int _) from rfl) w⟩
  · exact w.elim
def Zr3:GM:=fun ds θ=>match ds with
  | [.int i]=>.ok (.int i) θ
  | [.bl k]=>.ok (.int (if k then 1 else 0)) θ
  | _=>.bad
theorem Zv3:CallR X (.type "int") (rC X Zr3):=by
  refine CallR.imp ZnO fun vs H Q q=>?_
  obtain ⟨σ,B,θ,ds,G,r,w⟩:=q
  unfold Zr3 at w
  split at w
  · rename_i i
    obtain ⟨v,rfl,rv⟩:=r.one
    cases (show v=V.int i from rv)
    exact .inl ⟨i,rfl,ZO G (show RepV B H (.int _) (.int _) from rfl) w⟩
  · rename_i k
    obtain ⟨v,rfl,rv⟩:=r.one
    cases (show v=V.bl k from rv)
    exact .inr ⟨k,rfl,ZO G (show RepV B H (.int _) (.int _) from rfl) w⟩
  · exact w.elim
def Zlg:GM:=fun ds θ=>match ds with
  | [d]=>match seqOf θ d with
    | some xs=>.ok (.lst xs) θ
    | none=>.bad
  | _=>.bad
theorem ZqR:CallR X (.type "list") (rC X Zlg):=by
  refine CallR.imp Zjn fun vs H Q q=>?_
  obtain ⟨σ,B,θ,ds,G,r,w⟩:=q
  unfold Zlg at w
  split at w
  · split at w
    · rename_i xs e1
      obtain ⟨v,rfl,rv⟩:=r.one
      obtain ⟨a,us,rfl,h1,h2⟩:=ZcV G rv e1
      exact ⟨a,us,rfl,h1,Zfj G h2 w⟩
    · exact w.elim
  · exact w.elim
def Zfk:GM:=fun ds θ=>match ds with
  | [.tup xs]=>.ok (.tup xs) θ
  | [d]=>match ZaR θ d with
    | some xs=>.ok (.tup xs) θ
    | none=>.bad
  | _=>.bad
theorem Zhj:CallR X (.type "tuple") (rC X Zfk):=by
  refine CallR.imp Zii fun vs H Q q=>?_
  obtain ⟨σ,B,θ,ds,G,r,w⟩:=q
  unfold Zfk at w
  split at w
  · rename_i xs
    obtain ⟨v,rfl,rv⟩:=r.one
    obtain ⟨a,us,rfl,h1,k1,l1⟩:=id rv
    exact ⟨a,us,rfl,.inr ⟨SqT.of h1,ZO G rv w⟩⟩
  · split at w
    · rename_i xs e1
      obtain ⟨v,rfl,rv⟩:=r.one
      obtain ⟨a,us,rfl,h1,h2⟩:=Zag G rv e1
      exact ⟨a,us,rfl,.inl ⟨SqL.of h1,Zhn G h2 w⟩⟩
    · exact w.elim
  · exact w.elim
inductive Ty | non | bl | int | str | lst | tup
def Ty.nm:Ty→String
  | .non=>"NoneType" | .bl=>"bool" | .int=>"int" | .str=>"str" | .lst=>"list" | .tup=>"tuple"
def tyD (θ:Sto):D→Option Ty
  | .non=>some .non
  | .bl _=>some .bl
  | .int _=>some .int
  | .str _=>some .str
  | .tup _=>some .tup
  | .scr _=>none
  | d=>(ZaR θ d).map fun _=>.lst
def isT:Ty→String→Option Bool
  | .non,"int"=>some false | .non,"bool"=>some false | .non,"list"=>some false | .non,"tuple"=>some false | .non,"str"=>some false
  | .bl,"int"=>some true | .bl,"bool"=>some true | .bl,"list"=>some false | .bl,"tuple"=>some false | .bl,"str"=>some false
  | .int,"int"=>some true | .int,"bool"=>some false | .int,"list"=>some false | .int,"tuple"=>some false | .int,"str"=>some false
  | .str,"int"=>some false | .str,"bool"=>some false | .str,"list"=>some false | .str,"tuple"=>some false | .str,"str"=>some true
  | .lst,"int"=>some false | .lst,"bool"=>some false | .lst,"list"=>some true | .lst,"tuple"=>some false | .lst,"str"=>some false
  | .tup,"int"=>some false | .tup,"bool"=>some false | .tup,"list"=>some false | .tup,"tuple"=>some true | .tup,"str"=>some false
  | _,_=>none
theorem Zud {K:PySem.W.Frag} {t:Ty} {n:String} {b:Bool} (h:isT t n=some b):PySem.W.kitOne K (.type t.nm) (.type n)=some b:=by
  unfold isT at h
  split at h<;>first | (cases h; with_unfolding_all rfl) | cases h
def ZgO:GM:=fun ds θ=>match ds with
  | [d,.ty n]=>match (tyD θ d).bind (isT · n) with
    | some b=>.ok (.bl b) θ
    | none=>.bad
  | _=>.bad
theorem Zs9 {B:Bx} {θ:Sto} {H:Hp} {K:PySem.W.Frag} (G:Good X.cl B θ H) {d:D} {v:V} {t:Ty} (r:RepV B H d v) (h:tyD θ d=some t):Zf7 K H v (.type t.nm):=by
  cases d with
  | non=>cases (show v=.non from r); cases h; exact .non
  | bl b=>cases (show v=.bl b from r); cases h; exact .bl b
  | int b=>cases (show v=.int b from r); cases h; exact .int b
  | str b=>cases (show v=.str b from r); cases h; exact .str b
  | tup xs=>obtain ⟨a,vs,rfl,h1,_⟩:=r; cases h; exact .tup h1
  | scr xs=>cases h
  | lst xs=>obtain ⟨a,vs,rfl,h1,_⟩:=r; cases h; exact .lst h1
  | ref l=>
    cases e:ZaR θ (.ref l) with
    | none=>simp only [tyD,e] at h; cases h
    | some xs=>
      simp only [tyD,e] at h
      cases h
      obtain ⟨a,us,rfl,h1,h2⟩:=Zag G r e
      exact .lst h1
  | ty n=>cases h
theorem Zme:CallR X (.builtin "isinstance") (rC X ZgO):=by
  refine CallR.imp ZlC fun vs H Q q=>?_
  obtain ⟨σ,B,θ,ds,G,r,w⟩:=q
  unfold ZgO at w
  split at w
  · rename_i d n
    split at w
    · rename_i b e1
      obtain ⟨v,u,rfl,rv,ru⟩:=r.two
      cases (show u=V.ty n from ru)
      cases e2:tyD θ d with
      | none=>rw [e2] at e1; cases e1
      | some t=>
        rw [e2] at e1
        exact ⟨v,n,_,b,rfl,Zs9 G rv e2,Zud e1,ZO G (show RepV B H (.bl _) (.bl _) from rfl) w⟩
    · exact w.elim
  · exact w.elim
end
end
end L2.MM
set_option Elab.async false
set_option linter.all false
set_option maxRecDepth 100000
set_option maxHeartbeats 4000000
namespace L2.MM
open PySem PySem.Spec PyProof.Rows PySem.SeqAt
noncomputable section
variable {X:Cx}
inductive Src where
  | seq (d:D) | rng (lo:Int) (n:Nat)
def Src.items (θ:Sto):Src→Option (List D)
  | .seq d=>seqOf θ d
  | .rng lo n=>some ((List.range n).map fun (i:Nat)=>D.int (lo+(i:Int)))
def SrcRep (K:PySem.W.Frag) (B:Bx) (H:Hp):Src→It→Prop
  | .seq d,J=>∃a,RepV B H d (.ref a)∧J=(match d with | .tup _=>Itt K a | _=>Itl K a)
  | .rng lo n,J=>J=Itr lo n
abbrev IM:=List Sl→Sto→R Src
section
def tMI (X:Cx) (f:IM):TI:=fun σ H Q=>∃B θ ρ,Frm X.cl B θ ρ σ H∧wpR X σ (SrcRep X.K) B H (f ρ θ) Q
def MI (X:Cx) (tg iter:Expr) (f:IM):Prop:=PI X tg iter (tMI X f)
theorem PI.imp {tg iter:Expr} {t t':TI} (h:PI X tg iter t) (hi:∀σ H Q,t' σ H Q→t σ H Q):PI X tg iter t':=fun pins s σ H Q I q=>h pins s σ H Q I (hi σ H Q q)
theorem SrcRep.ext {K:PySem.W.Frag} {B B':Bx} {H H':Hp} {S:Src} {J:It} (r:SrcRep K B H S J) (E:ExtS B B' H H'):SrcRep K B' H' S J:=by
  cases S with
  | seq d=>obtain ⟨a,h,e⟩:=r; exact ⟨a,h.ext E,e⟩
  | rng lo n=>exact r
theorem Zi4 {cl:Mo} {B:Bx} {θ:Sto} {H:Hp} {S:Src} {J:It} {xs:List D} (G:Good cl B θ H) (r:SrcRep cl.K B H S J) (h:S.items θ=some xs) :
    (∀i d,xs[i]?=some d→J.go i H∧∀x H',J.yld i H x H'→H'=H∧RepV B H d x)∧J.stop xs.length H:=by
  cases S with
  | rng lo n=>
    cases (show J=Itr lo n from r)
    cases h
    refine ⟨fun i d e=>?_,by show n≤_; simp⟩
    rw [List.getElem?_map] at e
    by_cases hi:i<n
    · rw [List.getElem?_range hi] at e
      cases e
      exact ⟨hi,fun x H' y=>⟨y.1,y.2⟩⟩
    · rw [List.getElem?_eq_none (by simpa using hi)] at e
      cases e
  | seq d=>
    obtain ⟨a,rv,e⟩:=r
    cases d with
    | tup ys=>
      obtain ⟨a',vs,e1,h1,_,h2⟩:=rv
      cases e1
      cases h
      simp only at e
      subst e
      refine ⟨fun i d e=>?_,⟨vs,SqT.of h1,by rw [h2.len]; exact Nat.le_refl _⟩⟩
      obtain ⟨v,q1,q2⟩:=h2.get e
      refine ⟨⟨vs,v,SqT.of h1,q1⟩,fun x H' y=>⟨y.1,?_⟩⟩
      have:=y.2 vs (SqT.of h1)
      rw [q1] at this
      cases this
      exact q2
    | scr ns=>
      cases h
      obtain ⟨a',vs',e1,h1,_⟩:=ZcV G rv (show seqOf θ (.scr ns)=some (ns.map D.int) from rfl)
      cases e1
      simp only at e
      subst e
      have hS:SqL cl.K H a (ns.map V.int):=by
        obtain ⟨a',e1,h1⟩:=rv
        cases e1
        rcases h1 with ⟨o,h1,_⟩ | h1
        · exact .inl (.inr ⟨o,h1⟩)
        · exact .inr (G.kc a ns h1)
      have h2:RepL B H (ns.map D.int) (ns.map V.int):=RepL.map (f:=D.int) (g:=V.int) (fun _=>rfl) ns
      refine ⟨fun i d e=>?_,⟨ns.map V.int,hS,by simp⟩⟩
      obtain ⟨v,q1,q2⟩:=h2.get e
      refine ⟨⟨_,v,hS,q1⟩,fun x H' y=>⟨y.1,?_⟩⟩
      have:=y.2 _ hS
      rw [q1] at this
      cases this
      exact q2
    | lst ys=>
      obtain ⟨a',vs,e1,h1,h2⟩:=Zag G rv (show ZaR θ (.lst ys)=some xs from h)
      cases e1
      simp only at e
      subst e
      refine ⟨fun i d e=>?_,⟨vs,SqL.of h1,by rw [h2.len]; exact Nat.le_refl _⟩⟩
      obtain ⟨v,q1,q2⟩:=h2.get e
      refine ⟨⟨vs,v,SqL.of h1,q1⟩,fun x H' y=>⟨y.1,?_⟩⟩
      have:=y.2 vs (SqL.of h1)
      rw [q1] at this
      cases this
      exact q2
    | ref l=>
      obtain ⟨a',vs,e1,h1,h2⟩:=Zag G rv (show ZaR θ (.ref l)=some xs from h)
      cases e1
      simp only at e
      subst e
      refine ⟨fun i d e=>?_,⟨vs,SqL.of h1,by rw [h2.len]; exact Nat.le_refl _⟩⟩
      obtain ⟨v,q1,q2⟩:=h2.get e
      refine ⟨⟨vs,v,SqL.of h1,q1⟩,fun x H' y=>⟨y.1,?_⟩⟩
      have:=y.2 vs (SqL.of h1)
      rw [q1] at this
      cases this
      exact q2
    | non=>cases h
    | bl _=>cases h
    | int _=>cases h
    | str _=>cases h
    | ty _=>cases h
def Zzo (K:PySem.W.Frag) (tl:TE):TI:=fun σ H R=>tl σ H fun x H1=>∃a,x=.ref a∧(((∃xs,SqL K H1 a xs)∧R (Itl K a) H1)∨((∃xs,SqT K H1 a xs)∧R (Itt K a) H1))
theorem ZtK {tg l:Expr} {tl:TE} (hl:PE X l tl):PI X tg l (Zzo X.K tl):=by
  intro pins s σ H R I h
  refine thn (hl pins s σ H _ I h) fun v s1 ⟨x,H1,I1,r1,q1⟩=>?_
  obtain ⟨a,e,q1⟩:=q1
  subst e
  cases r1
  rcases q1 with ⟨⟨xs,hq⟩,q⟩ | ⟨⟨xs,hq⟩,q⟩
  · obtain ⟨its,rv,p,hz⟩:=I1.list hq
    refine wpAny_pyIter_list p.isList ?_
    refine ⟨s1.heap.objs.size,[s1.heap.objs.size],_,_,H1,rfl,I1.kept (t':=s1.toks) fun b o e=>Heap.get?_push_of_some _ e,Zne a _,⟨_,Heap.get?_push_size _ rfl,rfl,rfl⟩,fun b hb=>?_,q⟩
    have e:b=s1.heap.objs.size:=by simpa using hb
    subst e
    exact I1.fpOk (Nat.le_refl _) (I1.hok.fresh (Nat.le_refl _))
  · obtain ⟨its,rv,p,hz⟩:=I1.tuple hq
    refine wpAny_pyIter_tuple (show s1.heap.IsTuple a its.toArray from p) ?_
    refine ⟨s1.heap.objs.size,[s1.heap.objs.size],_,_,H1,rfl,I1.kept (t':=s1.toks) fun b o e=>Heap.get?_push_of_some _ e,ZlK a _,⟨_,Heap.get?_push_size _ rfl,rfl,rfl⟩,fun b hb=>?_,q⟩
    have e:b=s1.heap.objs.size:=by simpa using hb
    subst e
    exact I1.fpOk (Nat.le_refl _) (I1.hok.fresh (Nat.le_refl _))
def mIn (f:EM):IM:=fun ρ θ=>(f ρ θ).bind fun d θ=>match seqOf θ d with
  | some _=>.ok (.seq d) θ
  | none=>.bad
theorem ZlZ {tg l:Expr} {f:EM} (h:ME X l f):MI X tg l (mIn f):=by
  refine PI.imp (ZtK h) fun σ H R q=>?_
  obtain ⟨B,θ,ρ,F,w⟩:=q
  refine zc (step F w) ?_
  rintro v H1 ⟨B1,θ1,d,E1,F1,rd,w1⟩
  split at w1
  · rename_i xs e
    obtain ⟨a,vs,rfl,h1,h2⟩:=ZcV F1.good rd e
    refine ⟨a,rfl,?_⟩
    have fin:=fun J (hJ:SrcRep X.K B1 H1 (.seq d) J)=>ZO (Rel:=SrcRep X.K) F1.good hJ w1
    cases d with
    | tup ys=>
      obtain ⟨a',us,e1,g1,_,_⟩:=id rd
      cases e1
      exact .inr ⟨⟨us,SqT.of g1⟩,fin _ ⟨a,rd,rfl⟩⟩
    | scr ns=>
      have hS:SqL X.K H1 a (ns.map V.int):=by
        obtain ⟨a',e1,g1⟩:=id rd
        cases e1
        rcases g1 with ⟨o,g1,_⟩ | g1
        · exact .inl (.inr ⟨o,g1⟩)
        · exact .inr (F1.good.kc a ns g1)
      exact .inl ⟨⟨_,hS⟩,fin _ ⟨a,rd,rfl⟩⟩
    | lst ys=>
      obtain ⟨a',us,e1,g1,_⟩:=Zag F1.good rd (show ZaR θ1 (.lst ys)=some xs from e)
      cases e1
      exact .inl ⟨⟨us,SqL.of g1⟩,fin _ ⟨a,rd,rfl⟩⟩
    | ref l=>
      obtain ⟨a',us,e1,g1,_⟩:=Zag F1.good rd (show ZaR θ1 (.ref l)=some xs from e)
      cases e1
      exact .inl ⟨⟨us,SqL.of g1⟩,fin _ ⟨a,rd,rfl⟩⟩
    | non=>cases e
    | bl _=>cases e
    | int _=>cases e
    | str _=>cases e
    | ty _=>cases e
  · exact w1.elim
def ZdG (f:AM):IM:=fun ρ θ=>(f ρ θ).bind fun ds θ=>match ds with
  | [.int j]=>if -1000000≤j∧j≤1000000 then .ok (.rng 0 j.toNat) θ else .bad
  | _=>.bad
theorem ZdF {tg a:Expr} {f:AM} {p pos:Pos} (hm:X.mg "range"=none) (ha:MA X [a] f) (hg:Gl X "range":=by rfl) (hs:starEach [a] X.env=[(false,eval a X.env)]:=by rfl):MI X tg (.Call (.Name "range" p) [a] [] pos) (ZdG f):=by
  refine PI.imp (Znr hg hm ha hs) fun σ H R q=>?_
  obtain ⟨B,θ,ρ,F,w⟩:=q
  refine ZbP (Zhw F w) ?_
  rintro vs H1 ⟨B1,θ1,ds,E1,F1,rd,w1⟩
  split at w1
  · rename_i j
    split at w1
    · rename_i hj
      obtain ⟨v,rfl,rv⟩:=rd.one
      cases (show v=V.int j from rv)
      exact ⟨j,rfl,by have:=hj.1; omega,by have:=hj.2; omega,ZO (Rel:=SrcRep X.K) F1.good (show SrcRep X.K B1 H1 (.rng 0 j.toNat) _ from rfl) w1⟩
    · exact w1.elim
  · exact w1.elim
def ZeH (src:List Nat) (ρ:List Sl) (x:D):List Sl:=Sl.val x::src.map fun (j:Nat)=>match ρ[j]? with
  | some (Sl.val d)=>Sl.val d
  | _=>Sl.no
theorem Frm.inner {B:Bx} {θ:Sto} {ρ:List Sl} {σ:St} {H:Hp} (F:Frm X.cl B θ ρ σ H) (src:List Nat) {x:D} {v:V} (r:RepV B H x v):Frm X.cl B θ (ZeH src ρ x) (L2.inner src σ (some v)) H:=by
  have key:∀(i:Nat) (s:Sl),(ZeH src ρ x)[i]?=some s→s=.no∨∃d,s=.val d∧∃v',(L2.inner src σ (some v))[i]?=some (some v')∧RepV B H d v':=fun i s e=>by
    cases i with
    | zero=>simp [ZeH] at e; subst e; exact .inr ⟨x,rfl,v,by simp [L2.inner],r⟩
    | succ i=>
      simp only [ZeH,List.getElem?_cons_succ,List.getElem?_map] at e
      simp only [L2.inner,List.getElem?_cons_succ,List.getElem?_map]
      cases q:src[i]? with
      | none=>rw [q] at e; cases e
      | some j=>
        rw [q] at e
        simp only [Option.map_some,Option.some.injEq] at e
        split at e
        · rename_i d ed
          subst e
          obtain ⟨v',h1,h2⟩:=F.val j d ed
          exact .inr ⟨d,rfl,v',by simp [h1],h2⟩
        · exact .inl e.symm
  refine ⟨F.good,by simp [ZeH,L2.inner],fun i d e=>?_,fun i xs e=>?_,fun i j xs ys a _ e _=>?_⟩
  · rcases key i _ e with z | ⟨d',z,v',h1,h2⟩
    · cases z
    · cases z; exact ⟨v',h1,h2⟩
  · rcases key i _ e with z | ⟨d',z,_⟩<;>cases z
  · rcases key i _ e with z | ⟨d',z,_⟩<;>cases z
open Classical in
def ZgQ (S:Src) (all:List D) (elt:D→Sto→R D):List D→List D→Sto→R D
  | [],acc,θ=>if S.items θ=some all∧acc.length≤BIG then .ok (.lst acc) θ else .bad
  | x::r,acc,θ=>if S.items θ=some all then (elt x θ).bind fun y θ=>ZgQ S all elt r (acc++[y]) θ else .bad
def Zdi (fi:IM) (src:List Nat) (elt:EM):EM:=fun ρ θ=>(fi ρ θ).bind fun S θ=>match S.items θ with
  | some xs=>if xs.length≤BIG then ZgQ S xs (fun x θ=>elt (ZeH src ρ x) θ) xs [] θ else .bad
  | none=>.bad
open Classical in
theorem Zms {fi:IM} {src:List Nat} {elt:EM} (σ:St) (H:Hp) (Q:VK) (h:tM X (Zdi fi src elt) σ H Q):tLc (tMI X fi) src (tM X elt) σ H Q:=by
  obtain ⟨B,θ,ρ,F,w⟩:=h
  refine ⟨B,θ,ρ,F,(wpR.bind (Rel:=SrcRep X.K) w).mono ?_⟩
  rintro J H1 ⟨B1,θ1,S,E1,G1,rJ,w1⟩
  split at w1
  · rename_i xs e1
    split at w1
    · rename_i hz
      refine ⟨xs.length,fun i ys H'=>∃B' θ' acc,ExtE B1 B' H1 H'∧Good X.cl B' θ' H'∧RepL B' H' acc ys∧wpR X σ RepV B' H' (ZgQ S xs (fun x θ=>elt (ZeH src ρ x) θ) (xs.drop i) acc θ') Q,Zar hz,?_,?_,?_⟩
      · exact ⟨B1,θ1,[],ExtE.refl _ _,G1,rfl,w1⟩
      · rintro i ys H' hi ⟨B2,θ2,acc,E2,G2,racc,w2⟩
        rw [List.drop_eq_getElem_cons hi] at w2
        unfold ZgQ at w2
        split at w2
        · rename_i e2
          obtain ⟨g1,g2⟩:=(Zi4 G2 (rJ.ext E2.toExtS) e2).1 i xs[i] (List.getElem?_eq_getElem hi)
          refine ⟨g1,fun y H3 hy=>?_⟩
          obtain ⟨rfl,ry⟩:=g2 y H3 hy
          have F2:=(F.ext (E1.trans E2) G2).inner src ry
          refine ⟨B2,θ2,_,F2,(wpR.bind (Rel:=RepV) w2).mono ?_⟩
          rintro z H4 ⟨B4,θ4,d,E4,G4,rd,w4⟩
          exact ⟨B4,θ4,acc++[d],E2.trans E4,G4,(racc.ext E4.toExtS).app ⟨z,[],rfl,rd,rfl⟩,w4⟩
        · exact w2.elim
      · rintro ys H' ⟨B2,θ2,acc,E2,G2,racc,w2⟩
        rw [List.drop_length] at w2
        unfold ZgQ at w2
        split at w2
        · rename_i e2
          exact ⟨(Zi4 G2 (rJ.ext E2.toExtS) e2.1).2,Zfj G2 racc w2⟩
        · exact w2.elim
    · exact w1.elim
  · exact w1.elim
theorem ZvK {x:Str} {px pos:Pos} {iter elt:Expr} {scope:Scope} {N':List Str} {src:List Nat} {sc:Scope} {N:List Str} {fi:IM} {fe:EM} (S:Za3 scope sc x N N' src) (hsc:X.env.scope=sc) (hN:X.N=N) (hi:MI X (.Name x px) iter fi)
    (helt:∀(cl:List (Str×Addr)) (C:Addr) (s₀:Shared) (H₀:Hp) (fp:List Addr),ME (X.comp scope N' cl C s₀ H₀ fp) elt fe) (hcm:X.calm=true:=by rfl) (hs:∀v,foldedSetIterable iter X.env v=pure v:=by intro _; rfl) :
    ME X (.ListComp elt [⟨.Name x px,iter,[],0⟩] scope pos) (Zdi fi src fe):=
  PE.imp (Zvv (te:=tM X fe) S hsc hN hi (fun cl C s₀ H₀ fp=>helt cl C s₀ H₀ fp) hcm hs) Zms
inductive Fl where
  | nx | rt (d:D) | bk | ct
abbrev SM:=List Sl→Sto→R (Fl×List Sl)
def ZsX (Dn:Ze0) (B:Bx) (σ:St) (H:Hp):Fl→Prop
  | .nx=>Dn.nx σ H
  | .bk=>Dn.bk σ H
  | .ct=>Dn.ct σ H
  | .rt d=>∀v,RepV B H d v→Dn.rt v H
def wpS (X:Cx) (σ:St) (B:Bx) (H:Hp) (r:R (Fl×List Sl)) (Dn:Ze0):Prop:=match r with
  | .ok (fl,ρ') θ'=>∀B' H' σ',ExtS B B' H H'→Frm X.cl B' θ' ρ' σ' H'→ZsX Dn B' σ' H' fl
  | .ex c θ'=>XE X σ B H c θ'
  | .bad=>False
def tMS (X:Cx) (f:SM):TS:=fun Dn σ H=>∃B θ ρ,Frm X.cl B θ ρ σ H∧wpS X σ B H (f ρ θ) Dn
def MS (X:Cx) (st:Stmt) (f:SM):Prop:=PS X st (tMS X f)
def MSs (X:Cx) (sts:List Stmt) (f:SM):Prop:=PSs X sts (tMS X f)
theorem PS.imp {st:Stmt} {t t':TS} (h:PS X st t) (hi:∀D σ H,t' D σ H→t D σ H):PS X st t':=fun pins s σ H D I q=>h pins s σ H D I (hi D σ H q)
theorem PSs.imp {st:List Stmt} {t t':TS} (h:PSs X st t) (hi:∀D σ H,t' D σ H→t D σ H):PSs X st t':=fun pins s σ H D I q=>h pins s σ H D I (hi D σ H q)
theorem wpS.trans {σ σ':St} {B B':Bx} {H H':Hp} {r:R (Fl×List Sl)} {Dn:Ze0} (h:wpS X σ B H r Dn) (E:ExtS B B' H H'):wpS X σ' B' H' r Dn:=by
  cases r with
  | ok a θ'=>exact fun B2 H2 σ2 e g=>h B2 H2 σ2 (E.trans e) g
  | ex c θ'=>exact h
  | bad=>exact h
theorem wpS.bind {α β:Type} {Rel:Bx→Hp→α→β→Prop} {σ:St} {B:Bx} {H:Hp} {r:R α} {k:α→Sto→R (Fl×List Sl)} {Dn:Ze0} (h:wpS X σ B H (r.bind k) Dn) :
    wpR X σ Rel B H r (fun b H1=>∃B1 θ1 a,ExtE B B1 H H1∧Good X.cl B1 θ1 H1∧Rel B1 H1 a b∧wpS X σ B1 H1 (k a θ1) Dn):=by
  cases r with
  | ok a θ'=>exact fun B1 H1 b E g q=>⟨B1,θ',a,E,g,q,wpS.trans h E.toExtS⟩
  | ex c θ'=>exact h
  | bad=>exact h
theorem Zhv {σ:St} {H:Hp} {B:Bx} {θ:Sto} {ρ:List Sl} {f:EM} {k:D→Sto→R (Fl×List Sl)} {Dn:Ze0} (F:Frm X.cl B θ ρ σ H) (h:wpS X σ B H ((f ρ θ).bind k) Dn) :
    tM X f σ H (fun v H1=>∃B1 θ1 d,ExtE B B1 H H1∧Frm X.cl B1 θ1 ρ σ H1∧RepV B1 H1 d v∧wpS X σ B1 H1 (k d θ1) Dn):=
  ⟨B,θ,ρ,F,(wpS.bind (Rel:=RepV) h).mono fun v H1 ⟨B1,θ1,d,E,G,r,w⟩=>⟨B1,θ1,d,E,F.ext E G,r,w⟩⟩
theorem Zpu {σ:St} {H:Hp} {B:Bx} {θ:Sto} {ρ:List Sl} {f:TMr} {k:Bool→Sto→R (Fl×List Sl)} {Dn:Ze0} (F:Frm X.cl B θ ρ σ H) (h:wpS X σ B H ((f ρ θ).bind k) Dn) :
    tMT X f σ H (fun c H1=>∃B1 θ1,ExtE B B1 H H1∧Frm X.cl B1 θ1 ρ σ H1∧wpS X σ B1 H1 (k c θ1) Dn):=
  ⟨B,θ,ρ,F,(wpS.bind (Rel:=EqB) h).mono fun v H1 ⟨B1,θ1,d,E,G,r,w⟩=>by cases (show d=v from r); exact ⟨B1,θ1,E,F.ext E G,w⟩⟩
theorem ZdS {σ:St} {B:Bx} {H:Hp} {θ:Sto} {ρ:List Sl} {fl:Fl} {Dn:Ze0} (F:Frm X.cl B θ ρ σ H) (h:wpS X σ B H (.ok (fl,ρ) θ) Dn):ZsX Dn B σ H fl:=h B H σ (ExtS.refl B H) F
def ZK:SM:=fun ρ θ=>.ok (.nx,ρ) θ
def Zhs (r:R (Fl×List Sl)) (k:SM):R (Fl×List Sl):=r.bind fun p θ=>match p with
  | (.nx,ρ)=>k ρ θ
  | p=>.ok p θ
def Zp (f g:SM):SM:=fun ρ θ=>Zhs (f ρ θ) g
theorem Zy:MSs X [] ZK:=PSs.imp ZrA fun D σ H h=>by
  obtain ⟨B,θ,ρ,F,w⟩:=h
  exact ZdS F w
theorem wpS.seq {σ:St} {B:Bx} {H:Hp} {r:R (Fl×List Sl)} {g:SM} {Dn:Ze0} (w:wpS X σ B H (Zhs r g) Dn):wpS X σ B H r { Dn with nx:=tMS X g Dn }:=by
  cases r with
  | ex c θ'=>exact w
  | bad=>exact w
  | ok p θ'=>
    obtain ⟨fl,ρ'⟩:=p
    intro B' H' σ' E F
    cases fl with
    | nx=>exact ⟨B',θ',ρ',F,wpS.trans w E⟩
    | bk=>exact w B' H' σ' E F
    | ct=>exact w B' H' σ' E F
    | rt d=>exact w B' H' σ' E F
theorem Zf {st:Stmt} {rest:List Stmt} {f g:SM} (h1:MS X st f) (h2:MSs X rest g):MSs X (st::rest) (Zp f g):=PSs.imp (ZpG h1 h2) fun D σ H h=>by
  obtain ⟨B,θ,ρ,F,w⟩:=h
  exact ⟨B,θ,ρ,F,wpS.seq w⟩
theorem Zj {st:Stmt} {f:SM} (h1:MS X st f):MSs X [st] f:=Zrz h1
def Zr0:SM:=fun _ _=>.bad
theorem Zqd {st:Stmt}:MS X st Zr0:=fun _ _ _ _ _ _ h=>by obtain ⟨_,_,_,_,w⟩:=h; exact w.elim
def zw (f:EM):SM:=fun ρ θ=>(f ρ θ).bind fun _ θ=>.ok (.nx,ρ) θ
theorem ZT {e:Expr} {f:EM} {pos:Pos} (he:ME X e f) (hs:swapsWith e none pos.line X.env=pure false:=by rfl):MS X (.Expr e pos) (zw f):=PS.imp (ZmA he hs) fun D σ H h=>by
  obtain ⟨B,θ,ρ,F,w⟩:=h
  refine zc (Zhv F w) ?_
  rintro v H1 ⟨B1,θ1,d,E1,F1,rd,w1⟩
  exact ZdS F1 w1
def ZJ (f:EM):SM:=fun ρ θ=>(f ρ θ).bind fun d θ=>.ok (.rt d,ρ) θ
theorem Zt {e:Expr} {f:EM} {pos:Pos} (he:ME X e f):MS X (.Return (some e) pos) (ZJ f):=PS.imp (ZtG he) fun D σ H h=>by
  obtain ⟨B,θ,ρ,F,w⟩:=h
  refine zc (Zhv F w) ?_
  rintro v H1 ⟨B1,θ1,d,E1,F1,rd,w1⟩
  exact ZdS F1 w1 v rd
def ZfQ:SM:=fun ρ θ=>.ok (.rt .non,ρ) θ
theorem Zd0 {pos:Pos}:MS X (.Return none pos) ZfQ:=PS.imp ZrB fun D σ H h=>by
  obtain ⟨B,θ,ρ,F,w⟩:=h
  exact ZdS F w .non rfl
def mIf (t:TMr) (f g:SM):SM:=fun ρ θ=>(t ρ θ).bind fun k θ=>if k=true then f ρ θ else g ρ θ
theorem ZI {c:Expr} {a b:List Stmt} {t:TMr} {f g:SM} {pos:Pos} (hc:MT X c t) (ha:MSs X a f) (hb:MSs X b g):MS X (.If c a b pos) (mIf t f g):=PS.imp (Zvq hc ha hb) fun D σ H h=>by
  obtain ⟨B,θ,ρ,F,w⟩:=h
  refine Zdy (Zpu F w) ?_
  rintro k H1 ⟨B1,θ1,E1,F1,w1⟩
  cases k with
  | true=>rw [if_pos rfl] at w1 ⊢; exact ⟨B1,θ1,ρ,F1,w1⟩
  | false=>rw [if_neg Bool.false_ne_true] at w1 ⊢; exact ⟨B1,θ1,ρ,F1,w1⟩
theorem Frm.set {B:Bx} {θ:Sto} {ρ:List Sl} {σ:St} {H:Hp} (F:Frm X.cl B θ ρ σ H) (i:Nat) {d:D} {v:V} (r:RepV B H d v):Frm X.cl B θ (ρ.set i (.val d)) (σ.set i (some v)) H:=by
  have oth:∀(j:Nat) (s:Sl),(ρ.set i (Sl.val d))[j]?=some s→(j=i∧s=.val d∧j < σ.length)∨(j≠i∧ρ[j]?=some s):=fun j s e=>by
    by_cases q:j=i
    · subst q
      have hl:j < ρ.length:=by
        have:=(List.getElem?_eq_some_iff.mp e).1
        simpa using this
      rw [List.getElem?_set_self hl] at e
      cases e
      exact .inl ⟨rfl,rfl,by rw [←F.len]; exact hl⟩
    · rw [List.getElem?_set_ne (Ne.symm q)] at e
      exact .inr ⟨q,e⟩
  refine ⟨F.good,by simp [F.len],fun j e h=>?_,fun j xs h=>?_,fun j k xs ys a hne h1 h2 h3=>?_⟩
  · rcases oth j _ h with ⟨rfl,z,hl⟩ | ⟨q,z⟩
    · cases z; exact ⟨v,by rw [List.getElem?_set_self hl],r⟩
    · rw [List.getElem?_set_ne (Ne.symm q)]; exact F.val j e z
  · rcases oth j _ h with ⟨rfl,z,hl⟩ | ⟨q,z⟩
    · cases z
    · rw [List.getElem?_set_ne (Ne.symm q)]; exact F.own j xs z
  · rcases oth j _ h1 with ⟨_,z,_⟩ | ⟨q1,z1⟩
    · cases z
    · rcases oth k _ h2 with ⟨_,z,_⟩ | ⟨q2,z2⟩
      · cases z
      · rw [List.getElem?_set_ne (Ne.symm q1)] at h3
        rw [List.getElem?_set_ne (Ne.symm q2)]
        exact F.ne j k xs ys a hne z1 z2 h3
def ZS (i:Nat) (f:EM):SM:=fun ρ θ=>(f ρ θ).bind fun d θ=>.ok (.nx,ρ.set i (.val d)) θ
theorem ZH (i:Nat) {x:Str} {e:Expr} {f:EM} {pos pos':Pos} (hN:X.N.Nodup) (he:ME X e f) (hi:X.N[i]?=some x:=by rfl) (hx:Loc X.env.scope x:=by first | exact Or.inl rfl | exact Or.inr rfl)
    (hs:swapsWith e (some (.Name x pos')) pos.line X.env=pure false:=by rfl) (hf:X.fn x=true∨X.env.scope.names.lookup x=some .local:=by first | exact .inl rfl | exact .inr rfl):MS X (.Assign [.Name x pos'] e pos) (ZS i f):=
  PS.imp (ZpI hN hi hx he hs hf) fun D σ H h=>by
  obtain ⟨B,θ,ρ,F,w⟩:=h
  refine zc (Zhv F w) ?_
  rintro v H1 ⟨B1,θ1,d,E1,F1,rd,w1⟩
  exact w1 B1 H1 _ (ExtS.refl _ _) (F1.set i rd)
theorem ZhG (i:Nat) {x y:Str} {px py pos spos:Pos} {iter elt:Expr} {scope:Scope} {N':List Str} {src:List Nat} {sc:Scope} {N:List Str} {fi:IM} {fe:EM} (hnd:X.N.Nodup) (S:Za3 scope sc x N N' src) (hsc:X.env.scope=sc) (hN:X.N=N) (hi:MI X (.Name x px) iter fi)
    (helt:∀(cl:List (Str×Addr)) (C:Addr) (s₀:Shared) (H₀:Hp) (fp:List Addr),ME (X.comp scope N' cl C s₀ H₀ fp) elt fe) (hi':X.N[i]?=some y:=by rfl)
    (hsw:swapsWith (.ListComp elt [⟨.Name x px,iter,[],0⟩] scope pos) (some (.Name y py)) spos.line X.env=pure true:=by rfl)
    (hy:X.env.scope.names.lookup y=some .local:=by rfl) (hcm:X.calm=true:=by rfl) (hs:∀v,foldedSetIterable iter X.env v=pure v:=by intro _; rfl) :
    MS X (.Assign [.Name y py] (.ListComp elt [⟨.Name x px,iter,[],0⟩] scope pos) spos) (ZS i (Zdi fi src fe)):=
  PS.imp (Zvp (te:=tM X fe) hnd hi' S hsc hN hi (fun cl C s₀ H₀ fp=>helt cl C s₀ H₀ fp) hsw hy hcm hs) fun D σ H h=>by
  obtain ⟨B,θ,ρ,F,w⟩:=h
  refine Zms σ H _ (zc (Zhv F w) ?_)
  rintro v H1 ⟨B1,θ1,d,E1,F1,rd,w1⟩
  exact w1 B1 H1 _ (ExtS.refl _ _) (F1.set i rd)
end
end
end L2.MM
set_option Elab.async false
set_option linter.all false
set_option maxRecDepth 100000
set_option maxHeartbeats 4000000
namespace L2.MM
open PySem PySem.Spec PyProof.Rows PySem.SeqAt
noncomputable section
variable {X:Cx}
def Zfe (k:SM):Fl×List Sl→Sto→R (Fl×List Sl)
  | (.nx,ρ),θ=>k ρ θ
  | (.ct,ρ),θ=>k ρ θ
  | (.bk,ρ),θ=>.ok (.nx,ρ) θ
  | (.rt d,ρ),θ=>.ok (.rt d,ρ) θ
theorem wpS.loop {σ:St} {B:Bx} {H:Hp} {r:R (Fl×List Sl)} {k:SM} {Dn:Ze0} (w:wpS X σ B H (r.bind (Zfe k)) Dn) :
    wpS X σ B H r { Dn with nx:=fun σ' H'=>∃B' θ' ρ',ExtS B B' H H'∧Frm X.cl B' θ' ρ' σ' H'∧wpS X σ' B' H' (k ρ' θ') Dn,ct:=fun σ' H'=>∃B' θ' ρ',ExtS B B' H H'∧Frm X.cl B' θ' ρ' σ' H'∧wpS X σ' B' H' (k ρ' θ') Dn,bk:=Dn.nx }:=by
  cases r with
  | ex c θ'=>exact w
  | bad=>exact w
  | ok p θ'=>
    obtain ⟨fl,ρ'⟩:=p
    intro B' H' σ' E F
    cases fl with
    | nx=>exact ⟨B',θ',ρ',E,F,wpS.trans w E⟩
    | ct=>exact ⟨B',θ',ρ',E,F,wpS.trans w E⟩
    | bk=>exact w B' H' σ' E F
    | rt d=>exact w B' H' σ' E F
theorem wpS.mono {σ:St} {B:Bx} {H:Hp} {r:R (Fl×List Sl)} {D D':Ze0} (w:wpS X σ B H r D) (h1:∀σ H,D.nx σ H→D'.nx σ H) (h2:∀v H,D.rt v H→D'.rt v H) (h3:∀σ H,D.bk σ H→D'.bk σ H) (h4:∀σ H,D.ct σ H→D'.ct σ H):wpS X σ B H r D':=by
  cases r with
  | ex c θ'=>exact w
  | bad=>exact w
  | ok p θ'=>
    obtain ⟨fl,ρ'⟩:=p
    intro B' H' σ' E F
    have:=w B' H' σ' E F
    cases fl with
    | nx=>exact h1 _ _ this
    | ct=>exact h4 _ _ this
    | bk=>exact h3 _ _ this
    | rt d=>exact fun v r=>h2 _ _ (this v r)
abbrev TgM:=D→List Sl→Option (List Sl)
def tMG (X:Cx) (g:TgM):TG:=fun v σ H Q=>∃B θ ρ d ρ',Frm X.cl B θ ρ σ H∧RepV B H d v∧g d ρ=some ρ'∧∀σ',Frm X.cl B θ ρ' σ' H→Q σ' H
def MG (X:Cx) (tg:Expr) (g:TgM):Prop:=PG X tg (tMG X g)
theorem PG.imp {tg:Expr} {t t':TG} (h:PG X tg t) (hi:∀v σ H Q,t' v σ H Q→t v σ H Q):PG X tg t':=fun pins s σ H v u Q I r q=>h pins s σ H v u Q I r (hi v σ H Q q)
def gNm (i:Nat):TgM:=fun d ρ=>some (ρ.set i (.val d))
theorem Zhe (i:Nat) {x:Str} {pos:Pos} (hN:X.N.Nodup) (hi:X.N[i]?=some x:=by rfl) (hx:Loc X.env.scope x:=by first | exact Or.inl rfl | exact Or.inr rfl) (hf:X.fn x=true∨X.env.scope.names.lookup x=some .local:=by first | exact .inl rfl | exact .inr rfl):MG X (.Name x pos) (gNm i):=
  PG.imp (ZfE hN hi hx hf) fun v σ H Q h=>by
  obtain ⟨B,θ,ρ,d,ρ',F,r,e,q⟩:=h
  cases e
  exact q _ (F.set i r)
open Classical in
def ZdI (S:Src) (all:List D) (tg:TgM) (body:SM):List D→SM
  | []=>fun ρ θ=>if S.items θ=some all then .ok (.nx,ρ) θ else .bad
  | x::r=>fun ρ θ=>if S.items θ=some all then (match tg x ρ with
    | none=>.bad
    | some ρ1=>(body ρ1 θ).bind (Zfe (ZdI S all tg body r))) else .bad
def Zgk (fi:IM) (tg:TgM) (body:SM):SM:=fun ρ θ=>(fi ρ θ).bind fun S θ=>match S.items θ with
  | some xs=>ZdI S xs tg body xs ρ θ
  | none=>.bad
open Classical in
theorem Zjd {tg iter:Expr} {body:List Stmt} {fi:IM} {g:TgM} {fb:SM} {pos:Pos} (hp:PassesOwn (model X.prog X.w) X.A X.env X.xe) (hi:MI X tg iter fi) (hg:MG X tg g) (hb:MSs X body fb) (hc:X.calm=true:=by rfl)
    (hs:∀x,foldedSetIterable iter X.env x=pure x:=by intro _; rfl):MS X (.For tg iter body [] pos) (Zgk fi g fb):=
  PS.imp (ZpJ hp hc hi hg hb hs) fun Dn σ H h=>by
  obtain ⟨B,θ,ρ,F,w⟩:=h
  refine ⟨B,θ,ρ,F,(wpS.bind (Rel:=SrcRep X.K) w).mono ?_⟩
  rintro J H1 ⟨B1,θ1,S,E1,G1,rJ,w1⟩
  split at w1
  · rename_i xs e1
    refine ⟨fun i m σ H=>∃B θ ρ,Frm X.cl B θ ρ σ H∧SrcRep X.K B H S J∧m=xs.length-i∧i≤xs.length∧wpS X σ B H (ZdI S xs g fb (xs.drop i) ρ θ) Dn,⟨xs.length,B1,θ1,ρ,F.ext E1 G1,rJ,rfl,Nat.zero_le _,w1⟩,?_⟩
    rintro i m σ2 H2 ⟨B2,θ2,ρ2,F2,rJ2,rfl,hi2,w2⟩
    by_cases hlt:i<xs.length
    · rw [List.drop_eq_getElem_cons hlt] at w2
      unfold ZdI at w2
      split at w2
      · rename_i e2
        obtain ⟨g1,g2⟩:=(Zi4 F2.good rJ2 e2).1 i xs[i] (List.getElem?_eq_getElem hlt)
        split at w2
        · exact w2.elim
        · rename_i ρ3 e3
          refine .inr ⟨g1,fun σ' H'=>∃B' θ' ρ',ExtS B2 B' H2 H'∧Frm X.cl B' θ' ρ' σ' H'∧wpS X σ' B' H' (ZdI S xs g fb (xs.drop (i+1)) ρ' θ') Dn,?_,fun x H' hy=>?_⟩
          · rintro σ' H' ⟨B',θ',ρ',E',F',w'⟩
            exact ⟨xs.length-(i+1),by omega,B',θ',ρ',F',rJ2.ext E',rfl,hlt,w'⟩
          · obtain ⟨rfl,rx⟩:=g2 x H' hy
            refine ⟨B2,θ2,ρ2,xs[i],ρ3,F2,rx,e3,fun σ' F'=>⟨B2,θ2,ρ3,F',?_⟩⟩
            have w3:=wpS.loop w2
            exact wpS.trans w3 (ExtS.refl _ _)
      · exact w2.elim
    · have e:i=xs.length:=by omega
      subst e
      rw [List.drop_length] at w2
      unfold ZdI at w2
      split at w2
      · rename_i e2
        exact .inl ⟨(Zi4 F2.good rJ2 e2).2,ZdS F2 w2⟩
      · exact w2.elim
  · exact w1.elim
def Zcy (t:TMr) (body:SM):Nat→SM
  | 0=>Zr0
  | n+1=>fun ρ θ=>(t ρ θ).bind fun k θ=>if k=true then (body ρ θ).bind (Zfe (Zcy t body n)) else .ok (.nx,ρ) θ
theorem ZhF (n:Nat) {c:Expr} {body:List Stmt} {t:TMr} {fb:SM} {pos:Pos} (hp:PassesOwn (model X.prog X.w) X.A X.env X.xe) (hc:MT X c t) (hb:MSs X body fb):MS X (.While c body [] pos) (Zcy t fb n):=
  PS.imp (ZpH hp hc hb) fun Dn σ H h=>by
  obtain ⟨B,θ,ρ,F,w⟩:=h
  refine ⟨fun m σ H=>∃B θ ρ,Frm X.cl B θ ρ σ H∧wpS X σ B H (Zcy t fb m ρ θ) Dn,⟨n,B,θ,ρ,F,w⟩,?_⟩
  rintro m σ2 H2 ⟨B2,θ2,ρ2,F2,w2⟩
  cases m with
  | zero=>exact w2.elim
  | succ m=>
    refine Zdy (Zpu F2 w2) ?_
    rintro k H3 ⟨B3,θ3,E3,F3,w3⟩
    cases k with
    | true=>
      rw [if_pos rfl] at w3 ⊢
      refine ⟨_,?_,⟨B3,θ3,ρ2,F3,wpS.loop w3⟩⟩
      rintro σ' H' ⟨B',θ',ρ',E',F',w'⟩
      exact ⟨m,Nat.lt_succ_self _,B',θ',ρ',F',w'⟩
    | false=>
      rw [if_neg Bool.false_ne_true] at w3 ⊢
      exact ZdS F3 w3
theorem Frm.setOwn {cl:Mo} {B:Bx} {θ:Sto} {ρ:List Sl} {σ:St} {H:Hp} (F:Frm cl B θ ρ σ H) (i:Nat) {p:Addr} (hp:H p=none) {xs:List D} {vs:List V} (r:RepL B H xs vs) :
    ExtS B { B with os:=p::B.os } H (upd H p (.lst vs))∧Frm cl { B with os:=p::B.os } θ (ρ.set i (.own xs)) (σ.set i (some (.ref p))) (upd H p (.lst vs)):=by
  have E0:=ZcN F.good hp (.lst vs)
  have G0:=ZeI F.good hp (.lst vs)
  have ok:=F.good.okNone hp
  have E:ExtS B { B with os:=p::B.os } H (upd H p (.lst vs)):=⟨E0.n,E0.m,E0.fr,E0.keep,E0.sm,fun a h=>by
    rcases List.mem_cons.mp h with rfl | h
    · exact .inr hp
    · exact .inl h,rfl,rfl⟩
  refine ⟨E,?_⟩
  have E1:ExtS B { B with os:=p::B.os } H (upd H p (.lst vs)):=E
  have G:Good cl { B with os:=p::B.os } θ (upd H p (.lst vs)):=⟨G0.len,G0.inj,fun j c e=>(F.good.cel j c e).ext E fun u q=>by rw [ZP (zh q hp)]; exact q,fun j hj=>⟨(G0.cF j hj).1,fun z=>by
      rcases List.mem_cons.mp z with z | z
      · exact ok.1 j hj z
      · exact (G0.cF j hj).2 z⟩,G0.Fs,fun a z=>by
      rcases List.mem_cons.mp z with rfl | z
      · rw [zE]; simp
      · exact G0.oS a z,fun a z=>by
      rcases List.mem_cons.mp z with rfl | z
      · exact ok.2.1
      · exact G0.oF a z,G0.kc⟩
  have oth:∀(j:Nat) (s:Sl),(ρ.set i (Sl.own xs))[j]?=some s→(j=i∧s=.own xs∧j < σ.length)∨(j≠i∧ρ[j]?=some s):=fun j s e=>by
    by_cases q:j=i
    · subst q
      have hl:j < ρ.length:=by
        have:=(List.getElem?_eq_some_iff.mp e).1
        simpa using this
      rw [List.getElem?_set_self hl] at e
      cases e
      exact .inl ⟨rfl,rfl,by rw [←F.len]; exact hl⟩
    · rw [List.getElem?_set_ne (Ne.symm q)] at e
      exact .inr ⟨q,e⟩
  have old:∀j ys,ρ[j]?=some (Sl.own ys)→∀a,σ[j]?=some (some (V.ref a))→a≠p:=fun j ys h a e z=>by
    obtain ⟨a',us,q1,q2,q3,q4⟩:=F.own j ys h
    rw [e] at q1
    cases q1
    rw [z,hp] at q3
    cases q3
  refine ⟨G,by simp [F.len],fun j d h=>?_,fun j ys h=>?_,fun j k ys zs a hne h1 h2 h3=>?_⟩
  · rcases oth j _ h with ⟨_,z,_⟩ | ⟨q,z⟩
    · cases z
    · rw [List.getElem?_set_ne (Ne.symm q)]
      obtain ⟨v,q1,q2⟩:=F.val j d z
      exact ⟨v,q1,q2.ext E⟩
  · rcases oth j _ h with ⟨rfl,z,hl⟩ | ⟨q,z⟩
    · cases z
      exact ⟨p,vs,by rw [List.getElem?_set_self hl],List.mem_cons_self,zE,r.ext E⟩
    · rw [List.getElem?_set_ne (Ne.symm q)]
      obtain ⟨a,us,q1,q2,q3,q4⟩:=F.own j ys z
      exact ⟨a,us,q1,List.mem_cons_of_mem _ q2,by rw [ZP (zh q3 hp)]; exact q3,q4.ext E⟩
  · rcases oth j _ h1 with ⟨rfl,z1,hl⟩ | ⟨q1,z1⟩
    · rcases oth k _ h2 with ⟨rfl,z2,_⟩ | ⟨q2,z2⟩
      · exact absurd rfl hne
      · rw [List.getElem?_set_self hl] at h3
        cases h3
        rw [List.getElem?_set_ne (Ne.symm q2)]
        exact fun z=>old k zs z2 _ z rfl
    · rw [List.getElem?_set_ne (Ne.symm q1)] at h3
      rcases oth k _ h2 with ⟨rfl,z2,hl⟩ | ⟨q2,z2⟩
      · rw [List.getElem?_set_self hl]
        intro z
        cases z
        exact old j ys z1 _ h3 rfl
      · rw [List.getElem?_set_ne (Ne.symm q2)]
        exact F.ne j k ys zs a hne z1 z2 h3
def Zhf (i:Nat) (f:AM):SM:=fun ρ θ=>(f ρ θ).bind fun xs θ=>if xs.length≤BIG then .ok (.nx,ρ.set i (.own xs)) θ else .bad
theorem Zpv {σ:St} {H:Hp} {B:Bx} {θ:Sto} {ρ:List Sl} {f:AM} {k:List D→Sto→R (Fl×List Sl)} {Dn:Ze0} (F:Frm X.cl B θ ρ σ H) (h:wpS X σ B H ((f ρ θ).bind k) Dn) :
    tMA X f σ H (fun v H1=>∃B1 θ1 d,ExtE B B1 H H1∧Frm X.cl B1 θ1 ρ σ H1∧RepL B1 H1 d v∧wpS X σ B1 H1 (k d θ1) Dn):=
  ⟨B,θ,ρ,F,(wpS.bind (Rel:=RepL) h).mono fun v H1 ⟨B1,θ1,d,E,G,r,w⟩=>⟨B1,θ1,d,E,F.ext E G,r,w⟩⟩
theorem ZiC (i:Nat) {x:Str} {es:List Expr} {f:AM} {pos pos' lpos:Pos} (hN:X.N.Nodup) (he:MA X es f) (hi:X.N[i]?=some x:=by rfl) (hx:Loc X.env.scope x:=by first | exact Or.inl rfl | exact Or.inr rfl)
    (hs:swapsWith (.List es lpos) (some (.Name x pos')) pos.line X.env=pure false:=by rfl) (hf:X.fn x=true∨X.env.scope.names.lookup x=some .local:=by first | exact .inl rfl | exact .inr rfl):MS X (.Assign [.Name x pos'] (.List es lpos) pos) (Zhf i f):=
  PS.imp (ZpI hN hi hx (ZpQ he) hs hf) fun D σ H h=>by
  obtain ⟨B,θ,ρ,F,w⟩:=h
  refine ZbP (Zpv F w) ?_
  rintro vs H1 ⟨B1,θ1,xs,E1,F1,rd,w1⟩
  split at w1
  · rename_i hz
    refine ⟨by rw [rd.len]; exact Zar hz,fun p hp=>?_⟩
    obtain ⟨E2,F2⟩:=F1.setOwn i hp rd
    exact w1 _ _ _ E2 F2
  · exact w1.elim
theorem Frm.updOwn {cl:Mo} {B:Bx} {θ:Sto} {ρ:List Sl} {σ:St} {H:Hp} (F:Frm cl B θ ρ σ H) {i:Nat} {xs ys:List D} {us:List V} {a:Addr} (h:ρ[i]?=some (Sl.own xs)) (ha:σ[i]?=some (some (.ref a))) (r:RepL B H ys us) :
    ExtS B B H (upd H a (.lst us))∧Frm cl B θ (ρ.set i (.own ys)) σ (upd H a (.lst us)):=by
  obtain ⟨a',vs,q1,q2,q3,q4⟩:=F.own i xs h
  rw [ha] at q1
  cases q1
  have hc:∀j,j<B.n→B.m j≠a:=fun j hj z=>(F.good.cF j hj).2 (by rw [z]; exact q2)
  have E:ExtS B B H (upd H a (.lst us)):=⟨Nat.le_refl _,fun _ _=>rfl,fun i h h'=>absurd h' (Nat.not_lt.mpr h),fun b o e _ hb=>by rw [ZP (fun z=>hb (by rw [z]; exact q2))]; exact e,fun b e=>by
    by_cases q:b=a
    · rw [q,zE]; simp
    · rw [ZP q]; exact e,fun _ h=>.inl h,rfl,rfl⟩
  have hl:i < ρ.length:=(List.getElem?_eq_some_iff.mp h).1
  have oth:∀(j:Nat) (s:Sl),(ρ.set i (Sl.own ys))[j]?=some s→(j=i∧s=.own ys)∨(j≠i∧ρ[j]?=some s):=fun j s e=>by
    by_cases q:j=i
    · subst q
      rw [List.getElem?_set_self hl] at e
      cases e
      exact .inl ⟨rfl,rfl⟩
    · rw [List.getElem?_set_ne (Ne.symm q)] at e
      exact .inr ⟨q,e⟩
  refine ⟨E,⟨⟨F.good.len,F.good.inj,fun j c e=>(F.good.cel j c e).ext E fun u q=>by
      have hj:j<B.n:=by rw [←F.good.len]; exact (List.getElem?_eq_some_iff.mp e).1
      rw [ZP (hc j hj)]; exact q,F.good.cF,fun b z=>E.sm b (F.good.Fs b z),fun b z=>E.sm b (F.good.oS b z),F.good.oF,F.good.kc⟩,by simp [F.len],fun j d e=>?_,fun j zs e=>?_,fun j k zs ws b hne h1 h2 h3=>?_⟩⟩
  · rcases oth j _ e with ⟨_,z⟩ | ⟨_,z⟩
    · cases z
    · obtain ⟨v,p1,p2⟩:=F.val j d z
      exact ⟨v,p1,p2.ext E⟩
  · rcases oth j _ e with ⟨rfl,z⟩ | ⟨q,z⟩
    · cases z
      exact ⟨a,us,ha,q2,zE,r.ext E⟩
    · obtain ⟨b,ws,p1,p2,p3,p4⟩:=F.own j zs z
      refine ⟨b,ws,p1,p2,?_,p4.ext E⟩
      rw [ZP (fun z'=>F.ne i j xs zs a (Ne.symm q) h z ha (by rw [←z']; exact p1))]
      exact p3
  · have o1:∃zs',ρ[j]?=some (Sl.own zs'):=by
      rcases oth j _ h1 with ⟨rfl,_⟩ | ⟨_,z⟩
      · exact ⟨xs,h⟩
      · exact ⟨_,z⟩
    have o2:∃ws',ρ[k]?=some (Sl.own ws'):=by
      rcases oth k _ h2 with ⟨rfl,_⟩ | ⟨_,z⟩
      · exact ⟨xs,h⟩
      · exact ⟨_,z⟩
    obtain ⟨zs',o1⟩:=o1
    obtain ⟨ws',o2⟩:=o2
    exact F.ne j k zs' ws' b hne o1 o2 h3
def Zd5 (i:Nat) (f:EM):SM:=fun ρ θ=>(f ρ θ).bind fun d θ=>match ρ[i]? with
  | some (Sl.own xs)=>if xs.length<BIG then .ok (.nx,ρ.set i (.own (xs++[d]))) θ else .bad
  | _=>.bad
theorem ZiD (i:Nat) {x:Str} {e:Expr} {f:EM} {p apos pos pos':Pos} (he:ME X e f) (hN:X.N[i]?=some x:=by rfl) (hv:Vis X.env.scope x:=by first | exact Or.inl rfl | exact Or.inr (Or.inl rfl) | exact Or.inr (Or.inr rfl))
    (hd:(x == ("__debug__":Str))=false:=by decide) (hcd:(x == ("__classdict__":Str))=false:=by decide)
    (hpe:∀{to:TE},PE X (.Name x p) to→PE X (.Call (.Attribute (.Name x p) "append" apos) [e] [] pos) (tBM X.K "list" Zmx to (ZsG (tM X f) Ztq)))
    (hs:swapsWith (.Call (.Attribute (.Name x p) "append" apos) [e] [] pos) none pos'.line X.env=pure false:=by rfl):MS X (.Expr (.Call (.Attribute (.Name x p) "append" apos) [e] [] pos) pos') (Zd5 i f):=
  PS.imp (ZmA (hpe (ZpN hN hv hd hcd)) hs) fun D σ H h=>by
  obtain ⟨B,θ,ρ,F,w⟩:=h
  have own:∃xs,ρ[i]?=some (Sl.own xs):=by
    unfold Zd5 at w
    cases q:f ρ θ with
    | bad=>rw [q] at w; exact w.elim
    | ex c θ'=>rw [q] at w; exact False.elim w
    | ok d θ'=>
      rw [q] at w
      simp only [R.bind_ok] at w
      split at w
      · rename_i xs e; exact ⟨xs,e⟩
      · exact w.elim
  obtain ⟨xs,hx⟩:=own
  obtain ⟨a,vs,q1,q2,q3,q4⟩:=F.own i xs hx
  refine ⟨.ref a,q1,.inl ⟨rfl,vs,SqL.of q3⟩,?_⟩
  refine zc (Zhv F w) ?_
  rintro y H1 ⟨B1,θ1,d,E1,F1,rd,w1⟩
  rw [hx] at w1
  simp only at w1
  split at w1
  · rename_i hz
    obtain ⟨a',us,p1,p2,p3,p4⟩:=F1.own i xs hx
    rw [q1] at p1
    cases p1
    refine ⟨a,us,y,rfl,rfl,p3,by rw [p4.len]; exact Nat.lt_of_lt_of_le hz (Zar (Nat.le_refl _)),?_⟩
    obtain ⟨E2,F2⟩:=F1.updOwn hx q1 (p4.app (show RepL B1 H1 [d] [y] from ⟨y,[],rfl,rd,rfl⟩))
    exact w1 _ _ _ E2 F2
  · exact w1.elim
def Zd3 (i:Nat) (f:SM):SM:=fun ρ θ=>match ρ[i]? with
  | some (Sl.own xs)=>f (ρ.set i (.val (.lst xs))) θ
  | _=>f ρ θ
theorem ZlO {i:Nat} {f:SM} {D:Ze0} {σ:St} {H:Hp} (h:tMS X (Zd3 i f) D σ H):tMS X f D σ H:=by
  obtain ⟨B,θ,ρ,F,w⟩:=h
  unfold Zd3 at w
  split at w
  · rename_i xs hx
    obtain ⟨a,vs,q1,q2,q3,q4⟩:=F.own i xs hx
    let B':Bx:={ B with os:=B.os.filter fun b=>decide (b≠a) }
    have sub:∀b,b∈B'.os→b∈B.os∧b≠a:=fun b hb=>by
      have:=List.mem_filter.mp hb
      exact ⟨this.1,of_decide_eq_true this.2⟩
    have E:ExtS B B' H H:=⟨Nat.le_refl _,fun _ _=>rfl,fun i h h'=>absurd h' (Nat.not_lt.mpr h),fun _ _ e _ _=>e,fun _ e=>e,fun b hb=>.inl (sub b hb).1,rfl,rfl⟩
    have hc:∀j,j<B.n→B.m j≠a:=fun j hj z=>(F.good.cF j hj).2 (by rw [z]; exact q2)
    have G:Good X.cl B' θ H:=⟨F.good.len,F.good.inj,fun j c e=>(F.good.cel j c e).ext E fun _ q=>q,fun j hj=>⟨(F.good.cF j hj).1,fun z=>(F.good.cF j hj).2 (sub _ z).1⟩,F.good.Fs,fun b z=>F.good.oS b (sub b z).1,fun b z=>F.good.oF b (sub b z).1,F.good.kc⟩
    have rv:RepV B' H (.lst xs) (.ref a):=⟨a,vs,rfl,q3,⟨hc,F.good.oF a q2,fun z=>(sub a z).2 rfl⟩,q4.ext E⟩
    have hl:i < ρ.length:=(List.getElem?_eq_some_iff.mp hx).1
    have oth:∀(j:Nat) (s:Sl),(ρ.set i (Sl.val (.lst xs)))[j]?=some s→(j=i∧s=.val (.lst xs))∨(j≠i∧ρ[j]?=some s):=fun j s e=>by
      by_cases q:j=i
      · subst q
        rw [List.getElem?_set_self hl] at e
        cases e
        exact .inl ⟨rfl,rfl⟩
      · rw [List.getElem?_set_ne (Ne.symm q)] at e
        exact .inr ⟨q,e⟩
    refine ⟨B',θ,_,⟨G,by simp [F.len],fun j d e=>?_,fun j ys e=>?_,fun j k ys zs b hne h1 h2 h3=>?_⟩,wpS.trans w E⟩
    · rcases oth j _ e with ⟨rfl,z⟩ | ⟨_,z⟩
      · cases z; exact ⟨_,q1,rv⟩
      · obtain ⟨v,p1,p2⟩:=F.val j d z
        exact ⟨v,p1,p2.ext E⟩
    · rcases oth j _ e with ⟨_,z⟩ | ⟨q,z⟩
      · cases z
      · obtain ⟨b,ws,p1,p2,p3,p4⟩:=F.own j ys z
        refine ⟨b,ws,p1,List.mem_filter.mpr ⟨p2,decide_eq_true fun z'=>?_⟩,p3,p4.ext E⟩
        subst z'
        exact F.ne i j xs ys b (Ne.symm q) hx z q1 p1
    · rcases oth j _ h1 with ⟨_,z⟩ | ⟨_,z1⟩
      · cases z
      · rcases oth k _ h2 with ⟨_,z⟩ | ⟨_,z2⟩
        · cases z
        · exact F.ne j k ys zs b hne z1 z2 h3
  · exact ⟨B,θ,ρ,F,w⟩
theorem Zgj (i:Nat) {st:Stmt} {f:SM} (h:MS X st f):MS X st (Zd3 i f):=PS.imp h fun _ _ _ q=>ZlO q
def ZdT (n:Nat) (ds:List D):List Sl:=ds.map Sl.val++List.replicate (n-ds.length) Sl.no
def ZM (np nn:Nat) (fb:SM):GM:=fun ds θ=>if ds.length=np then (fb (ZdT nn ds) θ).bind fun p θ=>match p.1 with
  | .nx=>.ok .non θ
  | .rt d=>.ok d θ
  | _=>.bad
  else .bad
def spM (X:Mo) (f:GM):Sp:=fun vs H Q E=>∃B θ ds,B.os=[]∧Good X B θ H∧RepL B H ds vs∧(match f ds θ with
  | .ok d θ'=>∀B' H' v,ExtE B B' H H'→Good X B' θ' H'→RepV B' H' d v→Q v H'
  | .ex c θ'=>False
  | .bad=>False)
def MDef (P:Program) (w:World) (K:PySem.W.Frag) (mg:Str→Option Value) (base:Heap) (k:Nat) (x:Str) (f:GM):Prop:=∃ps,Def P w K mg base k x ps (spM ⟨z0 mg,K⟩ f)
theorem MDef.mono {P:Program} {w:World} {K:PySem.W.Frag} {mg:Str→Option Value} {base:Heap} {x:Str} {f:GM} {j k:Nat} (D:MDef P w K mg base j x f) (h:j≤k):MDef P w K mg base k x f:=let ⟨ps,q⟩:=D; ⟨ps,q.mono h⟩
theorem Znk {cl:Mo} {B:Bx} {θ:Sto} {H:Hp} {ds:List D} {vs:List V} {N:List Str} {nn:Nat} (G:Good cl B θ H) (r:RepL B H ds vs) (hn:N.length=nn):Frm cl B θ (ZdT nn ds) (Zdz N vs) H:=by
  subst hn
  have hl:=r.len
  have key:∀(i:Nat) (s:Sl),(ZdT N.length ds)[i]?=some s→s=.no∨∃d,s=.val d∧∃v,(Zdz N vs)[i]?=some (some v)∧RepV B H d v:=fun i s e=>by
    unfold ZdT at e
    by_cases q:i<ds.length
    · rw [List.getElem?_append_left (by simpa using q),List.getElem?_map,List.getElem?_eq_getElem q] at e
      cases e
      obtain ⟨v,h1,h2⟩:=r.get (List.getElem?_eq_getElem q)
      refine .inr ⟨_,rfl,v,?_,h2⟩
      unfold Zdz
      rw [List.getElem?_append_left (by simpa [hl] using q),List.getElem?_map,h1]
      rfl
    · rw [List.getElem?_append_right (by simpa using q)] at e
      exact .inl (List.eq_of_mem_replicate (List.mem_of_getElem? e))
  refine ⟨G,by simp [ZdT,Zdz,hl],fun i d e=>?_,fun i xs e=>?_,fun i j xs ys a _ e _=>?_⟩
  · rcases key i _ e with z | ⟨d',z,v',h1,h2⟩
    · cases z
    · cases z; exact ⟨v',h1,h2⟩
  · rcases key i _ e with z | ⟨d',z,_⟩<;>cases z
  · rcases key i _ e with z | ⟨d',z,_⟩<;>cases z
theorem mfn {P:Program} {w:World} {K:PySem.W.Frag} {mg:Str→Option Value} {base:Heap} {x qual:Str} {st:Stmt} {N ps:List Str} {k:Nat} {fb:SM} {f:Addr} {fd:FuncData} (F:Fun K x qual st f fd) (S:Zo N ps (Zg st)) (np nn:Nat) (hp:ps.length=np) (hn:N.length=nn)
    (hbody:∀(cdv:Value) (A:Around) (outer:List Env) (s:Shared) (H:Hp) (E:XK),Room k (A.deeper (envOfC qual (Zg st) s.heap.objs.size f cdv))→MSs (Zhc CX0 P w K mg base N qual (Zg st) f cdv A outer s H E).nox (Zn st) fb) :
    FnOk P w K mg base CX0 (k+1) f fd ps (spM ⟨z0 mg,K⟩ (ZM np nn fb)):=by
  refine F.ok S ?_ ?_
  · rintro vs H Q E ⟨B,θ,ds,_,_,r,q⟩
    unfold ZM at q
    split at q
    · rename_i h
      split at h
      · rename_i hl; rw [r.len,hl,hp]
      · cases h
    · exact q.elim
    · exact q.elim
  · intro cdv A outer s H vs Q E hr h
    obtain ⟨B,θ,ds,hos,G,r,q⟩:=h
    refine ⟨tMS (Zhc CX0 P w K mg base N qual (Zg st) f cdv A outer s H E).nox fb,hbody cdv A outer s H E hr,B,θ,ZdT nn ds,Znk G r hn,?_⟩
    unfold ZM at q
    by_cases hl:ds.length=np
    · rw [if_pos hl] at q
      cases e:fb (ZdT nn ds) θ with
      | bad=>rw [e] at q; exact q.elim
      | ex c θ'=>rw [e] at q; exact q.elim
      | ok p θ'=>
        rw [e] at q
        obtain ⟨fl,ρ'⟩:=p
        intro B' H' σ' E' F'
        have hos':∀a,a∈B.os→False:=fun a ha=>by rw [hos] at ha; cases ha
        let B2:Bx:={ B' with os:=[] }
        have E2:ExtE B B2 H H':=⟨⟨E'.n,E'.m,E'.fr,E'.keep,E'.sm,fun a ha=>(nomatch ha),E'.F,E'.ks⟩,hos.symm,fun a o ha=>(hos' a ha).elim⟩
        have E3:ExtS B' B2 H' H':=⟨Nat.le_refl _,fun _ _=>rfl,fun i h h'=>absurd h' (Nat.not_lt.mpr h),fun _ _ e _ _=>e,fun _ e=>e,fun b hb=>(nomatch hb),rfl,rfl⟩
        have G2:Good ⟨z0 mg,K⟩ B2 θ' H':=⟨F'.good.len,F'.good.inj,fun j c e=>(F'.good.cel j c e).ext E3 fun _ q=>q,fun j hj=>⟨(F'.good.cF j hj).1,fun z=>nomatch z⟩,F'.good.Fs,fun b z=>(nomatch z),fun b z=>(nomatch z),F'.good.kc⟩
        cases fl with
        | nx=>exact q B2 H' .non E2 G2 rfl
        | rt d=>exact fun v rv=>q B2 H' v E2 G2 (rv.ext E3)
        | bk=>exact q.elim
        | ct=>exact q.elim
    · rw [if_neg hl] at q
      exact q.elim
theorem ZV {P:Program} {w:World} {K:PySem.W.Frag} {mg:Str→Option Value} {base:Heap} {x:Str} {st:Stmt} {N ps:List Str} {k:Nat} {fb:SM} (D0:Def0 K mg x st ps) (S:Zo N ps (Zg st)) (np nn:Nat) (hp:ps.length=np) (hn:N.length=nn)
    (hbody:∀(f:Addr) (cdv:Value) (A:Around) (outer:List Env) (s:Shared) (H:Hp) (E:XK),Room k (A.deeper (envOfC x (Zg st) s.heap.objs.size f cdv))→MSs (Zhc CX0 P w K mg base N x (Zg st) f cdv A outer s H E).nox (Zn st) fb):MDef P w K mg base (k+1) x (ZM np nn fb):=by
  obtain ⟨f,fd,F,b,m⟩:=D0
  exact ⟨ps,f,fd,mfn F S np nn hp hn (hbody f),b,F.kp,m⟩
def Bx.inC (B:Bx):Bx:={ B with F:=fun a=>B.F a∨a∈B.os,os:=[] }
theorem inC_ok {B:Bx} {a:Addr}:B.inC.ok a↔B.ok a:=by
  constructor
  · rintro ⟨h1,h2,h3⟩
    exact ⟨h1,fun z=>h2 (.inl z),fun z=>h2 (.inr z)⟩
  · rintro ⟨h1,h2,h3⟩
    exact ⟨h1,fun z=>z.elim h2 h3,fun z=>nomatch z⟩
mutual
theorem RepV.same {B B':Bx} {H:Hp} (hn:B'.n=B.n) (hm:B'.m=B.m) (hk:B'.ks=B.ks) (ho:∀a,B.ok a→B'.ok a):∀{d:D} {v:V},RepV B H d v→RepV B' H d v
  | .non,_,h=>h
  | .bl _,_,h=>h
  | .int _,_,h=>h
  | .str _,_,h=>h
  | .ty _,_,h=>h
  | .scr _,_,h=>by
    obtain ⟨a,e,h⟩:=h
    refine ⟨a,e,?_⟩
    rcases h with ⟨o,h,k⟩ | h
    · exact .inl ⟨o,h,ho a k⟩
    · exact .inr (by rw [hk]; exact h)
  | .tup _,_,h=>by obtain ⟨a,vs,e,h,k,l⟩:=h; exact ⟨a,vs,e,h,ho a k,RepL.same hn hm hk ho l⟩
  | .lst _,_,h=>by obtain ⟨a,vs,e,h,k,l⟩:=h; exact ⟨a,vs,e,h,ho a k,RepL.same hn hm hk ho l⟩
  | .ref l,_,h=>⟨by rw [hn]; exact h.1,by rw [hm]; exact h.2⟩
theorem RepL.same {B B':Bx} {H:Hp} (hn:B'.n=B.n) (hm:B'.m=B.m) (hk:B'.ks=B.ks) (ho:∀a,B.ok a→B'.ok a):∀{ds:List D} {vs:List V},RepL B H ds vs→RepL B' H ds vs
  | [],_,h=>h
  | _::_,_,h=>by obtain ⟨v,r,e,hv,hr⟩:=h; exact ⟨v,r,e,RepV.same hn hm hk ho hv,RepL.same hn hm hk ho hr⟩
end
theorem RepKV.same {κ:Type} {B B':Bx} {H:Hp} (hn:B'.n=B.n) (hm:B'.m=B.m) (hk:B'.ks=B.ks) (ho:∀a,B.ok a→B'.ok a):∀{ks:List (κ×D)} {vs:List (κ×V)},RepKV B H ks vs→RepKV B' H ks vs
  | _,_,.nil=>.nil
  | _,_,.cons h t=>.cons ⟨h.1,RepV.same hn hm hk ho h.2⟩ (RepKV.same hn hm hk ho t)
theorem CellOk.same {cl:Mo} {B B':Bx} {H:Hp} {a:Addr} {c:Cell} (hn:B'.n=B.n) (hm:B'.m=B.m) (hk:B'.ks=B.ks) (ho:∀a,B.ok a→B'.ok a) (k:CellOk cl B H a c):CellOk cl B' H a c:=by
  cases c with
  | lst xs=>obtain ⟨vs,e,r⟩:=k; exact ⟨vs,e,r.same hn hm hk ho⟩
  | dK kvs=>obtain ⟨vs,e,r⟩:=k; exact ⟨vs,e,r.same hn hm hk ho⟩
  | dT kvs=>obtain ⟨vs,e,r⟩:=k; exact ⟨vs,e,r.same hn hm hk ho⟩
  | ins C fs=>obtain ⟨dx,vs,e,r⟩:=k; exact ⟨dx,vs,e,r.same hn hm hk ho⟩
theorem Zqu {cl:Mo} {B:Bx} {θ:Sto} {H:Hp} (G:Good cl B θ H):Good cl B.inC θ H:=
  ⟨G.len,G.inj,fun i c e=>CellOk.same (B:=B) (B':=B.inC) rfl rfl rfl (fun a=>inC_ok.mpr) (G.cel i c e),fun i hi=>⟨fun z=>z.elim (G.cF i hi).1 (G.cF i hi).2,fun z=>nomatch z⟩,fun a z=>z.elim (G.Fs a) (G.oS a),fun a z=>(nomatch z),fun a z=>(nomatch z),G.kc⟩
theorem Zvy {cl:Mo} {B B':Bx} {θ θ':Sto} {H H':Hp} (G:Good cl B θ H) (E:ExtE B.inC B' H H') (G':Good cl B' θ' H') :
    ExtE B { B' with F:=B.F,os:=B.os } H H'∧Good cl { B' with F:=B.F,os:=B.os } θ' H'∧∀d v,RepV B' H' d v→RepV { B' with F:=B.F,os:=B.os } H' d v:=by
  have hF:B'.F=fun a=>B.F a∨a∈B.os:=E.F
  have ho:∀a,B'.ok a→Bx.ok { B' with F:=B.F,os:=B.os } a:=fun a ⟨h1,h2,h3⟩=>by
    rw [hF] at h2
    exact ⟨h1,fun z=>h2 (.inl z),fun z=>h2 (.inr z)⟩
  have keep:∀a o,H a=some o→(∀i,i<B.n→B.m i≠a)→H' a=some o:=fun a o h k=>E.keep a o h k (fun z=>nomatch z)
  refine ⟨⟨⟨E.n,E.m,E.fr,fun a o h k _=>keep a o h k,E.sm,fun a h=>.inl h,rfl,E.ks⟩,rfl,fun a o _ k h=>keep a o h k⟩,⟨G'.len,G'.inj,fun i c e=>CellOk.same (B:=B') (B':={ B' with F:=B.F,os:=B.os }) rfl rfl rfl ho (G'.cel i c e),fun i hi=>?_,fun a z=>E.sm a (G.Fs a z),fun a z=>E.sm a (G.oS a z),G.oF,G'.kc⟩,fun d v r=>RepV.same (B:=B') (B':={ B' with F:=B.F,os:=B.os }) rfl rfl rfl ho r⟩
  have:=(G'.cF i hi).1
  rw [hF] at this
  exact ⟨fun z=>this (.inl z),fun z=>this (.inr z)⟩
theorem Zm3 {f:GM} {σ:St} {B:Bx} {θ:Sto} {H:Hp} {ds:List D} {vs:List V} {Q:VK} {E:XK} (G:Good X.cl B θ H) (r:RepL B H ds vs) (w:wpR X σ RepV B H (f ds θ) Q):spM X.cl f vs H Q E:=by
  refine ⟨B.inC,θ,ds,rfl,Zqu G,RepL.same (B:=B) (B':=B.inC) rfl rfl rfl (fun a=>inC_ok.mpr) r,?_⟩
  cases e:f ds θ with
  | bad=>rw [e] at w; exact w
  | ex c θ'=>rw [e] at w; exact w
  | ok d θ'=>
    rw [e] at w
    intro B' H' v E' G' rv
    obtain ⟨h1,h2,h3⟩:=Zvy G E' G'
    exact w _ H' v h1 h2 (h3 d v rv)
theorem Zi {k j:Nat} {x:Str} {f:GM} {p pos:Pos} {e:Expr} {es:List Expr} {fs:AM} (D0:MDef X.prog X.w X.K X.mg X.base k x f) (hr:Room j X.A) (hj:k≤j) (ha:MA X (e::es) fs) (hg:Gl X x:=by rfl) (hdb:(x == ("__debug__":Str))=false:=by decide)
    (he:starEach (e::es) X.env=(false,eval e X.env)::starEach es X.env:=by rfl) (hpl:(backTo pos (starEach es X.env)).any (·.1)=false:=by rfl):ME X (.Call (.Name x p) (e::es) [] pos) (mCB f fs):=by
  obtain ⟨ps,D0⟩:=D0
  refine PE.imp (ZpW D0 hr hj ha hg hdb he hpl) fun σ H Q h=>?_
  obtain ⟨B,θ,ρ,F,w⟩:=h
  refine ZbP (Zhw F w) ?_
  rintro vs H1 ⟨B1,θ1,ds,E1,F1,rd,w1⟩
  rw [List.append_nil]
  exact Zm3 F1.good rd w1
end
end L2.MM
set_option Elab.async false
set_option linter.all false
set_option maxRecDepth 100000
set_option maxHeartbeats 4000000
namespace L2.MM
open PySem PySem.Spec PyProof.Rows PySem.SeqAt
noncomputable section
def Zmu (K:PySem.W.Frag):Sp:=fun vs H Q _=>∃(a:Addr) (ns:List Int),vs=[.ref a]∧Zsr H∧SqL K H a (ns.map V.int)∧ns.length≤63∧∀H',Q (.bl true) H'
theorem Zr1 {P:Program} {w:World} {K:PySem.W.Frag} {mg:Str→Option Value} {base:Heap} {k:Nat} {f:Addr} {fd:FuncData} {ps:List Str} {g:GM} (h:∀ns:List Int,ns.length≤63→∃θ',g [.scr ns] []=.ok (.bl true) θ')
    (F:FnOk P w K mg base CX0 k f fd ps (spM ⟨z0 mg,K⟩ g)):FnOk P w K mg base CX0 k f fd ps (Zmu K):=by
  refine F.imp ?_
  rintro vs H Q E ⟨a,ns,rfl,hO,hS,hl,q⟩
  obtain ⟨θ',e⟩:=h ns hl
  refine ⟨⟨0,fun _=>0,fun _=>False,[],KL K⟩,[],[.scr ns],rfl,⟨rfl,fun i j hi=>absurd hi (Nat.not_lt_zero _),fun i c h=>by simp at h,fun i hi=>absurd hi (Nat.not_lt_zero _),fun a h=>h.elim,fun a h=>(nomatch h),fun a h=>(nomatch h),fun a ns h=>h⟩,?_,?_⟩
  · refine ⟨.ref a,[],rfl,⟨a,rfl,?_⟩,rfl⟩
    rcases hS with (h1 | ⟨o,h1⟩) | h1
    · rcases hO a with z | ⟨o,xs,z⟩
      · rw [z] at h1; cases h1
      · rw [z] at h1; cases h1
    · exact .inl ⟨o,h1,fun i hi=>absurd hi (Nat.not_lt_zero _),fun z=>z,fun z=>(nomatch z)⟩
    · exact .inr h1
  · rw [e]
    intro B' H' v _ _ rv
    cases (show v=V.bl true from rv)
    exact q H'
end
end L2.MM
set_option Elab.async false
set_option linter.all false
set_option maxRecDepth 100000
set_option maxHeartbeats 4000000
namespace L2.MM
open PySem PySem.Spec PyProof.Rows PySem.SeqAt
noncomputable section
section
variable {i j k:Nat} {ρ:List Sl} {θ:Sto} {f g h:EM} {fs:AM} {t u:TMr}
@[simp] theorem Zss:Zd i ρ θ=match ρ[i]? with | some (Sl.val d)=>.ok d θ | _=>.bad:=nr rfl
@[simp] theorem x_c {d:D}:mC d ρ θ=.ok d θ:=nr rfl
@[simp] theorem ZuQ {o:OM}:mOp o f g ρ θ=(f ρ θ).bind fun x θ=>(g ρ θ).bind fun y θ=>o x y θ:=nr rfl
@[simp] theorem Zyu:ZF f ρ θ=(f ρ θ).bind fun x θ=>match x with | .bl k=>.ok k θ | _=>.bad:=nr rfl
@[simp] theorem ZzL:zW f ρ θ=(f ρ θ).bind fun x θ=>match Zg4 θ x with | some k=>.ok k θ | none=>.bad:=nr rfl
@[simp] theorem ZzZ:Zgl t u ρ θ=(t ρ θ).bind fun k θ=>if k=true then u ρ θ else .ok false θ:=nr rfl
@[simp] theorem ZAm:mOr t u ρ θ=(t ρ θ).bind fun k θ=>if k=true then .ok true θ else u ρ θ:=nr rfl
@[simp] theorem ZzP:Zd2 t ρ θ=(t ρ θ).bind fun k θ=>.ok (!k) θ:=nr rfl
def Zuk (g:Sto→R D):D→Sto→R D
  | .bl true,θ=>g θ
  | .bl false,θ=>.ok (.bl false) θ
  | _,_=>.bad
def orK (g:Sto→R D):D→Sto→R D
  | .bl true,θ=>.ok (.bl true) θ
  | .bl false,θ=>g θ
  | _,_=>.bad
@[simp] theorem ZwD {g:Sto→R D} {k:Bool}:Zuk g (.bl k) θ=if k=true then g θ else .ok (.bl false) θ:=by cases k<;>rfl
@[simp] theorem Zzb {g:Sto→R D} {k:Bool}:orK g (.bl k) θ=if k=true then .ok (.bl true) θ else g θ:=by cases k<;>rfl
@[simp] theorem ZyG:Zcs f g ρ θ=(f ρ θ).bind (Zuk (g ρ)):=by
  show (f ρ θ).bind _=_
  congr 1
  funext x θ
  cases x<;>first | rfl | (rename_i b; cases b<;>rfl)
@[simp] theorem ZzO:Znx f g ρ θ=(f ρ θ).bind (orK (g ρ)):=by
  show (f ρ θ).bind _=_
  congr 1
  funext x θ
  cases x<;>first | rfl | (rename_i b; cases b<;>rfl)
@[simp] theorem ZvM {p:Prop} [Decidable p] {m:Bool}:(if p then R.ok (D.bl m) θ else R.ok (D.bl false) θ)=R.ok (D.bl (decide p && m)) θ:=by by_cases h:p<;>simp [h]
@[simp] theorem Zwu {p:Prop} [Decidable p] {m:Bool}:(if p then R.ok (D.bl true) θ else R.ok (D.bl m) θ)=R.ok (D.bl (decide p || m)) θ:=by by_cases h:p<;>simp [h]
@[simp] theorem ZuG {p:Prop} [Decidable p] {m:Bool}:(if p then R.ok m θ else R.ok false θ)=R.ok (decide p && m) θ:=by by_cases h:p<;>simp [h]
@[simp] theorem ZvL {p:Prop} [Decidable p] {m:Bool}:(if p then R.ok true θ else R.ok m θ)=R.ok (decide p || m) θ:=by by_cases h:p<;>simp [h]
@[simp] theorem ZyA:ZmQ f ρ θ=(f ρ θ).bind fun x θ=>match Zg4 θ x with | some k=>.ok (.bl (!k)) θ | none=>.bad:=nr rfl
@[simp] theorem ZzQ:Zzg f ρ θ=(f ρ θ).bind fun x θ=>match x with | .int i=>.ok (.int (-i)) θ | _=>.bad:=nr rfl
@[simp] theorem ZzT:ZfR t f g ρ θ=(t ρ θ).bind fun k θ=>if k=true then f ρ θ else g ρ θ:=nr rfl
@[simp] theorem Zwg {o o':OM}:Zd4 o o' f g h ρ θ=(f ρ θ).bind fun x θ=>(g ρ θ).bind fun y θ=>(o x y θ).bind (Zuk fun θ=>(h ρ θ).bind fun w θ=>o' y w θ):=by
  show (f ρ θ).bind _=_
  congr 1
  funext x θ
  congr 1
  funext y θ
  congr 1
  funext z θ
  cases z<;>first | rfl | (rename_i b; cases b<;>rfl)
@[simp] theorem Zsu:Zk ρ θ=.ok [] θ:=nr rfl
@[simp] theorem Zpi:Zc f fs ρ θ=(f ρ θ).bind fun x θ=>(fs ρ θ).bind fun xs θ=>.ok (x::xs) θ:=nr rfl
@[simp] theorem ZzK:zM fs ρ θ=(fs ρ θ).bind fun xs θ=>if xs.length≤BIG then .ok (.tup xs) θ else .bad:=nr rfl
@[simp] theorem ZuR:Zcr fs ρ θ=(fs ρ θ).bind fun xs θ=>if xs.length≤BIG then .ok (.lst xs) θ else .bad:=nr rfl
@[simp] theorem ZyH {o:GM}:mCB o fs ρ θ=(fs ρ θ).bind fun xs θ=>o xs θ:=nr rfl
@[simp] theorem Zpg:ZaV ρ θ=.ok none θ:=nr rfl
@[simp] theorem Zs2:Zby f ρ θ=(f ρ θ).bind fun x θ=>match x with | .int i=>.ok (some i) θ | _=>.bad:=nr rfl
@[simp] theorem Zyv {lo hi:PM}:mSl f lo hi ρ θ=(f ρ θ).bind fun x θ=>(lo ρ θ).bind fun l θ=>(hi ρ θ).bind fun h θ=>match Zfl θ x l h with
  | some d=>.ok d θ
  | none=>.bad:=nr rfl
@[simp] theorem ZzM {lo hi st:PM}:ZrZ f lo hi st ρ θ=(f ρ θ).bind fun x θ=>(lo ρ θ).bind fun l θ=>(hi ρ θ).bind fun h θ=>(st ρ θ).bind fun s θ=>match ZaR θ x with
  | some xs=>if s≠some 0∧(ZdC xs l h s).length≤BIG then .ok (.lst (ZdC xs l h s)) θ else .bad
  | none=>.bad:=nr rfl
@[simp] theorem ZAo:mIn f ρ θ=(f ρ θ).bind fun d θ=>match seqOf θ d with | some _=>.ok (.seq d) θ | none=>.bad:=nr rfl
@[simp] theorem Zyy:ZdG fs ρ θ=(fs ρ θ).bind fun ds θ=>match ds with
  | [.int j]=>if -1000000≤j∧j≤1000000 then .ok (.rng 0 j.toNat) θ else .bad
  | _=>.bad:=by
  unfold ZdG; exact nr rfl
variable {a b:SM} {Fl':Fl×List Sl}
@[simp] theorem Zyw:ZK ρ θ=.ok (.nx,ρ) θ:=nr rfl
@[simp] theorem ZzY:Zr0 ρ θ=.bad:=nr rfl
@[simp] theorem Zup {ρ':List Sl}:Zhs (.ok (.nx,ρ') θ) a=a ρ' θ:=nr rfl
@[simp] theorem Zuo {ρ':List Sl} {d:D}:Zhs (.ok (.rt d,ρ') θ) a=.ok (.rt d,ρ') θ:=nr rfl
@[simp] theorem ZzN:Zp a b ρ θ=Zhs (a ρ θ) b:=nr rfl
@[simp] theorem ZyE:zw f ρ θ=(f ρ θ).bind fun _ θ=>.ok (.nx,ρ) θ:=nr rfl
@[simp] theorem Zpf:ZJ f ρ θ=(f ρ θ).bind fun d θ=>.ok (.rt d,ρ) θ:=nr rfl
@[simp] theorem Zyz:ZfQ ρ θ=.ok (.rt .non,ρ) θ:=nr rfl
@[simp] theorem ZAp:mIf t a b ρ θ=(t ρ θ).bind fun k θ=>if k=true then a ρ θ else b ρ θ:=nr rfl
@[simp] theorem ZuP:ZS i f ρ θ=(f ρ θ).bind fun d θ=>.ok (.nx,ρ.set i (.val d)) θ:=nr rfl
@[simp] theorem ZuO:Zhf i fs ρ θ=(fs ρ θ).bind fun xs θ=>if xs.length≤BIG then .ok (.nx,ρ.set i (.own xs)) θ else .bad:=nr rfl
@[simp] theorem ZuW:Zd5 i f ρ θ=(f ρ θ).bind fun d θ=>match ρ[i]? with
  | some (Sl.own xs)=>if xs.length<BIG then .ok (.nx,ρ.set i (.own (xs++[d]))) θ else .bad
  | _=>.bad:=nr rfl
@[simp] theorem ZuV:Zd3 i a ρ θ=match ρ[i]? with | some (Sl.own xs)=>a (ρ.set i (.val (.lst xs))) θ | _=>a ρ θ:=nr rfl
@[simp] theorem Ze1 {ρ':List Sl}:Zfe a (.nx,ρ') θ=a ρ' θ:=nr rfl
@[simp] theorem ZzU {d:D}:gNm i d ρ=some (ρ.set i (.val d)):=nr rfl
@[simp] theorem ZzX {np nn:Nat} {ds:List D}:ZM np nn a ds θ=if ds.length=np then (a (ZdT nn ds) θ).bind fun p θ=>match p.1 with | .nx=>.ok .non θ | .rt d=>.ok d θ | _=>.bad else .bad:=nr rfl
@[simp] theorem Zwc {n:Nat} {ds:List D}:ZdT n ds=ds.map Sl.val++List.replicate (n-ds.length) Sl.no:=nr rfl
@[simp] theorem Zst {xs:List D}:seqOf θ (.lst xs)=some xs:=nr rfl
@[simp] theorem ZgF {xs:List D}:seqOf θ (.tup xs)=some xs:=nr rfl
@[simp] theorem Zun {b:Bool}:Zg4 θ (.bl b)=some b:=nr rfl
@[simp] theorem Zs1 {ns:List Int}:Zg4 θ (.scr ns)=some (!(ns.map D.int).isEmpty):=nr rfl
@[simp] theorem Zs4 {xs:List D}:look θ (.lst xs)=.lst xs:=nr rfl
@[simp] theorem Zs5 {n:Int}:look θ (.int n)=.int n:=nr rfl
@[simp] theorem Zs3 {n:Str}:look θ (.str n)=.str n:=nr rfl
@[simp] theorem Zph {xs:List D} {n:Int}:ixM (.lst xs) (.int n) θ=match atI xs n with | some d=>.ok d θ | none=>.bad:=nr rfl
@[simp] theorem ZkO {xs:List D} {n:Int}:ixM (.tup xs) (.int n) θ=match atI xs n with | some d=>.ok d θ | none=>.bad:=nr rfl
@[simp] theorem ZuT {xs:List Int} {n:Int}:ixM (.scr xs) (.int n) θ=match atI (xs.map D.int) n with | some d=>.ok d θ | none=>.bad:=nr rfl
@[simp] theorem ZuS {xs:List D}:Zdc [.lst xs] θ=.ok (.int xs.length) θ:=nr rfl
@[simp] theorem Znd {xs:List D}:Zdc [.tup xs] θ=.ok (.int xs.length) θ:=nr rfl
@[simp] theorem Zuq {xs:List Int}:Zdc [.scr xs] θ=.ok (.int (xs.map D.int).length) θ:=nr rfl
@[simp] theorem ZuN {xs:List D}:Zni [.lst xs] θ=match ZfU xs with | some ns=>.ok (.int ns.sum) θ | none=>.bad:=nr rfl
@[simp] theorem ZuX {xs:List D}:ZqY [.lst xs] θ=match Zjp xs with | some ns=>.ok (.bl (ns.all id)) θ | none=>.bad:=nr rfl
@[simp] theorem ZzR {m n:Int}:Zle [.int m,.int n] θ=.ok (.int (if n<m then n else m)) θ:=nr rfl
@[simp] theorem ZyB {m n k:Int}:Zle [.int m,.int n,.int k] θ=.ok (.int (if n<m then (if k<n then k else n) else (if k<m then k else m))) θ:=nr rfl
@[simp] theorem ZzS {m n:Int}:ZrY [.int m,.int n] θ=.ok (.int (if n > m then n else m)) θ:=nr rfl
@[simp] theorem ZyD {k:Bool}:Zr3 [.bl k] θ=.ok (.int (if k then 1 else 0)) θ:=nr rfl
@[simp] theorem Zpe {xs:List D} {lo hi:Option Int}:Zfl θ (.lst xs) lo hi=some (.lst (Za9 xs lo hi)):=nr rfl
@[simp] theorem ZAn {x:D}:isM x .non θ=.ok (.bl (Zcu x)) θ:=nr rfl
@[simp] theorem Zwd {x:D}:Zd6 x .non θ=.ok (.bl (!Zcu x)) θ:=nr rfl
@[simp] theorem ZuU {x y:Bool}:Zd6 (.bl x) (.bl y) θ=.ok (.bl (!(x == y))) θ:=nr rfl
end
mutual
def pl:Nat→D→Bool
  | _,.non=>true
  | _,.bl _=>true
  | _,.int _=>true
  | _,.str x=>PyData.strOk x
  | k+1,.tup xs=>pls k xs
  | k+1,.lst xs=>pls k xs
  | _,_=>false
def pls:Nat→List D→Bool
  | _,[]=>true
  | k,d::r=>pl k d && pls k r
end
mutual
def noB:D→Bool
  | .bl _=>false
  | .tup xs=>Zep xs
  | .lst xs=>Zep xs
  | _=>true
def Zep:List D→Bool
  | []=>true
  | d::r=>noB d && Zep r
end
mutual
theorem ZmB:∀(k:Nat) (d:D),pl k d=true→plain d=true∧(dat d).canLay0=true∧(dat d).depth≤k
  | _,.non,_=>⟨rfl,rfl,Nat.zero_le _⟩
  | _,.bl _,_=>⟨rfl,rfl,Nat.zero_le _⟩
  | _,.int _,_=>⟨rfl,rfl,Nat.zero_le _⟩
  | k,.str x,h=>⟨rfl,by cases k<;>simpa [pl,dat,PyData.canLay0] using h,Nat.zero_le _⟩
  | k+1,.tup xs,h=>by
    obtain ⟨a,b,c⟩:=ZlS k xs (by simpa [pl] using h)
    exact ⟨a,b,by simp only [dat,PyData.depth]; omega⟩
  | k+1,.lst xs,h=>by
    obtain ⟨a,b,c⟩:=ZlS k xs (by simpa [pl] using h)
    exact ⟨a,b,by simp only [dat,PyData.depth]; omega⟩
  | 0,.tup xs,h=>by simp [pl] at h
  | 0,.lst xs,h=>by simp [pl] at h
  | 0,.ty _,h=>by simp [pl] at h
  | 0,.scr _,h=>by simp [pl] at h
  | 0,.ref _,h=>by simp [pl] at h
  | _+1,.ty _,h=>by simp [pl] at h
  | _+1,.scr _,h=>by simp [pl] at h
  | _+1,.ref _,h=>by simp [pl] at h
theorem ZlS:∀(k:Nat) (ds:List D),pls k ds=true→ZbS ds=true∧PyData.canLayAll0 (ZeJ ds)=true∧PyData.depthAll (ZeJ ds)≤k
  | _,[],_=>⟨rfl,rfl,Nat.zero_le _⟩
  | k,d::r,h=>by
    have h':pl k d=true∧pls k r=true:=by simpa [pls] using h
    obtain ⟨a,b,c⟩:=ZmB k d h'.1
    obtain ⟨a',b',c'⟩:=ZlS k r h'.2
    exact ⟨by simp [ZbS,a,a'],by simp [ZeJ,PyData.canLayAll0,b,b'],by simp only [ZeJ,PyData.depthAll]; omega⟩
end
mutual
theorem ZmL:∀(d e:D),noB d=true→noB e=true→noMix (dat d) (dat e)=true:=fun d e p q=>by
  cases d with
  | bl _=>simp [noB] at p
  | tup xs=>
    cases e with
    | bl _=>simp [noB] at q
    | tup ys=>simp only [dat,noMix]; exact ZhD xs ys p q
    | _=>simp [dat,noMix]
  | lst xs=>
    cases e with
    | bl _=>simp [noB] at q
    | lst ys=>simp only [dat,noMix]; exact ZhD xs ys p q
    | _=>simp [dat,noMix]
  | _=>cases e<;>simp_all [noB,dat,noMix]
theorem ZhD:∀(ds es:List D),Zep ds=true→Zep es=true→noMixAll (ZeJ ds) (ZeJ es)=true
  | [],[],_,_=>rfl
  | [],_::_,_,_=>rfl
  | _::_,[],_,_=>rfl
  | d::ds,e::es,p,q=>by
    have p':noB d=true∧Zep ds=true:=by simpa [Zep] using p
    have q':noB e=true∧Zep es=true:=by simpa [Zep] using q
    simp only [ZeJ,noMixAll,Bool.and_eq_true]
    exact ⟨ZmL d e p'.1 q'.1,ZhD ds es p'.2 q'.2⟩
end
theorem Zir {k:Nat} {d:D} (h:pl k d=true) (hk:k≤64):shaped (dat d)=true:=by
  obtain ⟨_,b,c⟩:=ZmB k d h
  unfold shaped
  rw [b,decide_eq_true (by omega)]
  rfl
theorem ZcD {x y:D} (h1:pl 9 x=true) (h2:pl 9 y=true) (h3:noB x=true) (h4:noB y=true):ZlJ x y:=
  ⟨(ZmB _ _ h1).1,(ZmB _ _ h2).1,Zir h1 (by decide),Zir h2 (by decide),ZmL x y h3 h4⟩
section
open Classical
theorem Zgs {x y:D} {θ:Sto} (h:ZlJ (look θ x) (look θ y)):eqM x y θ=.ok (.bl (decide (look θ x=look θ y))) θ:=if_pos h
theorem Zgi {x y:D} {θ:Sto} (h:ZlJ (look θ x) (look θ y)):neM x y θ=.ok (.bl (!decide (look θ x=look θ y))) θ:=if_pos h
end
@[simp] theorem Zvr (k:Nat) (ns:List Int):pls k (ns.map D.int)=true:=by
  induction ns with
  | nil=>rfl
  | cons n r ih=>simp only [List.map_cons,pls,ih,Bool.and_true]; cases k<;>rfl
@[simp] theorem ZuE (ns:List Int):Zep (ns.map D.int)=true:=by
  induction ns with
  | nil=>rfl
  | cons n r ih=>simp only [List.map_cons,Zep,ih,Bool.and_true]; rfl
@[simp] theorem ZsT (ns ms:List Int):(ns.map D.int=ms.map D.int)↔ns=ms:=by
  constructor
  · intro h
    have:∀(ns ms:List Int),ns.map D.int=ms.map D.int→ns=ms:=fun ns=>by
      induction ns with
      | nil=>intro ms h; cases ms with
        | nil=>rfl
        | cons _ _=>cases h
      | cons n r ih=>intro ms h; cases ms with
        | nil=>cases h
        | cons m s=>simp at h; rw [h.1,ih s h.2]
    exact this ns ms h
  · intro h; rw [h]
@[simp] theorem Zzz (a b:Int) (θ:Sto):eqM (.int a) (.int b) θ=.ok (.bl (decide (a=b))) θ:=by
  rw [Zgs (ZcD rfl rfl rfl rfl)]
  simp
@[simp] theorem Zzd (a b:Int) (θ:Sto):neM (.int a) (.int b) θ=.ok (.bl (!decide (a=b))) θ:=by
  rw [Zgi (ZcD rfl rfl rfl rfl)]
  simp
@[simp] theorem Zsc (a b:List Int) (θ:Sto):eqM (.lst (a.map D.int)) (.lst (b.map D.int)) θ=.ok (.bl (decide (a=b))) θ:=by
  rw [Zgs (ZcD (by simp [pl]) (by simp [pl]) (by simp [noB]) (by simp [noB]))]
  simp
@[simp] theorem ZrV (a b:List Int) (θ:Sto):neM (.lst (a.map D.int)) (.lst (b.map D.int)) θ=.ok (.bl (!decide (a=b))) θ:=by
  rw [Zgi (ZcD (by simp [pl]) (by simp [pl]) (by simp [noB]) (by simp [noB]))]
  simp
end
end L2.MM
set_option Elab.async false
set_option linter.all false
set_option maxRecDepth 100000
set_option maxHeartbeats 4000000
namespace L2.MM
open PySem PySem.Spec PyProof.Rows PySem.SeqAt My
noncomputable section
@[simp] theorem Zum:BIG=100000:=nr rfl
def il (ns:List Int):D:=.lst (ns.map D.int)
def itp (ns:List Int):D:=.tup (ns.map D.int)
section
variable {θ:Sto} {a b ns ms:List Int} {i j:Int}
@[simp] theorem ZAi:D.lst (ns.map D.int)=il ns:=nr rfl
theorem ZcC:D.lst []=il []:=rfl
@[simp] theorem ZAh (x:Int):D.lst [.int x]=il [x]:=nr rfl
@[simp] theorem ZvZ (x y:Int):D.lst [.int x,.int y]=il [x,y]:=nr rfl
@[simp] theorem ZAg (x y z w:Int):D.lst [.int x,.int y,.int z,.int w]=il [x,y,z,w]:=nr rfl
@[simp] theorem ZvQ:ZaR θ (il a)=some (a.map D.int):=nr rfl
@[simp] theorem ZvP:seqOf θ (il a)=some (a.map D.int):=nr rfl
@[simp] theorem Zqs:ZX (il a) (il b) θ=if a.length+b.length≤BIG then .ok (il (a++b)) θ else .bad:=by
  unfold il
  rw [ZqZ]
  simp [il]
theorem Zji (h:a.length+b.length≤100000):ZX (il a) (il b) θ=.ok (il (a++b)) θ:=by
  rw [Zqs,if_pos h]
@[simp] theorem Zzl:Zdc [il a] θ=.ok (.int a.length) θ:=by
  unfold il; rw [ZuS]; simp
@[simp] theorem Zzj:Zdc [itp a] θ=.ok (.int a.length) θ:=by
  unfold itp; rw [Znd]; simp
theorem Zsn {α β:Type} (f:α→β) (xs:List α) (n:Int):atI (xs.map f) n=(atI xs n).map f:=by
  unfold L2.atI
  rw [List.length_map]
  cases ixN xs.length n with
  | none=>rfl
  | some k=>simp
theorem ZvR:ixM (il a) (.int i) θ=match atI a i with | some z=>.ok (.int z) θ | none=>.bad:=by
  unfold il
  rw [Zph,Zsn]
  cases atI a i<;>rfl
theorem ZqV {xs:List Int} {i:Int} (h0:0≤i) (h:i<xs.length):atI xs i=some (xs.getD i.toNat 0):=by
  have c:i=((i.toNat:Nat):Int):=by omega
  rw [c]
  refine Zhk ?_
  have d:i.toNat<xs.length:=by omega
  rw [List.getD_eq_getElem?_getD,Int.toNat_natCast,List.getElem?_eq_getElem d]
  rfl
def gt (a:List Int) (i:Nat):Int:=a.getD i 0
theorem Zci (h0:0≤i) (h:i<a.length):ixM (il a) (.int i) θ=.ok (.int (gt a i.toNat)) θ:=by rw [ZvR,ZqV h0 h]; rfl
@[simp] theorem Zzn {x:Int} {r:List Int}:ixM (il (x::r)) (.int 0) θ=.ok (.int x) θ:=Zci (a:=x::r) (i:=0) (by decide) (by rw [List.length_cons]; omega)
@[simp] theorem Zzm {x y:Int} {r:List Int}:ixM (il (x::y::r)) (.int 1) θ=.ok (.int y) θ:=Zci (a:=x::y::r) (i:=1) (by decide) (by rw [List.length_cons,List.length_cons]; omega)
@[simp high] theorem ZAr {x:D} {r:List D}:ixM (.tup (x::r)) (.int 0) θ=.ok x θ:=by
  rw [ZkO,show (0:Int)=((0:Nat):Int) from rfl,Zhk (j:=0) (v:=x) rfl]
@[simp high] theorem ZAq {x y:D} {r:List D}:ixM (.tup (x::y::r)) (.int 1) θ=.ok y θ:=by
  rw [ZkO,show (1:Int)=((1:Nat):Int) from rfl,Zhk (j:=1) (v:=y) rfl]
theorem ZqM {α β:Type} (f:α→β) (xs:List α) (lo hi:Option Int):Za9 (xs.map f) lo hi=(Za9 xs lo hi).map f:=by
  unfold Za9
  rw [List.length_map,List.map_take,List.map_drop]
@[simp] theorem ZmU {lo hi:Option Int}:Zfl θ (il a) lo hi=some (il (Za9 a lo hi)):=by
  unfold il; rw [Zpe,ZqM]
@[simp] theorem Zwv:Zlg [itp a] θ=.ok (il a) θ:=nr rfl
@[simp] theorem ZvO:Zfk [il a] θ=.ok (itp a) θ:=nr rfl
@[simp] theorem Zzk:Zni [il a] θ=.ok (.int a.sum) θ:=by unfold il; rw [ZuN,Zqq]
@[simp] theorem ZAa {n:String}:ZgO [il a,.ty n] θ=match isT .lst n with | some b=>.ok (.bl b) θ | none=>.bad:=nr rfl
@[simp] theorem ZAb:eqM (il a) (il b) θ=.ok (.bl (decide (a=b))) θ:=Zsc a b θ
@[simp] theorem Zz9:neM (il a) (il b) θ=.ok (.bl (!decide (a=b))) θ:=ZrV a b θ
@[simp] theorem Zzi {k:Int}:ZbT (itp a) (.int k) θ=if a.isEmpty=false∧0≤k∧k<1000∧(a.length:Int)*k≤1000 then .ok (itp (List.replicate k.toNat a).flatten) θ else .bad:=by
  unfold itp
  rw [Zqa,List.length_map]
  have:(List.replicate k.toNat (a.map D.int)).flatten=(List.replicate k.toNat a).flatten.map D.int:=by
    rw [List.map_flatten,List.map_replicate]
  rw [this]
  simp
theorem Zgf {α β:Type} (f:α→β) (xs:List α) (lo hi st:Option Int):ZdC (xs.map f) lo hi st=(ZdC xs lo hi st).map f:=by
  unfold ZdC
  rw [List.length_map,List.map_filterMap]
  congr
  funext k
  simp
theorem ZhH:∀{ns ms:List Int},ns.map V.int=ms.map V.int→ns=ms
  | [],[],_=>rfl
  | [],_::_,h=>by cases h
  | _::_,[],h=>by cases h
  | _::_,_::_,h=>by simp at h; rw [h.1,ZhH h.2]
@[simp] theorem ZsM (ns:List Int):ZdC ns none none (some 2)=Zej ns:=ZhH (by
  have:=ZnJ ns
  rw [show Zev (ns.map V.int) none none (some 2)=ZdC (ns.map V.int) none none (some 2) from rfl,Zgf] at this
  exact this)
@[simp] theorem ZtJ (ns:List Int):ZdC ns (some 1) none (some 2)=ZhA ns:=ZhH (by
  have:=ZqL ns
  rw [show Zev (ns.map V.int) (some 1) none (some 2)=ZdC (ns.map V.int) (some 1) none (some 2) from rfl,Zgf] at this
  exact this)
end
theorem Zi7 {n d:Nat} {k:Int} (h:0≤k):HT.sIx n d (some k)=min k.toNat n:=by
  have c:k=((k.toNat:Nat):Int):=by omega
  rw [c]
  exact HT.sIx_nat n d k.toNat
theorem Zd7 {α:Type} (xs:List α) {k:Int} (h:0≤k):Za9 xs none (some k)=xs.take k.toNat:=by
  unfold Za9
  rw [HT.sIx_none,Zi7 h,List.drop_zero,Nat.sub_zero,←List.take_take,List.take_length]
theorem ZbY {α:Type} (xs:List α) {k:Int} (h:0≤k):Za9 xs (some k) none=xs.drop k.toNat:=by
  unfold Za9
  rw [HT.sIx_none,Zi7 h]
  by_cases q:k.toNat≤xs.length
  · rw [Nat.min_eq_left q,List.take_of_length_le]
    rw [List.length_drop]
    exact Nat.le_refl _
  · rw [Nat.min_eq_right (by omega),List.drop_length,List.drop_eq_nil_of_le (by omega)]
    simp
theorem ZmY {α:Type} (xs:List α) {k l:Int} (h:0≤k) (h':0≤l):Za9 xs (some k) (some l)=(xs.drop k.toNat).take (l.toNat-k.toNat):=by
  unfold Za9
  rw [Zi7 h,Zi7 h']
  by_cases q:k.toNat≤xs.length
  · rw [Nat.min_eq_left q]
    by_cases r:l.toNat≤xs.length
    · rw [Nat.min_eq_left r]
    · rw [Nat.min_eq_right (by omega),List.take_of_length_le (by rw [List.length_drop]; exact Nat.le_refl _),List.take_of_length_le (by rw [List.length_drop]; omega)]
  · rw [Nat.min_eq_right (a:=k.toNat) (by omega),List.drop_length,List.drop_eq_nil_of_le (i:=k.toNat) (by omega)]
    simp
section
variable {θ:Sto} {ρ:List Sl}
@[simp] theorem Ze2 {lo:Int} {n:Nat}:(Src.rng lo n).items θ=some ((List.range n).map fun (i:Nat)=>D.int (lo+(i:Int))):=nr rfl
@[simp] theorem Znl {d:D}:(Src.seq d).items θ=seqOf θ d:=nr rfl
open Classical in
theorem Zgu {S:Src} {all:List D} {elt:D→Sto→R D} {θ:Sto} (f:D→D) (hS:S.items θ=some all):∀(xs acc:List D),(∀x∈xs,elt x θ=.ok (f x) θ)→(acc.length+xs.length≤BIG)→ZgQ S all elt xs acc θ=.ok (.lst (acc++xs.map f)) θ
  | [],acc,_,hl=>by
    unfold ZgQ
    rw [if_pos ⟨hS,by simpa using hl⟩]
    simp
  | x::r,acc,h,hl=>by
    unfold ZgQ
    rw [if_pos hS,h x List.mem_cons_self]
    rw [R.bind_ok,Zgu f hS r (acc++[f x]) (fun y hy=>h y (List.mem_cons_of_mem _ hy)) (by simp at hl ⊢; omega)]
    simp
theorem ZiG {fi:IM} {src:List Nat} {elt:EM} {lo:Int} {n:Nat} {θ':Sto} (f:Int→D) (hi:fi ρ θ=.ok (.rng lo n) θ') (hn:n≤BIG) (he:∀i:Nat,i<n→elt (ZeH src ρ (.int (lo+i))) θ'=.ok (f (lo+i)) θ') :
    Zdi fi src elt ρ θ=.ok (.lst ((List.range n).map fun (i:Nat)=>f (lo+i))) θ':=by
  unfold Zdi
  rw [hi,R.bind_ok]
  simp only [Ze2]
  rw [if_pos (by simpa using hn),Zgu (fun d=>match d with | .int k=>f k | d=>d) rfl]
  · simp
  · intro x hx
    obtain ⟨i,hi,rfl⟩:=List.mem_map.mp hx
    exact he i (List.mem_range.mp hi)
  · simpa using hn
theorem Zny {fi:IM} {src:List Nat} {elt:EM} {d:D} {xs:List D} {θ':Sto} (f:D→D) (hi:fi ρ θ=.ok (.seq d) θ') (hd:seqOf θ' d=some xs) (hn:xs.length≤BIG) (he:∀x∈xs,elt (ZeH src ρ x) θ'=.ok (f x) θ') :
    Zdi fi src elt ρ θ=.ok (.lst (xs.map f)) θ':=by
  unfold Zdi
  rw [hi,R.bind_ok]
  simp only [Znl,hd]
  rw [if_pos hn,Zgu (S:=.seq d) f hd xs [] he (by simpa using hn)]
  simp
@[simp] theorem ZvN {src:List Nat} {x:D}:ZeH src ρ x=Sl.val x::src.map fun (j:Nat)=>match ρ[j]? with | some (Sl.val d)=>Sl.val d | _=>Sl.no:=nr rfl
open Classical in
theorem Zsa {lo:Int} {n:Nat} {all:List D} {tg:TgM} {body:SM} (st:Nat→List Sl) (hs:∀i ρ1,i<n→tg (.int (lo+i)) (st i)=some ρ1→body ρ1 θ=.ok (.nx,st (i+1)) θ) (ht:∀i,i<n→∃ρ1,tg (.int (lo+i)) (st i)=some ρ1) (hall:all=(List.range n).map fun (i:Nat)=>D.int (lo+(i:Int))) :
    ZdI (.rng lo n) all tg body all (st 0) θ=.ok (.nx,st n) θ:=by
  subst hall
  have key:∀m,m≤n→ZdI (.rng lo n) ((List.range n).map fun (i:Nat)=>D.int (lo+(i:Int))) tg body (((List.range n).map fun (i:Nat)=>D.int (lo+(i:Int))).drop (n-m)) (st (n-m)) θ=.ok (.nx,st n) θ:=fun m=>by
    induction m with
    | zero=>
      intro _
      rw [Nat.sub_zero,List.drop_eq_nil_of_le (by simp)]
      simp [ZdI]
    | succ m ih=>
      intro hm
      have hlt:n-(m+1)<n:=by omega
      rw [List.drop_eq_getElem_cons (by simpa using hlt)]
      obtain ⟨ρ1,h1⟩:=ht (n-(m+1)) hlt
      have h2:=hs (n-(m+1)) ρ1 hlt h1
      have e:n-(m+1)+1=n-m:=by omega
      simp only [List.getElem_map,List.getElem_range,ZdI,Ze2,if_true,h1]
      rw [h2,R.bind_ok,Ze1,e]
      exact ih (by omega)
  have:=key n (Nat.le_refl _)
  rw [Nat.sub_self,List.drop_zero] at this
  exact this
end
end
end L2.MM
set_option Elab.async false
set_option linter.all false
set_option maxRecDepth 100000
set_option maxHeartbeats 4000000
namespace L2.MM
open PySem PySem.Spec PyProof.Rows PySem.SeqAt
noncomputable section
variable {X:Cx}
def Zan (f:Str) (v:D):List (Str×D)→List (Str×D)
  | []=>[(f,v)]
  | (g,x)::r=>if g=f then (g,v)::r else (g,x)::Zan f v r
theorem RepKV.put {B:Bx} {H:Hp} {f:Str} {d:D} {v:V} (q:RepV B H d v):∀{fs:List (Str×D)} {vs:List (Str×V)},RepKV B H fs vs→RepKV B H (Zan f d fs) (ZdB f v vs)
  | _,_,.nil=>.cons ⟨rfl,q⟩ .nil
  | (g,x)::fs,(g',y)::vs,.cons h t=>by
    obtain ⟨h1,h2⟩:=h
    cases (show g=g' from h1)
    unfold Zan ZdB
    by_cases e:g=f
    · rw [if_pos e,if_pos e]; exact .cons ⟨rfl,q⟩ t
    · rw [if_neg e,if_neg e]; exact .cons ⟨rfl,h2⟩ (RepKV.put q t)
theorem RepKV.len {κ:Type} {B:Bx} {H:Hp}:∀{fs:List (κ×D)} {vs:List (κ×V)},RepKV B H fs vs→vs.length=fs.length
  | _,_,.nil=>rfl
  | _,_,.cons _ t=>by rw [List.length_cons,List.length_cons,RepKV.len t]
theorem RepKV.get {B:Bx} {H:Hp} {f:Str} {d:D}:∀{fs:List (Str×D)} {vs:List (Str×V)},RepKV B H fs vs→fs.lookup f=some d→∃v,vs.lookup f=some v∧RepV B H d v
  | _,_,.nil,h=>by cases h
  | (g,x)::fs,(g',y)::vs,.cons h t,e=>by
    obtain ⟨h1,h2⟩:=h
    cases (show g=g' from h1)
    rw [List.lookup_cons] at e ⊢
    cases q:f == g with
    | true=>rw [q] at e; cases e; exact ⟨y,rfl,h2⟩
    | false=>rw [q] at e; exact RepKV.get t e
theorem RepKV.none {B:Bx} {H:Hp} {f:Str}:∀{fs:List (Str×D)} {vs:List (Str×V)},RepKV B H fs vs→fs.lookup f=none→vs.lookup f=none
  | _,_,.nil,h=>rfl
  | (g,x)::fs,(g',y)::vs,.cons h t,e=>by
    obtain ⟨h1,h2⟩:=h
    cases (show g=g' from h1)
    rw [List.lookup_cons] at e ⊢
    cases q:f == g with
    | true=>rw [q] at e; cases e
    | false=>rw [q] at e; exact RepKV.none t e
def ZeG (θ:Sto):D→Option (Nat×Str×List (Str×D))
  | .ref l=>match θ[l]? with
    | some (.ins C fs)=>some (l,C,fs)
    | _=>none
  | _=>none
theorem Zln {cl:Mo} {B:Bx} {θ:Sto} {H:Hp} (G:Good cl B θ H) {d:D} {v:V} {l:Nat} {C:Str} {fs:List (Str×D)} (r:RepV B H d v) (h:ZeG θ d=some (l,C,fs)) :
    l<B.n∧v=.ref (B.m l)∧∃dx vs,H (B.m l)=some (.ins (cl.cl C) dx vs)∧RepKV B H fs vs:=by
  cases d with
  | ref k=>
    simp only [ZeG] at h
    split at h
    · rename_i C' fs' e
      cases h
      obtain ⟨hl,rfl⟩:=r
      obtain ⟨dx,vs,h1,h2⟩:=G.cel _ _ e
      exact ⟨hl,rfl,dx,vs,h1,h2⟩
    · cases h
  | _=>cases h
def zC (cs:List Str) (f:Str):D→Sto→R D:=fun d θ=>match ZeG θ d with
  | some (_,C,fs)=>if cs.contains C=true then (match fs.lookup f with
    | some v=>.ok v θ
    | none=>.bad) else .bad
  | none=>.bad
def ZG (cs:List Str) (f:Str) (fe:EM):EM:=fun ρ θ=>(fe ρ θ).bind (zC cs f)
def Zs0 (X:Cx) (f:Str) (C:Str):Prop:=Cls X.K (X.cl.cl C)∧NoAttr X.K (X.cl.cl C) f
theorem Zr {P:Str→Prop} {a:Str} (h:P a):∀C,[a].contains C=true→P C:=fun C hc=>by
  have:C=a:=by simpa using hc
  rw [this]; exact h
theorem Zl {cs:List Str} {f:Str} {e:Expr} {fe:EM} {pos:Pos} (hc:∀C,cs.contains C=true→Zs0 X f C) (he:ME X e fe) (hb:attributeBase e f X.env (eval e X.env)=eval e X.env:=by rfl):ME X (.Attribute e f pos) (ZG cs f fe):=by
  refine PE.imp (ZtS he hb) fun σ H Q h=>?_
  obtain ⟨B,θ,ρ,F,w⟩:=h
  refine zc (step F w) ?_
  rintro v H1 ⟨B1,θ1,d,E1,F1,rd,w1⟩
  unfold zC at w1
  split at w1
  · rename_i l C fs e1
    split at w1
    · rename_i hC
      split at w1
      · rename_i y ey
        obtain ⟨hl,rfl,dx,vs,h1,h2⟩:=Zln F1.good rd e1
        obtain ⟨u,h3,h4⟩:=h2.get ey
        exact ⟨_,_,dx,vs,u,rfl,h1,(hc C hC).1,(hc C hC).2,h3,ZO F1.good h4 w1⟩
      · exact w1.elim
    · exact w1.elim
  · exact w1.elim
def Z5 (cs:List Str) (f:Str) (y d:D) (θ:Sto):Option Sto:=match ZeG θ d with
  | some (l,C,fs)=>if cs.contains C=true∧fs.length<1000 then some (θ.set l (.ins C (Zan f y fs))) else none
  | none=>none
def ZD (cs:List Str) (f:Str) (fe fv:EM):SM:=fun ρ θ=>(fv ρ θ).bind fun y θ=>(fe ρ θ).bind fun d θ=>match Z5 cs f y d θ with
  | some θ'=>.ok (.nx,ρ) θ'
  | none=>.bad
theorem Zv {cs:List Str} {f:Str} {o value:Expr} {fe fv:EM} {pos pos':Pos} (hc:∀C,cs.contains C=true→Zs0 X f C) (he:ME X o fe) (hv:ME X value fv) (hs:swapsWith value (some (.Attribute o f pos')) pos.line X.env=pure false:=by rfl) :
    MS X (.Assign [.Attribute o f pos'] value pos) (ZD cs f fe fv):=
  PS.imp (ZtH he hv hs) fun D σ H h=>by
  obtain ⟨B,θ,ρ,F,w⟩:=h
  refine zc (Zhv F w) ?_
  rintro y H1 ⟨B1,θ1,dy,E1,F1,ry,w1⟩
  refine zc (Zhv F1 w1) ?_
  rintro v H2 ⟨B2,θ2,d,E2,F2,rd,w2⟩
  unfold Z5 at w2
  cases e1:ZeG θ2 d with
  | none=>rw [e1] at w2; exact w2.elim
  | some q=>
    obtain ⟨l,C,fs⟩:=q
    rw [e1] at w2
    simp only at w2
    by_cases hC:cs.contains C=true∧fs.length<1000
    · rw [if_pos hC] at w2
      obtain ⟨hl,rfl,dx,vs,h1,h2⟩:=Zln F2.good rd e1
      refine ⟨_,_,dx,vs,rfl,h1,(hc C hC.1).1,(hc C hC.1).2,by rw [h2.len]; exact hC.2,?_⟩
      have E3:=Zhi F2.good hl (.ins (X.cl.cl C) dx (ZdB f y vs))
      have G3:=ZhO F2.good hl (o:=.ins (X.cl.cl C) dx (ZdB f y vs)) (c:=.ins C (Zan f dy fs)) ⟨dx,_,zE,(h2.put (ry.ext E2.toExtS)).ext E3.toExtS⟩
      exact w2 _ _ _ E3.toExtS (F2.ext E3 G3)
    · rw [if_neg hC] at w2
      exact w2.elim
structure MMk (P:Program) (w:World) (K:PySem.W.Frag) (mg:Str→Option Value) (base:Heap) (k:Nat) (C:Str) (f:GM):Prop where
  ex:∃(fI:Addr) (fd:FuncData) (ps:List Str),Mk K (z0 mg C) fI∧FnOk P w K mg base CX0 k fI fd ps (spM ⟨z0 mg,K⟩ f)∧Binds K fd ps []
  mg:mg C=some (.ref (z0 mg C))
def mkG (C:Str) (f:GM):GM:=fun vs θ=>(f (.ref θ.length::vs) (θ++[.ins C []])).bind fun v θ'=>match v with
  | .non=>.ok (.ref θ.length) θ'
  | _=>.bad
theorem wpR.made {σ:St} {B:Bx} {θ:Sto} {H:Hp} {C:Str} {f:GM} {ds:List D} {vs:List V} {Q:VK} {E:XK} (G:Good X.cl B θ H) (r:RepL B H ds vs) (w:wpR X σ RepV B H (mkG C f ds θ) Q) :
    ∀x dx,H x=none→H dx=none→dx≠x→spM X.cl f (.ref x::(vs++[])) (upd (upd H dx (.own x)) x (.ins (X.cl.cl C) dx [])) (fun v H2=>v=.non∧Q (.ref x) H2) E:=by
  intro x dx hx hdx ne
  have E1:=ZcN G hdx (.own x)
  have G1:=ZeI G hdx (.own x)
  have hx1:upd H dx (.own x) x=none:=by rw [ZP (Ne.symm ne)]; exact hx
  have E2:=ZhR G1 hx1 (.ins (X.cl.cl C) dx [])
  have G2:Good X.cl (B.push x) (θ++[.ins C []]) _:=ZiK G1 hx1 (o:=.ins (X.cl.cl C) dx []) (c:=.ins C []) ⟨dx,[],zE,.nil⟩
  have rx:RepV (B.push x) (upd (upd H dx (.own x)) x (.ins (X.cl.cl C) dx [])) (.ref θ.length) (.ref x):=⟨by rw [G.len]; exact Nat.lt_succ_self _,by rw [G.len]; show V.ref x=V.ref (if B.n=B.n then x else B.m B.n); rw [if_pos rfl]⟩
  rw [List.append_nil]
  refine Zm3 (σ:=σ) G2 (show RepL _ _ (.ref θ.length::ds) (.ref x::vs) from ⟨_,_,rfl,rx,r.ext (E1.trans E2).toExtS⟩) ?_
  have w1:=wpR.trans w (E1.trans E2)
  refine (wpR.bind (Rel:=RepV) w1).mono ?_
  rintro v H3 ⟨B3,θ3,d,E3,G3,rd,w3⟩
  cases d with
  | non=>exact ⟨rd,ZO G3 (rx.ext E3.toExtS) w3⟩
  | _=>exact w3.elim
theorem ZrX {k j:Nat} {x:Str} {f:GM} {p pos:Pos} {e:Expr} {es:List Expr} {fs:AM} (M:MMk X.prog X.w X.K X.mg X.base k x f) (hr:Room j X.A) (hj:k+1≤j) (ha:MA X (e::es) fs) (hg:Gl X x:=by rfl) (hdb:(x == ("__debug__":Str))=false:=by decide)
    (he:starEach (e::es) X.env=(false,eval e X.env)::starEach es X.env:=by rfl) (hpl:(backTo pos (starEach es X.env)).any (·.1)=false:=by rfl):ME X (.Call (.Name x p) (e::es) [] pos) (mCB (mkG x f) fs):=by
  obtain ⟨fI,fd,ps,m,F0,b⟩:=M.ex
  refine PE.imp (ZrI m F0 (hr.mono hj) hg M.mg b .nil ZpY ha hdb he hpl) fun σ H Q h=>?_
  obtain ⟨B,θ,ρ,F,w⟩:=h
  refine ZbP (Zhw F w) ?_
  rintro vs H1 ⟨B1,θ1,ds,E1,F1,rd,w1⟩
  exact wpR.made F1.good rd w1
theorem Zlf {k j:Nat} {x:Str} {f:GM} {p pos:Pos} (M:MMk X.prog X.w X.K X.mg X.base k x f) (hr:Room j X.A) (hj:k+1≤j) (hg:Gl X x:=by rfl) (hdb:(x == ("__debug__":Str))=false:=by decide):ME X (.Call (.Name x p) [] [] pos) (mCB (mkG x f) Zk):=by
  obtain ⟨fI,fd,ps,m,F0,b⟩:=M.ex
  refine PE.imp (ZpP m F0 (hr.mono hj) hg M.mg b .nil ZpY hdb) fun σ H Q h=>?_
  obtain ⟨B,θ,ρ,F,w⟩:=h
  exact wpR.made (ds:=[]) (vs:=[]) F.good (show RepL B H [] [] from rfl) w
structure ZAl (P:Program) (w:World) (K:PySem.W.Frag) (mg:Str→Option Value) (base:Heap) (k:Nat) (C m:Str) (f:GM):Prop where
  ex:∃(fa:Addr) (fd:FuncData) (ps:List Str),ZzH K (z0 mg C) m fa∧FnOk P w K mg base CX0 k fa fd ps (spM ⟨z0 mg,K⟩ f)∧Binds K fd ps []
  cl:Cls K (z0 mg C)
instance {C C':Str} {gs:List (Str×D)} {m:Str}:Decidable (C'=C∧gs.lookup m=none):=by
  cases h:gs.lookup m with
  | none=>exact if e:C'=C then isTrue ⟨e,rfl⟩ else isFalse fun z=>e z.1
  | some _=>exact isFalse fun z=>nomatch z.2
theorem mmk {P:Program} {w:World} {K:PySem.W.Frag} {mg:Str→Option Value} {base:Heap} {x qual:Str} {st:Stmt} {N ps:List Str} {k:Nat} {fb:SM} {f:Addr} {fd:FuncData} {C:Str} (F:Fun K x qual st f fd) (S:Zo N ps (Zg st)) (np nn:Nat) (hp:ps.length=np) (hn:N.length=nn) (b:Binds K fd ps []) (M:Mk K (z0 mg C) f) (hm:mg C=some (.ref (z0 mg C)))
    (hbody:∀(cdv:Value) (A:Around) (outer:List Env) (s:Shared) (H:Hp) (E:XK),Room k (A.deeper (envOfC qual (Zg st) s.heap.objs.size f cdv))→MSs (Zhc CX0 P w K mg base N qual (Zg st) f cdv A outer s H E).nox (Zn st) fb):MMk P w K mg base (k+1) C (ZM np nn fb):=
  ⟨⟨f,fd,ps,M,mfn F S np nn hp hn hbody,b⟩,hm⟩
def Zl3:EM:=fun _ θ=>.ok (.ref θ.length) (θ++[.dK []])
theorem Zqi {pos:Pos}:ME X (.Dict [] [] pos) Zl3:=by
  refine PE.imp ZpU fun σ H Q h=>?_
  obtain ⟨B,θ,ρ,F,w⟩:=h
  intro p hp
  have G:=F.good
  exact w (B.push p) _ _ (ZhR G hp _) (ZiK G hp ⟨[],zE,.nil⟩) ⟨by rw [G.len]; exact Nat.lt_succ_self _,by rw [G.len]; show V.ref p=V.ref (if B.n=B.n then p else B.m B.n); rw [if_pos rfl]⟩
section
variable {ρ:List Sl} {θ:Sto} {fe fv fo:EM} {cs:List Str} {f:Str}
@[simp] theorem ZzV:ZG cs f fe ρ θ=(fe ρ θ).bind (zC cs f):=nr rfl
@[simp] theorem Zyx:ZD cs f fe fv ρ θ=(fv ρ θ).bind fun y θ=>(fe ρ θ).bind fun d θ=>match Z5 cs f y d θ with
  | some θ'=>.ok (.nx,ρ) θ'
  | none=>.bad:=nr rfl
@[simp] theorem Zwf:Zl3 ρ θ=.ok (.ref θ.length) (θ++[.dK []]):=nr rfl
end
end
end L2.MM
namespace L2.MM
open PySem PySem.Spec PyProof.Rows PySem.SeqAt
def Mk0 (K:PySem.W.Frag) (mg:Str→Option Value) (C qual:Str) (st:Stmt) (ps:List Str):Prop:=
  ∃(f:Addr) (fd:FuncData),Fun K "__init__" qual st f fd∧Binds K fd ps []∧Mk K (z0 mg C) f∧mg C=some (.ref (z0 mg C))
theorem Zm2 {mg:Str→Option Value} {x:Str} {a:Addr} (h:mg x=some (.ref a)):z0 mg x=a:=by unfold z0; rw [h]
theorem mk0 {P:Program} {w:World} {K:PySem.W.Frag} {mg:Str→Option Value} {base:Heap} {qual:Str} {st:Stmt} {N ps:List Str} {k:Nat} {fb:SM} {C:Str} (D:Mk0 K mg C qual st ps) (S:Zo N ps (Zg st)) (np nn:Nat) (hp:ps.length=np) (hn:N.length=nn)
    (hbody:∀(f:Addr) (cdv:Value) (A:Around) (outer:List Env) (s:Shared) (H:Hp) (E:XK),Room k (A.deeper (envOfC qual (Zg st) s.heap.objs.size f cdv))→MSs (Zhc CX0 P w K mg base N qual (Zg st) f cdv A outer s H E).nox (Zn st) fb):MMk P w K mg base (k+1) C (ZM np nn fb):=by
  obtain ⟨f,fd,F,b,M,hm⟩:=D
  exact mmk F S np nn hp hn b M hm (hbody f)
end L2.MM
set_option Elab.async false
set_option linter.all false
set_option maxRecDepth 100000
set_option maxHeartbeats 4000000
namespace L2
open PySem PySem.Spec PyProof.Rows
open AutoSeq1 (wpAny_loadPart')
theorem Zsd (tp:Addr) (its:Array Value) (k:Nat) (dct:Option Addr) (sl:Array (Option Value)) :
    Meets (Builtin.«enumerate.__new__» ⟨[.type "enumerate",.ref tp],[]⟩) (fun _ R s=>s.heap.get? tp=some { cls:=.type "tuple",dict:=dct,data:=.seq its k,slots:=sl }∧
      R (.ok (.ret (.ref (s.heap.push { cls:=.type "tuple_iterator",data:=.fields #[.ref tp,.int 0 0] }).objs.size)))
        { s with heap:=(s.heap.push { cls:=.type "tuple_iterator",data:=.fields #[.ref tp,.int 0 0] }).push { cls:=.type "enumerate",data:=.fields #[.none,.bool false,.ref s.heap.objs.size,rawInt 0,.none,.none] } }):=by
  refine .of_wp fun prog w A R s h=>?_
  obtain ⟨hp,g,d,tk,os⟩:=s
  obtain ⟨ht,h⟩:=h
  have hsub:=sub_enumerate
  have hT:Heap.IsTuple (Shared.heap ⟨hp,g,d,tk,os⟩) tp its:=⟨_,ht,rfl,k,rfl⟩
  wp_walk using wpAny_loadPart' ht
  refine wpAny_stack_any fun st=>?_
  refine wpAny_pure ?_
  split
  · rename_i c _ _ _ _ _
    cases (c == Value.type "enumerate")<;>(wp_walk using wpAny_loadPart' ht,wpAny_pyIter_tuple hT; exact ⟨_,rfl,h⟩)
  · wp_walk using wpAny_loadPart' ht,wpAny_pyIter_tuple hT; exact ⟨_,rfl,h⟩
section
variable {prog:Program} {w:World} {A:Around} {E:Value→Shared→Prop} {s:Shared}
theorem ZqP {tp:Addr} {its:Array Value} {Q:Value→Shared→Prop} (hT:s.heap.IsTuple tp its)
    (h:∀h',IsEnum h' (s.heap.objs.size+1) s.heap.objs.size 0 .none→h'.IsTupleIter s.heap.objs.size tp 0→h'.objs.size=s.heap.objs.size+2→(∀b o,s.heap.get? b=some o→h'.get? b=some o)→Q (.ref (s.heap.objs.size+1)) { s with heap:=h' }) :
    wpAny (model prog w) A (call (.type "enumerate") [.ref tp]) Q E s:=by
  obtain ⟨⟨c,dct,dt,sl⟩,ht,hc,k,hd⟩:=hT
  cases (show c=.type "tuple" from hc)
  cases (show dt=.seq its k from hd)
  refine callType_new F.called_enumerate (by decide) (F.typeCall_enumerate_1 _) (F.newCall_enumerate_1 _) (fun obj=>F.args_object_init_2 obj _) F.entry_enumerate_new (Zsd tp its k dct sl) ⟨ht,?_⟩
  have hz:(s.heap.push { cls:=.type "tuple_iterator",data:=.fields #[.ref tp,.int 0 0] }).objs.size=s.heap.objs.size+1:=Heap.size_push ..
  show _∧_
  rw [hz]
  have he:IsEnum ((s.heap.push { cls:=.type "tuple_iterator",data:=.fields #[.ref tp,.int 0 0] }).push { cls:=.type "enumerate",data:=.fields #[.none,.bool false,.ref s.heap.objs.size,rawInt 0,.none,.none] }) (s.heap.objs.size+1) s.heap.objs.size 0 .none:=by
    have q:=Heap.get?_push_size (s.heap.push { cls:=.type "tuple_iterator",data:=.fields #[.ref tp,.int 0 0] }) (o:={ cls:=.type "enumerate",data:=.fields #[.none,.bool false,.ref s.heap.objs.size,rawInt 0,.none,.none] }) rfl
    rw [hz] at q
    exact q
  exact ⟨⟨_,he,rfl⟩,h _ he ⟨_,Heap.get?_push_of_some _ (Heap.get?_push_size _ rfl),rfl,rfl⟩ (by rw [Heap.size_push,hz]) fun b o x=>Heap.get?_push_of_some _ (Heap.get?_push_of_some _ x)⟩
theorem ZlW {it tp:Addr} {i:Nat} {its} {x:Value} {Q:Value→Shared→Prop} (hit:s.heap.IsTupleIter it tp i) (ht:s.heap.IsTuple tp its) (hx:its[i]?=some x)
    (hQ:∀h',h'.IsTupleIter it tp (i+1)→Heap.SameBut it s.heap h'→Q x { s with heap:=h' }):wpAny (model prog w) A (Builtin.SmallTypes.nextOf (.ref it)) Q E s:=by
  obtain ⟨o,ho,hc,hd⟩:=id hit
  obtain ⟨ol,hol,_,nl,hdl⟩:=ht
  unfold Builtin.SmallTypes.nextOf
  refine wpAny_bind (wpAny_callSpecial?_slot (name:=Str.ofString "__next__") hit.typeIs F.slot_tuple_iterator_next (wpAny_call_entry F.slot_tuple_iterator_next hit.typeIs F.entry_tuple_iterator_next ?_ (F.args_tuple_iterator_next_1 _)))
  show wpAny _ _ (field (.ref it) 0 >>= _) _ _ s
  refine wpAny_bind (wpAny_field ho hd (x:=.ref tp) rfl ?_)
  rw [if_neg (show ¬((Value.ref tp == Value.none)=true) from Bool.false_ne_true)]
  refine wpAny_bind (wpAny_field ho hd (x:=.int i 0) rfl (wpAny_bind (wpAny_seqItems hol hdl ?_)))
  simp only [Int.toNat_natCast,hx]
  refine wpAny_bind (wpAny_setField ho hd (by simp) (wpAny_pure ⟨x,rfl,wpAny_pure (hQ _ ⟨_,Heap.get?_update_self _ ho (Obj.isFreed_of_fields (Obj.data_mapFields hd _)),(Obj.cls_mapFields ..).trans hc,?_⟩ (Heap.SameBut.update ..))⟩))
  rw [Obj.data_mapFields hd]
  simp [rawInt]
theorem Znw {it tp:Addr} {i:Nat} {its} {Q:Value→Shared→Prop} (hh:A.handled=none) (hit:s.heap.IsTupleIter it tp i) (ht:s.heap.IsTuple tp its) (hx:its[i]?=none)
    (hE:∀h' e,Heap.ExtBut it s.heap h'→(∃o,h'.get? e=some o∧o.cls=.type "StopIteration")→E (.ref e) { s with heap:=h' }):wpAny (model prog w) A (Builtin.SmallTypes.nextOf (.ref it)) Q E s:=by
  obtain ⟨o,ho,hc,hd⟩:=id hit
  obtain ⟨ol,hol,_,nl,hdl⟩:=ht
  unfold Builtin.SmallTypes.nextOf
  refine wpAny_bind (wpAny_callSpecial?_slot (name:=Str.ofString "__next__") hit.typeIs F.slot_tuple_iterator_next (wpAny_call_entry F.slot_tuple_iterator_next hit.typeIs F.entry_tuple_iterator_next ?_ (F.args_tuple_iterator_next_1 _)))
  show wpAny _ _ (field (.ref it) 0 >>= _) _ _ s
  refine wpAny_bind (wpAny_field ho hd (x:=.ref tp) rfl ?_)
  rw [if_neg (show ¬((Value.ref tp == Value.none)=true) from Bool.false_ne_true)]
  refine wpAny_bind (wpAny_field ho hd (x:=.int i 0) rfl (wpAny_bind (wpAny_seqItems hol hdl ?_)))
  simp only [Int.toNat_natCast,hx]
  refine wpAny_bind (wpAny_rule (wpAny_bind (wpAny_setField ho hd (by simp) ?_)))
  refine wpAny_bind (m:=newExc (.type "StopIteration") []) ?_
  simp only [newExc,newTuple]
  refine wpAny_bind (wpAny_newObj_type (wpAny_bind (m:=firstArgMember _ _) (wpAny_of_eq (a:=Value.none) (by first | rfl | (simp only [firstArgMember]; rfl)) (wpAny_newObj_type ?_ (by size_fits)))) (by size_fits))
  simp only [raiseNew]
  refine wpAny_bind (wpAny_handled ?_)
  rw [show A.in1.handled=none from hh]
  exact wpAny_bind (wpAny_pure (wpAny_throw (hE _ _ (((Heap.SameBut.update ..).extBut.push _).push _) ⟨_,Heap.get?_push_size _ rfl,rfl⟩)))
theorem ZqB {e it tp:Addr} {i:Nat} {its:Array Value} {x old:Value} {Q:Value→Shared→Prop} (he:IsEnum s.heap e it i old) (hit:s.heap.IsTupleIter it tp i) (ht:s.heap.IsTuple tp its) (hx:its[i]?=some x) (hne:e≠it)
    (hQ:∀h',IsEnumOut h' e it ((i:Int)+1) x s.heap.objs.size→h'.IsTupleIter it tp (i+1)→h'.get? s.heap.objs.size=some { cls:=.type "tuple",data:=.seq #[.int i s.toks,x] }→h'.objs.size=s.heap.objs.size+1→(∀b o,b≠e→b≠it→s.heap.get? b=some o→h'.get? b=some o)→Q (.ref s.heap.objs.size) { s with heap:=h',toks:=s.toks+1 }) :
    wpAny (model prog w) A (Builtin.«enumerate.__next__» ⟨[.ref e],[]⟩) (fun fin s'=>∃v,fin=.done (.ret v)∧Q v s') E s:=by
  obtain ⟨hp,g,d,tk,os⟩:=s
  show wpAny _ _ (field (.ref e) 2 >>= _) _ _ _
  refine wpAny_bind (wpAny_field he rfl (x:=.ref it) rfl (wpAny_bind (ZlW hit ht hx fun h1 hit1 hs1=>?_)))
  replace hs1:Heap.SameBut it hp h1:=hs1
  have he1:IsEnum h1 e it i old:=(hs1.2 e hne).trans he
  refine wpAny_bind (wpAny_field (s:=⟨h1,g,d,tk,os⟩) he1 rfl (x:=rawInt i) rfl ?_)
  refine wpAny_bind (wpAny_field (s:=⟨h1,g,d,tk,os⟩) he1 rfl (x:=.none) rfl ?_)
  show wpAny _ _ (mkInt i >>= _) _ _ ⟨h1,g,d,tk,os⟩
  refine wpAny_bind (wpAny_mkInt ?_)
  show wpAny _ _ (setField (.ref e) 3 (rawInt ((i:Int)+1)) >>= _) _ _ ⟨h1,g,d,tk+1,os⟩
  refine wpAny_bind (wpAny_setField_rec he1 (by simp) fun h2 he2 hs2=>?_)
  replace hs2:Heap.SameBut e h1 h2:=hs2
  replace he2:IsEnum h2 e it ((i:Int)+1) old:=he2
  show wpAny _ _ (setField (.ref e) 4 .none >>= _) _ _ ⟨h2,g,d,tk+1,os⟩
  refine wpAny_bind (wpAny_setField_rec he2 (by simp) fun h3 he3 hs3=>?_)
  replace hs3:Heap.SameBut e h2 h3:=hs3
  replace he3:IsEnum h3 e it ((i:Int)+1) old:=he3
  show wpAny _ _ (newTuple [.int i tk,x] >>= _) _ _ ⟨h3,g,d,tk+1,os⟩
  refine wpAny_bind (wpAny_newTuple ?_)
  have he4:IsEnum (h3.push { cls:=.type "tuple",data:=.seq #[.int i tk,x] }) e it ((i:Int)+1) old:=Heap.get?_push_of_some _ he3
  obtain ⟨h4,hh4⟩:∃z,z=h3.push { cls:=.type "tuple",data:=.seq #[.int i tk,x] }:=⟨_,rfl⟩
  rw [←hh4] at he4
  have hsz:h3.objs.size=hp.objs.size:=by rw [hs3.1,hs2.1,hs1.1]
  have hel:hp.objs.size≠e:=Nat.ne_of_gt (Heap.lt_size he)
  have ht4:h4.get? hp.objs.size=some { cls:=.type "tuple",data:=.seq #[.int i tk,x] }:=by rw [hh4,←hsz]; exact Heap.get?_push_size _ rfl
  have hz4:h4.objs.size=hp.objs.size+1:=by rw [hh4,Heap.size_push,hsz]
  have hk4:∀b o,b≠e→b≠it→hp.get? b=some o→h4.get? b=some o:=fun b o q1 q2 q3=>by
    rw [hh4]
    exact Heap.get?_push_of_some _ (hs3.extBut b o q1 (hs2.extBut b o q1 (hs1.extBut b o q2 q3)))
  have hit4:h4.IsTupleIter it tp (i+1):=by
    obtain ⟨o,ho,r⟩:=(hit1.extBut hs2.extBut (Ne.symm hne)).extBut hs3.extBut (Ne.symm hne)
    exact ⟨o,by rw [hh4]; exact Heap.get?_push_of_some _ ho,r⟩
  show wpAny _ _ (Builtin.SmallTypes.ownedTupleIsFree (.ref e) >>= _) _ _ ⟨h3.push { cls:=.type "tuple",data:=.seq #[.int i tk,x] },g,d,tk+1,os⟩
  rw [←hh4,hsz]
  refine wpAny_bind ?_
  unfold Builtin.SmallTypes.ownedTupleIsFree
  refine wpAny_bind (wpAny_field he4 rfl (x:=.none) rfl (wpAny_pure ?_))
  simp only [if_true]
  refine wpAny_bind (wpAny_rule (wpAny_bind (wpAny_field he4 rfl (x:=old) rfl (wpAny_bind (wpAny_setField_rec he4 (by simp) fun h5 he5 hs5=>?_)))))
  replace hs5:Heap.SameBut e h4 h5:=hs5
  replace he5:IsEnum h5 e it ((i:Int)+1) x:=he5
  refine wpAny_bind (m:=Builtin.SmallTypes.ownedTupleHandOut (.ref e) (.ref hp.objs.size)) ?_
  unfold Builtin.SmallTypes.ownedTupleHandOut
  refine wpAny_bind (wpAny_setField_rec he5 (by simp) fun h6 he6 hs6=>?_)
  replace hs6:Heap.SameBut e h5 h6:=hs6
  replace he6:IsEnumOut h6 e it ((i:Int)+1) x hp.objs.size:=he6
  refine wpAny_setField_rec he6 (by simp) fun h7 he7 hs7=>?_
  replace hs7:Heap.SameBut e h6 h7:=hs7
  replace he7:IsEnumOut h7 e it ((i:Int)+1) x hp.objs.size:=he7
  have up:∀b o,b≠e→h4.get? b=some o→h7.get? b=some o:=fun b o q1 q2=>hs7.extBut b o q1 (hs6.extBut b o q1 (hs5.extBut b o q1 q2))
  refine wpAny_bind (wpAny_letGo (wpAny_pure ⟨_,rfl,hQ h7 he7 ?_ (up _ _ hel ht4) (by rw [hs7.1,hs6.1,hs5.1,hz4]) fun b o q1 q2 q3=>up b o q1 (hk4 b o q1 q2 q3)⟩))
  obtain ⟨o,ho,r⟩:=hit4
  exact ⟨o,up _ _ (Ne.symm hne) ho,r⟩
theorem ZqC {e it tp:Addr} {i:Nat} {its:Array Value} {x old:Value} {Q:Option Value→Shared→Prop} (he:IsEnum s.heap e it i old) (hit:s.heap.IsTupleIter it tp i) (ht:s.heap.IsTuple tp its) (hx:its[i]?=some x) (hne:e≠it)
    (hQ:∀h',IsEnumOut h' e it ((i:Int)+1) x s.heap.objs.size→h'.IsTupleIter it tp (i+1)→h'.get? s.heap.objs.size=some { cls:=.type "tuple",data:=.seq #[.int i s.toks,x] }→h'.objs.size=s.heap.objs.size+1→(∀b o,b≠e→b≠it→s.heap.get? b=some o→h'.get? b=some o)→Q (some (.ref s.heap.objs.size)) { s with heap:=h',toks:=s.toks+1 }) :
    wpAny (model prog w) A (pyNext (.ref e)) Q E s:=by
  have hT:s.TypeIs (.ref e) "enumerate":=⟨_,he,rfl⟩
  unfold pyNext
  exact wpAny_bind (wpAny_attempt (wpAny_callSpecial?_slot (name:=Str.ofString "__next__") hT F.slot_enumerate_next (wpAny_call_entry F.slot_enumerate_next hT F.entry_enumerate_next (ZqB he hit ht hx hne fun h' a b c d k=>wpAny_pure (hQ h' a b c d k)) (F.args_enumerate_next_1 _))))
theorem Zse {e it tp:Addr} {i:Nat} {its:Array Value} {old:Value} {Q:Option Value→Shared→Prop} (hh:A.handled=none) (he:IsEnum s.heap e it i old) (hit:s.heap.IsTupleIter it tp i) (ht:s.heap.IsTuple tp its) (hx:its[i]?=none)
    (hQ:∀h',Heap.ExtBut it s.heap h'→Q none { s with heap:=h' }):wpAny (model prog w) A (pyNext (.ref e)) Q E s:=by
  have hT:s.TypeIs (.ref e) "enumerate":=⟨_,he,rfl⟩
  unfold pyNext
  refine wpAny_bind (wpAny_attempt (wpAny_callSpecial?_slot (name:=Str.ofString "__next__") hT F.slot_enumerate_next (wpAny_call_entry F.slot_enumerate_next hT F.entry_enumerate_next ?_ (F.args_enumerate_next_1 _))))
  show wpAny _ _ (field (.ref e) 2 >>= _) _ _ _
  refine wpAny_bind (wpAny_field he rfl (x:=.ref it) rfl (wpAny_bind (Znw hh hit ht hx fun h' x he' hx'=>?_)))
  obtain ⟨o,ho,hc⟩:=hx'
  exact wpAny_bind (wpAny_isInstance (T:="StopIteration") (b:=true) ⟨o,ho,hc⟩ isSubtype_stop (wpAny_pure (hQ _ he')))
def Ite (K:PySem.W.Frag) (a:Addr):It:=
  ⟨fun i H=>∃xs x,SqT K H a xs∧xs[i]?=some x,fun i H x H'=>∃p v,x=.ref p∧H p=none∧H'=upd H p (.tup [.int i,v])∧∀xs,SqT K H a xs→xs[i]?=some v,fun i H=>∃xs,SqT K H a xs∧xs.length≤i⟩
theorem Zpk {P:Program} {w:World} {K:PySem.W.Frag} {es:List Expr} {x1} {pos:Pos} (a e it:Addr) (hne:e≠it) (ha:a≠e) (hb:a≠it):ZnQ P w K (.Tuple es x1 pos) (Ite K a) [e,it] e (fun i h=>(∃old,IsEnum h e it i old)∧h.IsTupleIter it a i) where
  mem:=by simp
  obj:=fun i h st b hb=>by
    obtain ⟨⟨old,st1⟩,o,e1,c,d⟩:=st
    have q:b=e∨b=it:=by simpa using hb
    rcases q with rfl | rfl
    · exact ⟨_,st1,fun v z=>by
        have z':Data.fields _=Data.cell v:=z
        cases z'⟩
    · exact ⟨o,e1,fun v z=>by rw [d] at z; cases z⟩
  keep:=fun i h h' st k=>by
    obtain ⟨⟨old,st1⟩,o,e1,r⟩:=st
    exact ⟨⟨old,k e (by simp) _ st1⟩,o,k it (by simp) o e1,r⟩
  item:=by
    intro X hP hw hK hc i pins s σ H E I hf st hg
    subst hP hw hK
    obtain ⟨⟨old,st1⟩,st2⟩:=st
    obtain ⟨xs,x,hq,hx⟩:=hg
    obtain ⟨its,rv,p,hz⟩:=I.tuple hq
    obtain ⟨u,hu,ru⟩:=rv.get hx
    obtain ⟨f0,f1,f2,f3,f4,f5⟩:=hf e (by simp)
    obtain ⟨g0,g1,g2,g3,g4,g5⟩:=hf it (by simp)
    refine ZqC st1 st2 (show s.heap.IsTuple a its.toArray from p) (x:=u) (by simpa using hu) hne fun h' out it' tp' sz' kk=>?_
    have hes:e<s.heap.objs.size:=Heap.lt_size st1
    have his:it<s.heap.objs.size:=by obtain ⟨o,q,_⟩:=st2; exact Heap.lt_size q
    refine ⟨_,rfl,wpAny_letOwnedTupleGo_enum out fun h2 e2 s2=>?_⟩
    replace s2:Heap.SameBut e h' h2:=s2
    have tp2:h2.get? s.heap.objs.size=some { cls:=.type "tuple",data:=.seq #[.int i s.toks,u] }:=s2.extBut _ _ (Nat.ne_of_gt hes) tp'
    have k2:∀b o,b≠e→b≠it→s.heap.get? b=some o→h2.get? b=some o:=fun b o q1 q2 q3=>s2.extBut b o q1 (kk b o q1 q2 q3)
    have hn:H s.heap.objs.size=none:=I.hok.fresh (Nat.le_refl _)
    have nn:∀{b:Addr} {o:HO},H b=some o→b≠s.heap.objs.size:=fun q=>zh q hn
    have nch:∀{b:Addr},b∉[e,it]→b≠e∧b≠it:=fun hb=>⟨fun z=>hb (by simp [z]),fun z=>hb (by simp [z])⟩
    have new:ObjOk X.prog X.w (upd H s.heap.objs.size (.tup [.int i,x])) h2 s.heap.objs.size (.tup [.int i,x]):=⟨by show 2≤sizeLine; decide,[.int i s.toks,u],.cons ⟨_,rfl⟩ (.cons ru .nil),⟨_,tp2,rfl,_,rfl⟩⟩
    have I1:Inv X pins σ (upd H s.heap.objs.size (.tup [.int i,x])) { s with heap:=h2,toks:=s.toks+1 }:=by
      refine I.step (g':=s.gens) (d':=s.drawn) (ch:=[e,it]) (fun b hb=>?_) (fun b o _ _ hc e' _=>k2 b o (nch hc).1 (nch hc).2 e') (fun b o _ _ hc e' _=>⟨o.slots,k2 b o (nch hc).1 (nch hc).2 e'⟩) (fun b o _ e' n=>by rw [ZP (Nat.ne_of_lt (Heap.lt_size e'))]; exact n)
        (fun b o hc e'=>⟨o,k2 b o (nch hc).1 (nch hc).2 e'⟩) (fun b _ q=>by rw [ZP (nn q)]; exact q) (fun b _ _ q=>by rw [ZP (nn q)]; exact q) (fun b ps q=>⟨#[],by rw [ZP (nn q),q]; simp⟩) (fun m hm=>?_) (fun b v q=>?_) I.bare
      · have z:b=e∨b=it:=by simpa using hb
        rcases z with rfl | rfl
        · exact ⟨f3,f1,f4,f5⟩
        · exact ⟨g3,g1,g4,g5⟩
      · obtain ⟨o,es,ep,ho,r⟩:=hm
        exact ⟨o,es,ep,k2 _ o (Ne.symm f1) (Ne.symm g1) ho,r⟩
      · by_cases hb:b=s.heap.objs.size
        · subst hb; rw [zE] at q; cases q; exact new
        · rw [ZP hb] at q
          refine (I.hok b v q).stay (fun c o hc z=>k2 c o ?_ ?_ z) (fun c z=>by rw [ZP (nn z)]; exact z) fun c _ z=>by rw [ZP (nn z)]; exact z
          · rcases hc with z | z
            · rw [z]; exact fun y=>by rw [y,f0] at q; cases q
            · exact fun y=>by rw [y,f0] at z; cases z
          · rcases hc with z | z
            · rw [z]; exact fun y=>by rw [y,g0] at q; cases q
            · exact fun y=>by rw [y,g0] at z; cases z
    refine ⟨.ref s.heap.objs.size,_,I1,rfl,⟨_,x,rfl,hn,rfl,fun ys hy=>by rw [I.tuple_inj hy hq]; exact hx⟩,⟨⟨_,by simpa using e2⟩,?_⟩,fun b hb=>?_⟩
    · obtain ⟨o,q,r⟩:=it'
      exact ⟨o,s2.extBut _ _ (Ne.symm hne) q,r⟩
    · have z:b=e∨b=it:=by simpa using hb
      rcases z with rfl | rfl
      · rw [ZP (Nat.ne_of_lt hes)]; exact f0
      · rw [ZP (Nat.ne_of_lt his)]; exact g0
  done:=by
    intro X hP hw hK hc i pins s σ H E I hf st hg
    subst hP hw hK
    obtain ⟨⟨old,st1⟩,st2⟩:=st
    obtain ⟨xs,hq,hx⟩:=hg
    obtain ⟨its,rv,p,hz⟩:=I.tuple hq
    obtain ⟨f0,f1,f2,f3,f4,f5⟩:=hf it (by simp)
    have hl:=rv.length
    exact Zse (I.ok.hd hc) st1 st2 (show s.heap.IsTuple a its.toArray from p) (by simp; omega) fun h' eb=>⟨rfl,I.turned (t':=s.toks) (fun b o hb e=>eb b o hb e) f0 f1 f3 f4 f5⟩
  self:=fun _ _ _ _ _ st h=>by
    obtain ⟨⟨old,st1⟩,_⟩:=st
    exact wpAny_pyIter_enum st1 h
end
end L2
namespace L2
open PySem PySem.Spec PyProof.Rows
section
variable {X:Cx}
def Zzp (K:PySem.W.Frag) (ta:TA):TI:=fun σ H R=>ta σ H fun vs H1=>∃a,vs=[.ref a]∧(∃xs,SqT K H1 a xs)∧R (Ite K a) H1
theorem ZtL {l:Expr} {ta:TA} {es:List Expr} {x1} {p pos tp:Pos} (hg:Gl X "enumerate") (hm:X.mg "enumerate"=none) (ha:PA X [l] ta) (hs:starEach [l] X.env=[(false,eval l X.env)]:=by rfl):PI X (.Tuple es x1 tp) (.Call (.Name "enumerate" p) [l] [] pos) (Zzp X.K ta):=by
  intro pins s σ H R I h
  refine Call_ (ZhJ I hg hm boot_enumerate (PyProof.Rows.callWith_type1 (thn (ha pos pins s σ H _ I h) fun us s1 ⟨vs,H1,I1,r1,q1⟩=>?_) hs rfl))
  obtain ⟨a,e,⟨xs,hq⟩,q⟩:=q1
  subst e
  obtain ⟨u,rfl,ru⟩:=Zfv r1
  cases ru
  obtain ⟨its,rv,t1,hz⟩:=I1.tuple hq
  have T1:s1.heap.IsTuple a its.toArray:=t1
  have al:a<s1.heap.objs.size:=by obtain ⟨o,z,_⟩:=T1; exact Heap.lt_size z
  refine ZqP T1 fun h' e' i' z' k'=>wpAny_pyIter_enum (s:={ s1 with heap:=h' }) e' ?_
  have I2:Inv X pins σ H1 { s1 with heap:=h' }:=I1.kept (t':=s1.toks) k'
  refine ⟨s1.heap.objs.size+1,[s1.heap.objs.size+1,s1.heap.objs.size],_,_,H1,rfl,I2,Zpk a _ _ (Nat.succ_ne_self _) (Nat.ne_of_lt (Nat.lt_succ_of_lt al)) (Nat.ne_of_lt al),⟨⟨_,e'⟩,i'⟩,fun b hb=>?_,q⟩
  have z:b=s1.heap.objs.size+1∨b=s1.heap.objs.size:=by simpa using hb
  have hb':s1.heap.objs.size≤b:=z.elim (fun y=>by rw [y]; exact Nat.le_succ _) fun y=>by rw [y]; exact Nat.le_refl _
  exact I1.fpOk hb' (I1.hok.fresh hb')
end
end L2
namespace L2.MM
open PySem PySem.Spec PyProof.Rows
section
variable {X:Cx}
def forE (i j:Nat) (body:SM):Nat→List D→SM
  | _,[]=>fun ρ θ=>.ok (.nx,ρ) θ
  | k,x::r=>fun ρ θ=>(body ((ρ.set i (.val (.int (k:Nat)))).set j (.val x)) θ).bind (Zfe (forE i j body (k+1) r))
def Zqk (fa:AM) (i j:Nat) (body:SM):SM:=fun ρ θ=>(fa ρ θ).bind fun ds θ=>match ds with
  | [.tup xs]=>forE i j body 0 xs ρ θ
  | _=>.bad
theorem ZrW {l:Expr} {body:List Stmt} {fa:AM} {fb:SM} {x y:Str} {x1} {p p1 p2 tp cp pos:Pos} (i j:Nat) (hN:X.N.Nodup) (hp:PassesOwn (model X.prog X.w) X.A X.env X.xe) (hm:X.mg "enumerate"=none) (ha:MA X [l] fa) (hb:MSs X body fb) (hc:X.calm=true:=by rfl)
    (hg:Gl X "enumerate":=by rfl) (hs:starEach [l] X.env=[(false,eval l X.env)]:=by rfl)
    (hi:X.N[i]?=some x:=by rfl) (hx:Loc X.env.scope x:=by first | exact Or.inl rfl | exact Or.inr rfl) (hf:X.fn x=true∨X.env.scope.names.lookup x=some .local:=by first | exact .inl rfl | exact .inr rfl)
    (hj:X.N[j]?=some y:=by rfl) (hy:Loc X.env.scope y:=by first | exact Or.inl rfl | exact Or.inr rfl) (hf':X.fn y=true∨X.env.scope.names.lookup y=some .local:=by first | exact .inl rfl | exact .inr rfl)
    (hse:∀z,foldedSetIterable (.Call (.Name "enumerate" p) [l] [] cp) X.env z=pure z:=by intro _; rfl)
    (ha1:(assignEach [.Name x p1,.Name y p2] X.env).map (·.2)=assign (.Name x p1) X.env::(assignEach [.Name y p2] X.env).map (·.2):=by rfl) (ha2:(assignEach [.Name y p2] X.env).map (·.2)=assign (.Name y p2) X.env::(assignEach [] X.env).map (·.2):=by rfl)
    (hn:(assignEach [.Name x p1,.Name y p2] X.env).length=2:=by rfl) (hst:(assignEach [.Name x p1,.Name y p2] X.env).findIdx? (·.1)=none:=by rfl) :
    MS X (.For (.Tuple [.Name x p1,.Name y p2] x1 tp) (.Call (.Name "enumerate" p) [l] [] cp) body [] pos) (Zqk fa i j fb):=
  PS.imp (ZpJ hp hc (ZtL hg hm ha hs) (ZtM hc (Zk5 (ZfE hN hi hx hf) (Zk5 (ZfE hN hj hy hf') ZrH ha2) ha1) hn hst) hb hse) fun Dn σ H h=>by
  obtain ⟨B,θ,ρ,F,w⟩:=h
  refine ZbP (Zpv F w) ?_
  rintro vs H1 ⟨B1,θ1,ds,E1,F1,rd,w1⟩
  split at w1
  · rename_i xs
    obtain ⟨v,rfl,rv⟩:=rd.one
    obtain ⟨a,us,rfl,g1,okA,ru⟩:=rv
    refine ⟨a,rfl,⟨us,SqT.of g1⟩,fun k m σ H=>∃B θ ρ,Frm X.cl B θ ρ σ H∧RepV B H (.tup xs) (.ref a)∧m=xs.length-k∧k≤xs.length∧wpS X σ B H (forE i j fb k (xs.drop k) ρ θ) Dn,⟨xs.length,B1,θ1,ρ,F1,⟨a,us,rfl,g1,okA,ru⟩,rfl,Nat.zero_le _,w1⟩,?_⟩
    rintro k m σ2 H2 ⟨B2,θ2,ρ2,F2,rv2,rfl,hk,w2⟩
    obtain ⟨a',us2,e2,g2,ok2,ru2⟩:=id rv2
    cases e2
    by_cases hlt:k<xs.length
    · rw [List.drop_eq_getElem_cons hlt] at w2
      unfold forE at w2
      obtain ⟨v,q1,q2⟩:=ru2.get (List.getElem?_eq_getElem hlt)
      refine .inr ⟨⟨us2,v,SqT.of g2,q1⟩,fun σ' H'=>∃B' θ' ρ',ExtS B2 B' H2 H'∧Frm X.cl B' θ' ρ' σ' H'∧wpS X σ' B' H' (forE i j fb (k+1) (xs.drop (k+1)) ρ' θ') Dn,?_,fun z H' hz=>?_⟩
      · rintro σ' H' ⟨B',θ',ρ',E',F',w'⟩
        exact ⟨xs.length-(k+1),by omega,B',θ',ρ',F',rv2.ext E',rfl,hlt,w'⟩
      · obtain ⟨t,v',rfl,ht,rfl,hv⟩:=hz
        have:=hv us2 (SqT.of g2)
        rw [q1] at this
        cases this
        have E3:=ZcN F2.good ht (.tup [.int k,v])
        have F3:=F2.ext E3 (ZeI F2.good ht (.tup [.int k,v]))
        refine ⟨t,[.int k,v],rfl,SqT.of zE,rfl,.int k,[v],rfl,v,[],rfl,rfl,?_⟩
        have F4:=(F3.set i (d:=.int (k:Nat)) (v:=.int k) rfl).set j (q2.ext E3.toExtS)
        refine ⟨B2,θ2,_,F4,?_⟩
        exact wpS.trans (wpS.loop w2) E3.toExtS
    · have e:k=xs.length:=by omega
      subst e
      rw [List.drop_length] at w2
      unfold forE at w2
      exact .inl ⟨⟨us2,SqT.of g2,by rw [ru2.len]; exact Nat.le_refl _⟩,ZdS F2 w2⟩
  · exact w1.elim
end
end L2.MM
set_option Elab.async false
set_option linter.all false
set_option maxRecDepth 100000
set_option maxHeartbeats 4000000
namespace L2
open PySem PySem.Spec PyProof.Rows
section
variable {X:Cx} {pins:List (Addr×Obj)} {σ:St} {H:Hp} {s:Shared} {a:Addr} {kvs:List (Key×V)} {k:Key} {z:V} {u r:Value} {A:Around} {E:Value→Shared→Prop}
theorem Zui {Q:Value→Shared→Prop} (I:Inv X pins σ H s) (e:H a=some (.dK kvs)) (ry:RelV (kV k) u) (rz:RelV z r) (hl:kvs.length<sizeLine)
    (h1:∀v w' s',valV kvs k=some v→Inv X pins σ H s'→RelV v w'→Q w' s') (h2:valV kvs k=none→∀s',Inv X pins σ (upd H a (.dK (Zeu kvs k z))) s'→Q r s'):wpAny (model X.prog X.w) A (call (.builtin "dict.setdefault") [.ref a,u,r]) Q E s:=by
  obtain ⟨z1,hd,vs,rel,dd⟩:=ZqI I.hok e
  have hv:vs.length≤sizeLine:=by rw [←rel.length]; exact z1
  refine call_meetsIn PySem.F.slot_dict_setdefault dd.typeIs PySem.F.entry_dict_setdefault (PySem.F.args_dict_setdefault_3 _ _ _) (kt_meets_setdefault (ZaF X.prog X.w) a (Zlk ry) hd r) ⟨vs,dd,hv,fun v q=>?_,fun q h' dd' hs=>?_⟩
  · cases l:valV kvs k with
    | none=>
      have:valueAt vs k=none:=RelO.none_of (by rw [←l]; exact rel.val k)
      rw [this] at q
      cases q
    | some v0=>
      obtain ⟨w1,hw,r1⟩:=RelO.some_of (v:=v0) (o:=valueAt vs k) (by rw [←l]; exact rel.val k)
      have z2:w1=v:=by rw [hw] at q; injection q
      subst z2
      exact h1 v0 w1 _ l (I.tok _) r1
  · have l:valV kvs k=none:=by
      cases l:valV kvs k with
      | none=>rfl
      | some v0=>
        obtain ⟨w',hw,rw'⟩:=RelO.some_of (v:=v0) (o:=valueAt vs k) (by rw [←l]; exact rel.val k)
        rw [hw] at q
        cases q
    have hl2:(Zeu kvs k z).length≤sizeLine:=by have:=Zlh kvs k z; omega
    have he:∃q,h'.get? a=some q:=let ⟨q,_,_,hq,_⟩:=dd'; ⟨q,hq⟩
    exact h2 l _ (Zjm I (by rw [e]; exact True.intro) hs he (Zmc hl2 hd (rel.put k rz) dd'))
end
def Ztr (td ty tx:TE):TE:=fun σ H Q=>td σ H fun x H1=>∃a,x=.ref a∧IsD H1 a∧ty σ H1 fun y H2=>tx σ H2 fun z H3=>∃kvs k,H3 a=some (.dK kvs)∧y=kV k∧kvs.length<sizeLine∧
  (∀v,valV kvs k=some v→Q v H3)∧(valV kvs k=none→Q z (upd H3 a (.dK (Zeu kvs k z))))
theorem ZpS {X:Cx} {o e f:Expr} {apos cpos:Pos} {td ty tx:TE} (ho:PE X o td) (he:PE X e ty) (hf:PE X f tx) (m:M2 X o "setdefault" apos e f cpos):PE X (.Call (.Attribute o "setdefault" apos) [e,f] [] cpos) (Ztr td ty tx):=by
  intro pins s σ H Q I h
  refine wpAny_Call_method m.base m.few m.line PySem.F.plainAttrs_dict PySem.F.slot_dict_setdefault PySem.F.type_dict_setdefault (thn (ho pins s σ H _ I h) fun u s1 ⟨x,H1,I1,rx,a,ex,d,q1⟩=>?_)
  subst ex
  cases (show u=Value.ref a from rx)
  obtain ⟨t1,t2,_⟩:=Zqp I1 d
  refine ⟨t1,t2,?_⟩
  rw [m.trees]
  refine Calls.callWith_builtin rfl (Calls.evalArgs_plain (Calls.spliced_cons (thn (he pins s1 σ H1 _ I1 q1) fun iv s2 ⟨y,H2,I2,ry,q2⟩=>Calls.spliced_cons (thn (hf pins s2 σ H2 _ I2 q2) fun fv s3 ⟨z,H3,I3,rz,kvs,k,ea,ey,hl,q3,q4⟩=>Calls.spliced_nil ?_))))
  subst ey
  exact Zui I3 ea ry rz hl (fun v w' s4 l I4 rw'=>⟨v,H3,I4,rw',q3 v l⟩) fun l s4 I4=>⟨z,_,I4,rz,q4 l⟩
end L2
namespace L2.MM
open PySem PySem.Spec PyProof.Rows
def valD (kvs:List (Key×D)) (k:Key):Option D:=(kvs.find? fun kv=>decide (kv.1=k)).map (·.2)
def putD (kvs:List (Key×D)) (k:Key) (v:D):List (Key×D):=
  if (kvs.any fun kv=>decide (kv.1=k))=true then kvs.map (fun kv=>if kv.1=k then (kv.1,v) else kv) else kvs++[(k,v)]
def dropD (kvs:List (Key×D)) (k:Key):List (Key×D):=kvs.filter fun kv=>decide (kv.1≠k)
def Zlj:D→Option Key
  | .int n=>some (.inl n)
  | .str x=>some (.inr x)
  | _=>none
def Zgt (θ:Sto):D→Option (Nat×List (Key×D))
  | .ref l=>match θ[l]? with
    | some (.dK kvs)=>some (l,kvs)
    | _=>none
  | _=>none
section
variable {B:Bx} {H:Hp}
theorem RepKV.valD (k:Key):∀{ks:List (Key×D)} {vs:List (Key×V)},RepKV B H ks vs→(L2.MM.valD ks k=Option.none∧valV vs k=Option.none)∨∃d v,L2.MM.valD ks k=some d∧valV vs k=some v∧RepV B H d v
  | _,_,.nil=>.inl ⟨rfl,rfl⟩
  | (k1,d1)::ks,(k2,v2)::vs,.cons ⟨h1,h2⟩ t=>by
    cases (show k1=k2 from h1)
    by_cases e:k1=k
    · refine .inr ⟨d1,v2,?_,?_,h2⟩<;>simp [L2.MM.valD,valV,List.find?_cons,e]
    · have:=RepKV.valD k t
      simpa [L2.MM.valD,valV,List.find?_cons,e] using this
theorem RepKV.any (k:Key):∀{ks:List (Key×D)} {vs:List (Key×V)},RepKV B H ks vs→(ks.any fun kv=>decide (kv.1=k))=(vs.any fun kv=>decide (kv.1=k))
  | _,_,.nil=>rfl
  | (k1,d1)::ks,(k2,v2)::vs,.cons ⟨h1,h2⟩ t=>by
    cases (show k1=k2 from h1)
    rw [List.any_cons,List.any_cons,RepKV.any k t]
theorem RepKV.snoc {k:Key} {d:D} {v:V} (r:RepV B H d v):∀{ks:List (Key×D)} {vs:List (Key×V)},RepKV B H ks vs→RepKV B H (ks++[(k,d)]) (vs++[(k,v)])
  | _,_,.nil=>.cons ⟨rfl,r⟩ .nil
  | _,_,.cons h t=>.cons h (RepKV.snoc r t)
theorem RepKV.over {k:Key} {d:D} {v:V} (r:RepV B H d v):∀{ks:List (Key×D)} {vs:List (Key×V)},RepKV B H ks vs→RepKV B H (ks.map fun kv=>if kv.1=k then (kv.1,d) else kv) (vs.map fun kv=>if kv.1=k then (kv.1,v) else kv)
  | _,_,.nil=>.nil
  | (k1,d1)::ks,(k2,v2)::vs,.cons ⟨h1,h2⟩ t=>by
    cases (show k1=k2 from h1)
    rw [List.map_cons,List.map_cons]
    refine .cons ?_ (RepKV.over r t)
    by_cases e:k1=k
    · rw [if_pos (show (k1,d1).1=k from e),if_pos (show (k1,v2).1=k from e)]; exact ⟨rfl,r⟩
    · rw [if_neg (show ¬(k1,d1).1=k from e),if_neg (show ¬(k1,v2).1=k from e)]; exact ⟨rfl,h2⟩
theorem RepKV.putD {k:Key} {d:D} {v:V} (r:RepV B H d v) {ks:List (Key×D)} {vs:List (Key×V)} (h:RepKV B H ks vs):RepKV B H (L2.MM.putD ks k d) (Zeu vs k v):=by
  unfold L2.MM.putD Zeu
  rw [h.any k]
  split
  · exact h.over r
  · exact h.snoc r
theorem RepKV.dropD (k:Key):∀{ks:List (Key×D)} {vs:List (Key×V)},RepKV B H ks vs→RepKV B H (L2.MM.dropD ks k) (Zfg vs k)
  | _,_,.nil=>.nil
  | (k1,d1)::ks,(k2,v2)::vs,.cons ⟨h1,h2⟩ t=>by
    cases (show k1=k2 from h1)
    have ih:=RepKV.dropD k t
    unfold L2.MM.dropD Zfg at ih ⊢
    by_cases e:k1=k
    · rw [List.filter_cons_of_neg (by simpa using e),List.filter_cons_of_neg (by simpa using e)]; exact ih
    · rw [List.filter_cons_of_pos (by simpa using e),List.filter_cons_of_pos (by simpa using e)]; exact .cons ⟨rfl,h2⟩ ih
theorem keyD_rep {d:D} {v:V} {k:Key} (r:RepV B H d v) (h:Zlj d=some k):v=kV k:=by
  cases d with
  | int n=>cases h; exact r
  | str x=>cases h; exact r
  | _=>cases h
theorem ZfX {cl:Mo} {θ:Sto} (G:Good cl B θ H) {d:D} {v:V} {l:Nat} {kvs:List (Key×D)} (r:RepV B H d v) (h:Zgt θ d=some (l,kvs)):l<B.n∧v=.ref (B.m l)∧∃vs,H (B.m l)=some (.dK vs)∧RepKV B H kvs vs:=by
  cases d with
  | ref k=>
    simp only [Zgt] at h
    split at h
    · rename_i kvs' e
      cases h
      obtain ⟨hl,rfl⟩:=r
      obtain ⟨vs,h1,h2⟩:=G.cel _ _ e
      exact ⟨hl,rfl,vs,h1,h2⟩
    · cases h
  | _=>cases h
end
section
variable {X:Cx}
theorem Zs7 {k:Nat} {A:Around} (hr:Room k A):A.units+1<cLine:=by have:=hr.un; omega
def Zql (fi fo:EM):EM:=fun ρ θ=>(fi ρ θ).bind fun y θ=>(fo ρ θ).bind fun d θ=>match Zlj y,Zgt θ d with
  | some k,some (_,kvs)=>.ok (.bl (valD kvs k).isSome) θ
  | _,_=>.bad
theorem Zsf {fi fo:EM} (σ:St) (H:Hp) (Q:VK) (h:tM X (Zql fi fo) σ H Q):Zvb (tM X fi) (tM X fo) σ H Q:=by
  obtain ⟨B,θ,ρ,F,w⟩:=h
  refine zc (step F w) ?_
  rintro y H1 ⟨B1,θ1,dy,E1,F1,ry,w1⟩
  refine zc (step F1 w1) ?_
  rintro v H2 ⟨B2,θ2,d,E2,F2,rd,w2⟩
  split at w2
  · rename_i k l kvs ek ed
    obtain ⟨hl,rfl,vs,h1,h2⟩:=ZfX F2.good rd ed
    cases keyD_rep ry ek
    refine ⟨_,valV vs k,rfl,DGet.k h1,?_⟩
    have e:(valD kvs k).isSome=(valV vs k).isSome:=by
      rcases h2.valD k with ⟨q1,q2⟩ | ⟨d,v,q1,q2,_⟩<;>(rw [q1,q2]; rfl)
    rw [←e]
    exact ZO (Rel:=RepV) F2.good (show RepV B2 H2 (.bl (valD kvs k).isSome) (.bl (valD kvs k).isSome) from rfl) w2
  · exact w2.elim
theorem Zt6 {i o:Expr} {fi fo:EM} {pos:Pos} {k:Nat} (hr:Room k X.A) (hi:ME X i fi) (ho:ME X o fo) (hm:behindInMarks .In o=false:=by rfl):MT X (.Compare i [.In] [o] pos) (ZF (Zql fi fo)):=by
  refine PT.imp (ZtF (ZtU (Zs7 hr) hi ho) hm) fun σ H Q h=>?_
  exact Zsf σ H _ (Zhu σ H Q h)
def ZmR (fo fe:EM):EM:=fun ρ θ=>(fo ρ θ).bind fun d θ=>match Zgt θ d with
  | none=>.bad
  | some _=>(fe ρ θ).bind fun y θ=>match Zlj y,Zgt θ d with
    | some k,some (l,kvs)=>match valD kvs k with
      | some v=>.ok v (θ.set l (.dK (dropD kvs k)))
      | none=>.bad
    | _,_=>.bad
theorem ZmP {o e:Expr} {fo fe:EM} {apos cpos:Pos} (ho:ME X o fo) (he:ME X e fe) (m:M1 X o "pop" apos e cpos):ME X (.Call (.Attribute o "pop" apos) [e] [] cpos) (ZmR fo fe):=by
  refine PE.imp (ZpT ho he m) fun σ H Q h=>?_
  obtain ⟨B,θ,ρ,F,w⟩:=h
  refine zc (step F w) ?_
  rintro v H1 ⟨B1,θ1,d,E1,F1,rd,w1⟩
  split at w1
  · exact w1.elim
  · rename_i q ed
    obtain ⟨l,kvs⟩:=q
    obtain ⟨hl,rfl,vs,h1,h2⟩:=ZfX F1.good rd ed
    refine ⟨_,rfl,.inl ⟨vs,.inl h1⟩,?_⟩
    refine zc (step F1 w1) ?_
    rintro y H2 ⟨B2,θ2,dy,E2,F2,ry,w2⟩
    split at w2
    · rename_i k l2 kvs2 ek ed2
      obtain ⟨hl2,e2,vs2,h3,h4⟩:=ZfX F2.good (rd.ext E2.toExtS) ed2
      cases keyD_rep ry ek
      have e3:B1.m l=B2.m l2:=by injection e2
      rw [e3]
      rcases h4.valD k with ⟨q1,q2⟩ | ⟨dv,v,q1,q2,rv⟩
      · rw [q1] at w2; exact w2.elim
      · rw [q1] at w2
        refine ⟨vs2,k,v,h3,rfl,q2,?_⟩
        have E3:=Zhi F2.good hl2 (.dK (Zfg vs2 k))
        have G3:=ZhO F2.good hl2 (o:=.dK (Zfg vs2 k)) (c:=.dK (dropD kvs2 k)) ⟨_,zE,(h4.dropD k).ext E3.toExtS⟩
        exact w2 _ _ _ E3 G3 (rv.ext E3.toExtS)
    · exact w2.elim
def Zl4 (fo fe ff:EM):EM:=fun ρ θ=>(fo ρ θ).bind fun d θ=>match Zgt θ d with
  | none=>.bad
  | some _=>(fe ρ θ).bind fun y θ=>(ff ρ θ).bind fun z θ=>match Zlj y,Zgt θ d with
    | some k,some (l,kvs)=>if kvs.length<BIG then (match valD kvs k with
      | some v=>.ok v θ
      | none=>.ok z (θ.set l (.dK (putD kvs k z)))) else .bad
    | _,_=>.bad
theorem Zqh {o e f:Expr} {fo fe ff:EM} {apos cpos:Pos} (ho:ME X o fo) (he:ME X e fe) (hf:ME X f ff) (m:M2 X o "setdefault" apos e f cpos):ME X (.Call (.Attribute o "setdefault" apos) [e,f] [] cpos) (Zl4 fo fe ff):=by
  refine PE.imp (ZpS ho he hf m) fun σ H Q h=>?_
  obtain ⟨B,θ,ρ,F,w⟩:=h
  refine zc (step F w) ?_
  rintro v H1 ⟨B1,θ1,d,E1,F1,rd,w1⟩
  split at w1
  · exact w1.elim
  · rename_i q ed
    obtain ⟨l,kvs⟩:=q
    obtain ⟨hl,rfl,vs,h1,h2⟩:=ZfX F1.good rd ed
    refine ⟨_,rfl,.inl ⟨vs,.inl h1⟩,?_⟩
    refine zc (step F1 w1) ?_
    rintro y H2 ⟨B2,θ2,dy,E2,F2,ry,w2⟩
    refine zc (step F2 w2) ?_
    rintro z H3 ⟨B3,θ3,dz,E3,F3,rz,w3⟩
    split at w3
    · rename_i k l2 kvs2 ek ed2
      obtain ⟨hl2,e2,vs2,h3,h4⟩:=ZfX F3.good ((rd.ext E2.toExtS).ext E3.toExtS) ed2
      cases keyD_rep ry ek
      have e3:B1.m l=B3.m l2:=by injection e2
      rw [e3]
      split at w3
      · rename_i hb
        refine ⟨vs2,k,h3,rfl,?_,fun v hv=>?_,fun hn=>?_⟩
        · have:=Zar (n:=kvs2.length+1) hb
          rw [RepKV.len h4]; omega
        · rcases h4.valD k with ⟨q1,q2⟩ | ⟨dv,v',q1,q2,rv⟩
          · rw [q2] at hv; cases hv
          · rw [q2] at hv; cases hv
            rw [q1] at w3
            exact ZO (Rel:=RepV) F3.good rv w3
        · rcases h4.valD k with ⟨q1,q2⟩ | ⟨dv,v',q1,q2,rv⟩
          · rw [q1] at w3
            have E4:=Zhi F3.good hl2 (.dK (Zeu vs2 k z))
            have G4:=ZhO F3.good hl2 (o:=.dK (Zeu vs2 k z)) (c:=.dK (putD kvs2 k dz)) ⟨_,zE,(h4.putD rz).ext E4.toExtS⟩
            exact w3 _ _ _ E4 G4 (rz.ext E4.toExtS)
          · rw [q2] at hn; cases hn
      · exact w3.elim
    · exact w3.elim
end
end L2.MM
set_option Elab.async false
set_option linter.all false
set_option maxRecDepth 100000
set_option maxHeartbeats 4000000
namespace My
open PySem L2 L2.MM
noncomputable section
def Zf3:SM:=(Zcy (ZF (mOp gtM (Zd 1) (mC (.int 65535)))) (ZS 1 (mOp ZX (mOp Zaa (Zd 1) (mC (.int 65536))) (mOp Zfq (Zd 1) (mC (.int 65536))))) 200)
def Zh4:SM:=(Zp (ZS 1 (mOp ZX (mOp ZbT (mC (.int 256)) (mCB Zni (Zc (ZrZ (Zd 0) ZaV ZaV (Zby (mC (.int 2)))) Zk))) (mCB Zni (Zc (ZrZ (Zd 0) (Zby (mC (.int 1))) ZaV (Zby (mC (.int 2)))) Zk))))
  (Zp Zf3
  (ZJ (Zd 1))))
def Zc0:GM:=ZM 1 2 Zh4
def ZhW:SM:=(ZJ (mOp Zgc (mC (.int 65535)) (mCB Zc0 (Zc (Zd 0) Zk))))
def Zew:GM:=ZM 1 1 ZhW
def Zm7:SM:=(ZJ (ZfR (ZF (mOp neM (mOp Zv8 (Zd 0) (Zd 1)) (mC (.int 0)))) (mC (.int 1)) (mC (.int 0))))
def Zfc:GM:=ZM 2 2 Zm7
def Zh1:SM:=(Zp (ZS 1 (mOp ixM (Zd 0) (mC (.int 4))))
  (ZJ (mOp ZX (mOp ZX (mCB Zdc (Zc (mOp ixM (Zd 0) (mC (.int 7))) Zk)) (mCB Zfc (Zc (Zd 1) (Zc (mC (.int 2)) Zk)))) (mCB Zfc (Zc (Zd 1) (Zc (mC (.int 1)) Zk))))))
def Zcq:GM:=ZM 1 2 Zh1
def ZdN:SM:=(ZJ (mOp ZbT (mC (.int 16)) (mOp Zfq (Zd 0) (mC (.int 4)))))
def zP:GM:=ZM 1 1 ZdN
def Zfh:SM:=(ZJ (Zcr (Zc (mOp Zaa (mOp Zfq (Zd 0) (mC (.int 256))) (mC (.int 256))) (Zc (mOp Zaa (Zd 0) (mC (.int 256))) Zk))))
def zi:GM:=ZM 1 1 Zfh
def ZeV:SM:=(ZJ (mOp ZX (mCB zi (Zc (mOp Zfq (Zd 0) (mC (.int 65536))) Zk)) (mCB zi (Zc (Zd 0) Zk))))
def Zbl:GM:=ZM 1 1 ZeV
def Zb3:SM:=(Zp (ZS 1 (mOp ZX (mCB zi (Zc (mOp ixM (Zd 0) (mC (.int 0))) Zk)) (mCB zi (Zc (mOp ixM (Zd 0) (mC (.int 1))) Zk))))
  (Zp (ZS 2 (mOp ZX (mCB Zbl (Zc (mOp ixM (Zd 0) (mC (.int 2))) Zk)) (mCB Zbl (Zc (mOp ixM (Zd 0) (mC (.int 3))) Zk))))
  (Zp (ZS 3 (ZfR (ZF (mOp eqM (mOp ixM (Zd 0) (mC (.int 6))) (mC (.int 0)))) (mC (.int 20)) (mC (.int 24))))
  (ZJ (mOp ZX (mOp ZX (mOp ZX (Zd 1) (Zd 2)) (Zcr (Zc (mCB zP (Zc (Zd 3) Zk)) (Zc (mOp ixM (Zd 0) (mC (.int 4))) Zk)))) (mCB zi (Zc (mOp ixM (Zd 0) (mC (.int 5))) Zk)))))))
def zO:GM:=ZM 1 4 Zb3
def Zdp:SM:=(ZJ (ZfR (ZF (mOp eqM (Zd 0) (mC (.int 0)))) (Zcr Zk) (mOp ZX (Zcr (Zc (mC (.int 2)) (Zc (mC (.int 4)) Zk))) (mCB zi (Zc (Zd 0) Zk)))))
def ZaY:GM:=ZM 1 1 Zdp
def Zm6:SM:=(Zp (ZS 1 (mCB zO (Zc (Zd 0) Zk)))
  (Zp (ZS 2 (mOp ZX (mOp ZX (Zcr (Zc (mC (.int 0)) (Zc (mC (.int 0)) Zk))) (mCB ZaY (Zc (mOp ixM (Zd 0) (mC (.int 6))) Zk))) (mCB Zlg (Zc (mOp ixM (Zd 0) (mC (.int 7))) Zk))))
  (ZJ (mOp ZX (mOp ZX (Zd 1) (mCB zi (Zc (mCB Zew (Zc (mOp ZX (mOp ZX (Zd 1) (Zcr (Zc (mC (.int 0)) (Zc (mC (.int 0)) Zk)))) (Zd 2)) Zk)) Zk))) (Zd 2)))))
def Zk6:GM:=ZM 1 3 Zm6
def ZgS:SM:=(ZJ (mOp ZbT (mOp Zfq (mOp ixM (Zd 0) (mC (.int 12))) (mC (.int 16))) (mC (.int 4))))
def Zbk:GM:=ZM 1 1 ZgS
def ZhV:SM:=(ZJ (mOp ZX (mOp ZbT (mC (.int 256)) (mOp ixM (Zd 0) (Zd 1))) (mOp ixM (Zd 0) (mOp ZX (Zd 1) (mC (.int 1))))))
def Zab:GM:=ZM 2 2 ZhV
def Zb0:SM:=(ZJ (Zcs (mOp eqM (mCB Zfc (Zc (mOp ixM (Zd 0) (mC (.int 13))) (Zc (mC (.int 2)) Zk))) (mC (.int 1))) (Zcs (mOp eqM (mOp ixM (Zd 0) (mC (.int 20))) (mC (.int 2))) (Zcs (mOp eqM (mOp ixM (Zd 0) (mC (.int 21))) (mC (.int 4))) (mOp geM (mCB Zab (Zc (Zd 0) (Zc (mC (.int 22)) Zk))) (mC (.int 4)))))))
def zN:GM:=ZM 1 1 Zb0
def Zbn:SM:=(ZJ (Zcs (mOp geM (mCB Zdc (Zc (Zd 0) Zk)) (mC (.int 20))) (Zcs (mOp inM (mOp ixM (Zd 0) (mC (.int 12))) (zM (Zc (mCB zP (Zc (mC (.int 20)) Zk)) (Zc (mCB zP (Zc (mC (.int 24)) Zk)) Zk)))) (Zcs (mOp leM (mOp ixM (Zd 0) (mC (.int 13))) (mC (.int 31))) (Zcs (Zd4 leM leM (mC (.int 0)) (mOp Zgc (mCB Zdc (Zc (Zd 0) Zk)) (mCB Zbk (Zc (Zd 0) Zk))) (mC (.int 16))) (Zcs (mOp eqM (mCB Zab (Zc (Zd 0) (Zc (mC (.int 18)) Zk))) (mC (.int 0))) (Zcs (Znx (mOp eqM (mCB Zbk (Zc (Zd 0) Zk)) (mC (.int 20))) (mCB zN (Zc (Zd 0) Zk))) (mOp eqM (mCB Zc0 (Zc (Zd 0) Zk)) (mC (.int 65535))))))))))
def Zad:GM:=ZM 1 1 Zbn
def ZgT:SM:=(ZJ (mOp ZX (mOp ZbT (mC (.int 65536)) (mCB Zab (Zc (Zd 0) (Zc (Zd 1) Zk)))) (mCB Zab (Zc (Zd 0) (Zc (mOp ZX (Zd 1) (mC (.int 2))) Zk)))))
def ZcQ:GM:=ZM 2 2 ZgT
def Zgw:SM:=(mIf (Zd2 (zW (mCB Zad (Zc (Zd 0) Zk)))) Zr0 ZK)
def Zjr:SM:=(Zp Zgw
  (Zp (ZS 1 (mCB Zbk (Zc (Zd 0) Zk)))
  (Zp (ZS 2 (ZfR (ZF (mOp eqM (Zd 1) (mC (.int 24)))) (mCB Zab (Zc (Zd 0) (Zc (mC (.int 22)) Zk))) (mC (.int 0))))
  (Zp (ZS 3 (zM (Zc (mCB Zab (Zc (Zd 0) (Zc (mC (.int 0)) Zk))) (Zc (mCB Zab (Zc (Zd 0) (Zc (mC (.int 2)) Zk))) Zk))))
  (Zp (ZS 4 (zM (Zc (mCB ZcQ (Zc (Zd 0) (Zc (mC (.int 4)) Zk))) (Zc (mCB ZcQ (Zc (Zd 0) (Zc (mC (.int 8)) Zk))) Zk))))
  (ZJ (mOp ZX (mOp ZX (Zd 3) (Zd 4)) (zM (Zc (mOp ixM (Zd 0) (mC (.int 13))) (Zc (mCB Zab (Zc (Zd 0) (Zc (mC (.int 14)) Zk))) (Zc (Zd 2) (Zc (mCB Zfk (Zc (mSl (Zd 0) (Zby (Zd 1)) ZaV) Zk)) Zk))))))))))))
def Ziy:GM:=ZM 1 5 Zjr
def Zft:SM:=(mIf (zW (Zd 0)) (ZJ (mOp ixM (Zd 0) (mOp Zaa (Zd 1) (mCB Zdc (Zc (Zd 0) Zk))))) ZK)
def Zh9:SM:=(Zp Zft
  (ZJ (mC (.int 0))))
def Zgo:GM:=ZM 2 2 Zh9
def Zm9:SM:=(Zp (ZS 2 (mOp Zaa (mOp ZX (mCB Zgo (Zc (Zd 0) (Zc (Zd 1) Zk))) (mOp ZbT (mC (.int 104729)) (mOp ZX (Zd 1) (mC (.int 1))))) (mC (.int 4294967291))))
  (Zp (ZS 2 (mOp Zaa (mOp ZbT (Zd 2) (mC (.int 48271))) (mC (.int 4294967279))))
  (ZJ (mOp Zaa (mOp ZX (mOp ZbT (mOp Zfq (Zd 2) (mC (.int 64))) (mC (.int 69621))) (Zd 2)) (mC (.int 4294967231))))))
def zZ:GM:=ZM 2 3 Zm9
def Zm8:SM:=(ZJ (Zcr (Zc (mOp Zfq (Zd 0) (mC (.int 256))) (Zc (mOp Zaa (Zd 0) (mC (.int 256))) Zk))))
def Zei:GM:=ZM 1 1 Zm8
def Zf5:SM:=(Zgk (ZdG (Zc (mCB Zdc (Zc (Zd 0) Zk)) Zk)) (gNm 2) (ZS 1 (mOp ZX (Zd 1) (mOp ZbT (mOp ixM (Zd 0) (Zd 2)) (mOp ixM (Zcr (Zc (mC (.int 256)) (Zc (mC (.int 1)) Zk))) (mOp Zaa (Zd 2) (mC (.int 2))))))))
def Zf4:SM:=(Zcy (ZF (mOp gtM (Zd 1) (mC (.int 65535)))) (ZS 1 (mOp ZX (mOp Zaa (Zd 1) (mC (.int 65536))) (mOp Zfq (Zd 1) (mC (.int 65536))))) 200)
def Zh8:SM:=(Zp (ZS 1 (mC (.int 0)))
  (Zp Zf5
  (Zp Zf4
  (ZJ (Zd 1)))))
def Zct:GM:=ZM 1 3 Zh8
def ZeZ:SM:=(Zgk (mIn (mSl (Zd 0) (Zby (mC (.int 2))) (Zby (mC (.int 4))))) (gNm 2) (ZS 1 (mOp ZX (mOp ZX (Zd 1) (mCB Zei (Zc (mOp Zfq (Zd 2) (mC (.int 65536))) Zk))) (mCB Zei (Zc (mOp Zaa (Zd 2) (mC (.int 65536))) Zk)))))
def ZeY:SM:=(mIf (ZF (mOp gtM (mOp ixM (Zd 0) (mC (.int 6))) (mC (.int 0)))) (ZS 1 (mOp ZX (mOp ZX (Zd 1) (Zcr (Zc (mC (.int 2)) (Zc (mC (.int 4)) Zk)))) (mCB Zei (Zc (mOp ixM (Zd 0) (mC (.int 6))) Zk)))) ZK)
def ZgC:SM:=(Zp (ZS 1 (mOp ZX (mCB Zei (Zc (mOp ixM (Zd 0) (mC (.int 0))) Zk)) (mCB Zei (Zc (mOp ixM (Zd 0) (mC (.int 1))) Zk))))
  (Zp ZeZ
  (Zp (ZS 1 (mOp ZX (mOp ZX (mOp ZX (Zd 1) (Zcr (Zc (mOp ixM (Zcr (Zc (mC (.int 80)) (Zc (mC (.int 96)) Zk))) (mCB Zr3 (Zc (mOp gtM (mOp ixM (Zd 0) (mC (.int 6))) (mC (.int 0))) Zk))) (Zc (mOp ixM (Zd 0) (mC (.int 4))) Zk)))) (mCB Zei (Zc (mOp ixM (Zd 0) (mC (.int 5))) Zk))) (Zcr (Zc (mC (.int 0)) (Zc (mC (.int 0)) (Zc (mC (.int 0)) (Zc (mC (.int 0)) Zk)))))))
  (Zp ZeY
  (Zp (ZS 1 (mOp ZX (Zd 1) (mCB Zlg (Zc (mOp ixM (Zd 0) (mC (.int 7))) Zk))))
  (ZJ (mOp ZX (mOp ZX (mSl (Zd 1) ZaV (Zby (mC (.int 16)))) (mCB Zei (Zc (mOp Zgc (mC (.int 65535)) (mCB Zct (Zc (Zd 1) Zk))) Zk))) (mSl (Zd 1) (Zby (mC (.int 18))) ZaV))))))))
def ZbV:GM:=ZM 1 3 ZgC
end
end My
set_option Elab.async false
set_option linter.all false
set_option maxRecDepth 100000
set_option maxHeartbeats 4000000
namespace My
open PySem L2 L2.MM
noncomputable section
def cell (ns:List Int) (k:Int):Int:=if ns.length=0 then 0 else ns.getD (k % (ns.length:Int)).toNat 0
def mix (ns:List Int) (k:Int):Int:=
  ((cell ns k+104729*(k+1)) % 4294967291*48271 % 4294967279/64*69621+(cell ns k+104729*(k+1)) % 4294967291*48271 % 4294967279) % 4294967231
theorem ZlY (ns:List Int) (k:Int):0≤mix ns k∧mix ns k<4294967231:=by
  unfold mix; omega
theorem Zsm {ns:List Int} {k:Int} (h:0<ns.length):atI (ns.map D.int) (k % (ns.length:Int))=some (.int (cell ns k)):=by
  have a:=Int.emod_nonneg k (show (ns.length:Int)≠0 by omega)
  have b:=Int.emod_lt_of_pos k (show (0:Int)<ns.length by omega)
  have c:(k % (ns.length:Int))=(((k % (ns.length:Int)).toNat:Nat):Int):=by omega
  rw [c]
  refine Zhk ?_
  have d:(k % (ns.length:Int)).toNat<ns.length:=by omega
  rw [List.getElem?_map,List.getElem?_eq_getElem d]
  unfold cell
  rw [if_neg (by omega),List.getD_eq_getElem?_getD,List.getElem?_eq_getElem d]
  rfl
@[simp] theorem ZyP (ns:List Int) (k:Int) (θ:Sto):Zgo [.scr ns,.int k] θ=.ok (.int (cell ns k)) θ:=by
  by_cases h:ns.length=0
  · have:ns=[]:=List.eq_nil_of_length_eq_zero h
    subst this
    simp [Zgo,Zh9,Zft,cell]
  · have h1:ns.isEmpty=false:=by cases ns with
      | nil=>exact absurd rfl h
      | cons _ _=>rfl
    have h2:0<ns.length:=by omega
    simp [Zgo,Zh9,Zft,h1,h2,Zsm (k:=k) h2]
@[simp] theorem Zz0 (ns:List Int) (k:Int) (θ:Sto):zZ [.scr ns,.int k] θ=.ok (.int (mix ns k)) θ:=by
  simp [zZ,Zm9,Zeq,mix]
@[simp] theorem Zu1 (k:Int) (θ:Sto):Zei [.int k] θ=.ok (il [k/256,k % 256]) θ:=by
  simp [Zei,Zm8]
theorem Zhd {t:TMr} {body:SM} {n:Nat} {ρ:List Sl} {θ:Sto}:Zcy t body (n+1) ρ θ=(t ρ θ).bind fun k θ=>if k=true then (body ρ θ).bind (Zfe (Zcy t body n)) else .ok (.nx,ρ) θ:=rfl
abbrev ZsV:TMr:=ZF (mOp gtM (Zd 1) (mC (.int 65535)))
abbrev ZsW:SM:=ZS 1 (mOp ZX (mOp Zaa (Zd 1) (mC (.int 65536))) (mOp Zfq (Zd 1) (mC (.int 65536))))
theorem Zma (t:Int) (x:Sl) (r:List Sl) (θ:Sto):ZsV (x::.val (.int t)::r) θ=.ok (decide (65535<t)) θ:=by simp
theorem Zqy (t:Int) (x:Sl) (r:List Sl) (θ:Sto):ZsW (x::.val (.int t)::r) θ=.ok (.nx,x::.val (.int (t % 65536+t/65536))::r) θ:=by simp
theorem Zrl {t:Int} (n:Nat) (h0:0≤t) (h1:t<4294967296) (x:Sl) (r:List Sl) (θ:Sto):Zcy ZsV ZsW (n+3) (x::.val (.int t)::r) θ=.ok (.nx,x::.val (.int (ZaP t))::r) θ:=by
  rw [Zhd,Zma,R.bind_ok]
  by_cases c1:65535<t
  · have s1:=ZiN c1
    rw [if_pos (by simpa using c1),Zqy,R.bind_ok,Ze1]
    have hu:t % 65536+t/65536≤131070:=by omega
    generalize t % 65536+t/65536=u at s1 hu
    rw [Zhd,Zma,R.bind_ok]
    by_cases c2:65535<u
    · have s2:=ZiN c2
      rw [if_pos (by simpa using c2),Zqy,R.bind_ok,Ze1]
      have hv:u % 65536+u/65536≤65535:=by omega
      generalize u % 65536+u/65536=v at s2 hv
      rw [Zhd,Zma,R.bind_ok,if_neg (by simp; omega),←s1.1,←s2.1,Zfp s2.2.1 hv]
    · rw [if_neg (by simpa using c2),←s1.1,Zfp s1.2.1 (by omega)]
  · rw [if_neg (by simpa using c1),Zfp h0 (by omega)]
theorem Ziq {t:Int} (h0:0≤t) (h1:t<4294967296) (x:Sl) (r:List Sl) (θ:Sto):Zcy (ZF (mOp gtM (Zd 1) (mC (.int 65535)))) (ZS 1 (mOp ZX (mOp Zaa (Zd 1) (mC (.int 65536))) (mOp Zfq (Zd 1) (mC (.int 65536))))) 200 (x::.val (.int t)::r) θ=.ok (.nx,x::.val (.int (ZaP t))::r) θ:=Zrl 197 h0 h1 x r θ
def Byt (ns:List Int):Prop:=(∀z∈ns,0≤z∧z≤255)∧ns.length≤1000
theorem Zmi:∀{ns:List Int} {m:Nat},(∀z∈ns,0≤z∧z≤255)→ns.length≤2*m→zu ns≤65535*m
  | [],m,_,_=>by simp [zu]; omega
  | [a],m,h,hl=>by
    have:=h a (by simp)
    simp [zu] at hl ⊢
    omega
  | a::b::r,m,h,hl=>by
    have h1:=h a (by simp)
    have h2:=h b (by simp)
    obtain ⟨m,rfl⟩:∃k,m=k+1:=⟨m-1,by simp at hl; omega⟩
    have:=Zmi (ns:=r) (m:=m) (fun z hz=>h z (by simp [hz])) (by simp at hl; omega)
    simp [zu]
    omega
theorem Byt.sum {ns:List Int} (h:Byt ns):0≤zu ns∧zu ns<4294967296:=by
  refine ⟨Zmh fun z hz=>(h.1 z hz).1,?_⟩
  have:=Zmi (m:=500) h.1 (by have:=h.2; omega)
  omega
theorem ZkU {ns:List Int} (h:Byt ns) (θ:Sto):Zc0 [il ns] θ=.ok (.int (ZaP (zu ns))) θ:=by
  have l1:=ZiO ns
  have l2:=Zk7 ns
  have l3:=h.2
  have hs:=h.sum
  have e:=Zmj ns
  simp [Zc0,Zh4,Zf3,Zgf,Zeq,show (Zej ns).length≤100000 by omega,show (ZhA ns).length≤100000 by omega,e]
  rw [Ziq hs.1 hs.2]
  simp
theorem Zpm {ns:List Int} (h:Byt ns) (θ:Sto):Zew [il ns] θ=.ok (.int (65535-ZaP (zu ns))) θ:=by
  simp [Zew,ZhW,ZkU h]
theorem Zim {ns:List Int} (h:Byt ns) (θ:Sto):Zct [il ns] θ=.ok (.int (ZaP (zu ns))) θ:=by
  have hs:=h.sum
  have l3:=h.2
  let st:Nat→List Sl:=fun i=>[.val (il ns),.val (.int (wpre ns i)),if i=0 then .no else .val (.int ((i:Int)-1))]
  have loop:=Zsa (θ:=θ) (lo:=0) (n:=ns.length) (tg:=gNm 2) (body:=ZS 1 (mOp ZX (Zd 1) (mOp ZbT (mOp ixM (Zd 0) (Zd 2)) (mOp ixM (Zcr (Zc (mC (.int 256)) (Zc (mC (.int 1)) Zk))) (mOp Zaa (Zd 2) (mC (.int 2))))))) st ?_ (fun i hi=>⟨_,rfl⟩) rfl
  · have b1:(ns.length:Int)≤1000000:=by omega
    have b2 : -1000000≤(ns.length:Int):=by omega
    have b3:ns.length≤1000000:=by omega
    have l0:st 0=[.val (il ns),.val (.int 0),.no]:=rfl
    rw [l0] at loop
    simp [Zct,Zh8,Zf5,Zf4,Zgk,b1,b2,b3]
    simp at loop
    rw [loop]
    simp [st]
    rw [ZkQ,Ziq hs.1 hs.2]
    simp
  · intro i ρ1 hi e
    have e':ρ1=[.val (il ns),.val (.int (wpre ns i)),.val (.int (0+(i:Int)))]:=by
      simp [st] at e
      simp [←e]
    subst e'
    have g1:ixM (il ns) (.int (0+(i:Int))) θ=.ok (.int (ns.getD i 0)) θ:=by
      rw [Zci (by omega) (by omega)]
      simp [gt]
    have g2:ixM (il [256,1]) (.int ((0+(i:Int)) % 2)) θ=.ok (.int (if i % 2=0 then 256 else 1)) θ:=by
      rw [Zci (by omega) (by simp; omega)]
      by_cases q:i % 2=0
      · rw [show ((0+(i:Int)) % 2).toNat=0 by omega,if_pos q]; rfl
      · rw [show ((0+(i:Int)) % 2).toNat=1 by omega,if_neg q]; rfl
    have cm:Zeq (ns.getD i 0) (if i % 2=0 then 256 else 1):=.inr (by split<;>decide)
    simp only [ZuP,ZuQ,Zss,ZuR,Zpi,x_c,Zsu,List.getElem?_cons_succ,List.getElem?_cons_zero,R.bind_ok,g1]
    simp only [List.length_cons,List.length_nil,ZvZ,Zum,ZmD,if_pos (show (0:Int)<2 by decide),R.bind_ok,g2,Zqb,if_pos cm,Zq0,if_pos (show 0+1+1≤100000 by decide)]
    simp [st,wpre]
end
end My
set_option Elab.async false
set_option linter.all false
set_option maxRecDepth 100000
set_option maxHeartbeats 4000000
namespace My
open PySem L2 L2.MM
noncomputable section
structure Seg where
  src:Int
  goal:Int
  num:Int
  ans:Int
  flags:Int
  win:Int
  most:Int
  data:List Int
def Seg.d (s:Seg):D:=.tup [.int s.src,.int s.goal,.int s.num,.int s.ans,.int s.flags,.int s.win,.int s.most,itp s.data]
structure Seg.Ok (s:Seg):Prop where
  src:0≤s.src∧s.src≤65535
  goal:0≤s.goal∧s.goal≤65535
  num:0≤s.num∧s.num≤4294967295
  ans:0≤s.ans∧s.ans≤4294967295
  flags:0≤s.flags∧s.flags≤31
  win:0≤s.win∧s.win≤65535
  most:s.most=0∨(4≤s.most∧s.most≤65535∧s.flags/2 % 2=1)
  data:(∀z∈s.data,0≤z∧z≤255)∧s.data.length≤16
section
variable {s:Seg} {θ:Sto}
@[simp] theorem d0:ixM s.d (.int 0) θ=.ok (.int s.src) θ:=nr rfl
@[simp] theorem d1:ixM s.d (.int 1) θ=.ok (.int s.goal) θ:=nr rfl
@[simp] theorem d2:ixM s.d (.int 2) θ=.ok (.int s.num) θ:=nr rfl
@[simp] theorem d3:ixM s.d (.int 3) θ=.ok (.int s.ans) θ:=nr rfl
@[simp] theorem d4:ixM s.d (.int 4) θ=.ok (.int s.flags) θ:=nr rfl
@[simp] theorem d5:ixM s.d (.int 5) θ=.ok (.int s.win) θ:=nr rfl
@[simp] theorem d6:ixM s.d (.int 6) θ=.ok (.int s.most) θ:=nr rfl
@[simp] theorem d7:ixM s.d (.int 7) θ=.ok (itp s.data) θ:=nr rfl
end
def two (k:Int):List Int:=[k/256 % 256,k % 256]
def Zls (k:Int):List Int:=two (k/65536)++two k
def hd (s:Seg):Int:=if s.most=0 then 80 else 96
def ZaT (s:Seg):List Int:=two s.src++two s.goal++(Zls s.num++Zls s.ans)++[hd s,s.flags]++two s.win
def ZcJ (m:Int):List Int:=if m=0 then [] else [2,4]++two m
def behind (s:Seg):List Int:=[0,0]++ZcJ s.most++s.data
def putL (s:Seg):List Int:=ZaT s++two (65535-ZaP (zu (ZaT s++[0,0]++behind s)))++behind s
@[simp] theorem Zsw (k:Int) (θ:Sto):zi [.int k] θ=.ok (il (two k)) θ:=by
  simp [zi,Zfh,two]
@[simp] theorem two_len (k:Int):(two k).length=2:=rfl
@[simp] theorem ZvX (k:Int):(Zls k).length=4:=rfl
@[simp] theorem ZuM (s:Seg):(ZaT s).length=16:=rfl
@[simp] theorem Zrk (k:Int) (θ:Sto):Zbl [.int k] θ=.ok (il (Zls k)) θ:=by
  simp [Zbl,ZeV,Zls]
@[simp] theorem Zps (k:Int) (θ:Sto):zP [.int k] θ=.ok (.int (16*(k/4))) θ:=by
  simp [zP,ZdN,Zeq]
@[simp] theorem ZnR (k:Int) (θ:Sto):ZaY [.int k] θ=.ok (il (ZcJ k)) θ:=by
  by_cases h:k=0<;>simp [ZaY,Zdp,ZcJ,h,ZcC]
@[simp] theorem Zwo (s:Seg) (θ:Sto):zO [s.d] θ=.ok (il (ZaT s)) θ:=by
  by_cases h:s.most=0<;>simp [zO,Zb3,ZaT,hd,h]
theorem ZiE (m:Int):(ZcJ m).length≤4:=by unfold ZcJ; split<;>simp
theorem Zd8 (k:Int):∀z∈two k,0≤z∧z≤255:=by
  intro z hz
  simp [two] at hz
  rcases hz with rfl | rfl<;>omega
theorem ZlD (k:Int):∀z∈Zls k,0≤z∧z≤255:=by
  intro z hz
  rcases List.mem_append.mp hz with h | h
  · exact Zd8 _ z h
  · exact Zd8 _ z h
theorem ZbA {a b:List Int} (h1:∀z∈a,0≤z∧z≤255) (h2:∀z∈b,0≤z∧z≤255):∀z∈a++b,0≤z∧z≤255:=fun z hz=>(List.mem_append.mp hz).elim (h1 z) (h2 z)
theorem ZiP {s:Seg} (h:0≤s.flags∧s.flags≤255):∀z∈ZaT s,0≤z∧z≤255:=by
  refine ZbA (ZbA (ZbA (ZbA (Zd8 _) (Zd8 _)) (ZbA (ZlD _) (ZlD _))) ?_) (Zd8 _)
  intro z hz
  simp at hz
  rcases hz with rfl | rfl
  · unfold hd; split<;>omega
  · exact h
theorem ZqS (m:Int):∀z∈ZcJ m,0≤z∧z≤255:=by
  unfold ZcJ
  split
  · intro z hz; simp at hz
  · refine ZbA ?_ (Zd8 _)
    intro z hz
    simp at hz
    omega
theorem ZhT {s:Seg} (h:∀z∈s.data,0≤z∧z≤255):∀z∈behind s,0≤z∧z≤255:=by
  refine ZbA (ZbA ?_ (ZqS _)) h
  intro z hz
  simp at hz
  omega
theorem Zd9 (s:Seg):(behind s).length≤6+s.data.length:=by
  have:=ZiE s.most
  simp [behind]
  omega
structure Seg.Put (s:Seg):Prop where
  flags:0≤s.flags∧s.flags≤255
  data:(∀z∈s.data,0≤z∧z≤255)∧s.data.length≤100
theorem Seg.Ok.put {s:Seg} (h:s.Ok):s.Put:=⟨⟨h.flags.1,by have:=h.flags.2; omega⟩,h.data.1,by have:=h.data.2; omega⟩
theorem Seg.Put.byt {s:Seg} (h:s.Put):Byt (ZaT s++[0,0]++behind s):=by
  refine ⟨ZbA (ZbA (ZiP h.flags) ?_) (ZhT h.data.1),?_⟩
  · intro z hz
    simp at hz
    omega
  · have:=Zd9 s
    have:=h.data.2
    simp
    omega
theorem Zu2 {s:Seg} (h:s.Put) (θ:Sto):Zk6 [s.d] θ=.ok (il (putL s)) θ:=by
  have b:=h.byt
  have l1:=ZiE s.most
  have l2:=h.data.2
  have l3:=Zd9 s
  have e1:0::0::(ZcJ s.most++s.data)=behind s:=rfl
  have e2:=Zpm b θ
  simp only [List.append_assoc,List.cons_append,List.nil_append] at e2
  simp (disch:=first | done | (simp; done) | omega | (simp; omega)) [Zk6,Zm6,Zji,-Zqs,e1,e2]
  simp [putL,show 18+(behind s).length≤100000 by omega]
theorem Zhl {a b c:List Int} (ha:a.length % 2=0) (hb:b.length % 2=0):zu (a++b++c)=zu a+zu b+zu c:=by
  rw [Zhm (by rw [List.length_append]; omega),Zhm ha]
theorem ZpD {s:Seg} (h:s.Put):ZaP (zu (putL s))=65535:=by
  have b:=h.byt
  have w0:=b.sum
  have e1:zu (putL s)=zu (ZaT s)+zu (two (65535-ZaP (zu (ZaT s++[0,0]++behind s))))+zu (behind s):=Zhl (by simp) (by simp)
  have e2:zu (ZaT s++[0,0]++behind s)=zu (ZaT s)+zu [0,0]+zu (behind s):=Zhl (by simp) (by simp)
  have e3:zu [0,0]=0:=by simp [zu]
  have f:=ZmX w0.1
  have e4:zu (two (65535-ZaP (zu (ZaT s++[0,0]++behind s))))=256*((65535-ZaP (zu (ZaT s++[0,0]++behind s)))/256)+(65535-ZaP (zu (ZaT s++[0,0]++behind s))) % 256:=by
    have:=f.2.1
    have:=f.1
    simp only [zu,two]
    omega
  have c:=Zl9 w0.1
  rw [e1,e4]
  rw [e3] at e2
  have:zu (ZaT s)+(256*((65535-ZaP (zu (ZaT s++[0,0]++behind s)))/256)+(65535-ZaP (zu (ZaT s++[0,0]++behind s))) % 256)+zu (behind s)=zu (ZaT s++[0,0]++behind s)+(256*((65535-ZaP (zu (ZaT s++[0,0]++behind s)))/256)+(65535-ZaP (zu (ZaT s++[0,0]++behind s))) % 256):=by omega
  rw [this]
  exact c
theorem Zmz {s:Seg} (h:s.Put):Byt (putL s):=by
  refine ⟨ZbA (ZbA (ZiP h.flags) (Zd8 _)) (ZhT h.data.1),?_⟩
  have:=Zd9 s
  have:=h.data.2
  simp [putL]
  omega
theorem Zmy {s:Seg}:(putL s).length=(if s.most=0 then 20 else 24)+s.data.length:=by
  unfold putL behind ZcJ
  by_cases h:s.most=0<;>simp [h]<;>omega
theorem ZlR (s:Seg):∃x y,putL s=[s.src/256 % 256,s.src % 256,s.goal/256 % 256,s.goal % 256,s.num/65536/256 % 256,s.num/65536 % 256,s.num/256 % 256,s.num % 256,
    s.ans/65536/256 % 256,s.ans/65536 % 256,s.ans/256 % 256,s.ans % 256,hd s,s.flags,s.win/256 % 256,s.win % 256,x,y,0,0]++(ZcJ s.most++s.data):=⟨_,_,rfl⟩
@[simp] theorem Zco {a:List Int} {i:Int} (h0:0≤i) (h:i+1<a.length) (θ:Sto):Zab [il a,.int i] θ=.ok (.int (256*gt a i.toNat+gt a (i+1).toNat)) θ:=by
  simp [Zab,ZhV,Zci (θ:=θ) h0 (show i<a.length by omega),Zci (θ:=θ) (show 0≤i+1 by omega) h,Zeq]
@[simp] theorem Zip {a:List Int} {i:Int} (h0:0≤i) (h:i+3<a.length) (θ:Sto):ZcQ [il a,.int i] θ=.ok (.int (65536*(256*gt a i.toNat+gt a (i+1).toNat)+(256*gt a (i+2).toNat+gt a (i+2+1).toNat))) θ:=by
  simp [ZcQ,ZgT,Zco (θ:=θ) h0 (show i+1<a.length by omega),Zco (θ:=θ) (show 0≤i+2 by omega) (show i+2+1<a.length by omega),Zeq]
@[simp] theorem Zin {a:List Int} (h:12<a.length) (θ:Sto):Zbk [il a] θ=.ok (.int (gt a 12/16*4)) θ:=by
  have:=Zci (a:=a) (θ:=θ) (i:=12) (by decide) (by omega)
  simp [Zbk,ZgS,this,Zeq]
def bit (f k:Int):Int:=if Builtin.bitAnd f k=0 then 0 else 1
@[simp] theorem Zz1 (f k:Int) (θ:Sto):Zfc [.int f,.int k] θ=.ok (.int (bit f k)) θ:=by
  by_cases h:Builtin.bitAnd f k=0<;>simp [Zfc,Zm7,bit,h]
theorem Zsk:∀n:Fin 32,bit (n.val:Int) 1=(n.val:Int) % 2∧bit (n.val:Int) 2=(n.val:Int)/2 % 2∧bit (n.val:Int) 4=(n.val:Int)/4 % 2∧bit (n.val:Int) 8=(n.val:Int)/8 % 2∧bit (n.val:Int) 16=(n.val:Int)/16 % 2:=by decide
theorem ZqU {f:Int} (h:0≤f∧f≤31):bit f 1=f % 2∧bit f 2=f/2 % 2∧bit f 4=f/4 % 2∧bit f 8=f/8 % 2∧bit f 16=f/16 % 2:=by
  have:=Zsk ⟨f.toNat,by omega⟩
  simp only at this
  rw [show ((f.toNat:Nat):Int)=f by omega] at this
  exact this
theorem Zpq (s:Seg) (θ:Sto):Zcq [s.d] θ=.ok (.int (s.data.length+bit s.flags 2+bit s.flags 1)) θ:=by
  simp [Zcq,Zh1]
def at2 (a:List Int) (i:Nat):Int:=256*gt a i+gt a (i+1)
def at4 (a:List Int) (i:Nat):Int:=65536*at2 a i+at2 a (i+2)
def longOk (a:List Int):Bool:=decide (bit (gt a 13) 2=1) && (decide (gt a 20=2) && (decide (gt a 21=4) && decide (4≤at2 a 22)))
def Zbg (a:List Int):Int:=gt a 12/16*4
def Zaq (a:List Int):Bool:=decide (20≤a.length) && (decide (gt a 12=80∨gt a 12=96) && (decide (gt a 13≤31) && (decide (0≤(a.length:Int)-Zbg a∧(a.length:Int)-Zbg a≤16) &&
  (decide (at2 a 18=0) && ((decide (Zbg a=20) || longOk a) && decide (ZaP (zu a)=65535))))))
theorem Zte {a:List Int} (h:24≤a.length) (θ:Sto):zN [il a] θ=.ok (.bl (longOk a)) θ:=by
  have g:=fun (i:Int) (h0:0≤i) (h1:i<a.length)=>Zci (a:=a) (θ:=θ) (i:=i) h0 h1
  have g13:=g 13 (by decide) (by omega)
  have g20:=g 20 (by decide) (by omega)
  have g21:=g 21 (by decide) (by omega)
  have g22:=Zco (a:=a) (i:=22) (by decide) (by omega) θ
  simp only [show (13:Int).toNat=13 from rfl,show (20:Int).toNat=20 from rfl,show (21:Int).toNat=21 from rfl,show (22:Int).toNat=22 from rfl,show (22+1:Int).toNat=23 from rfl] at g13 g20 g21 g22
  unfold longOk at2
  simp [zN,Zb0,g13,g20,g21,g22]
theorem Zr4 (x y z:Int) (θ:Sto):inM (.int x) (.tup [.int y,.int z]) θ=.ok (.bl (decide (x=y∨x=z))) θ:=by
  have e:inD θ (.int x) (.tup [.int y,.int z])=some (decide (y=x) || (decide (z=x) || false)):=rfl
  have e2:(decide (y=x) || (decide (z=x) || false))=decide (x=y∨x=z):=by
    rw [Bool.eq_iff_iff]
    simp only [Bool.or_eq_true,decide_eq_true_eq,Bool.false_eq_true,or_false]
    constructor
    · rintro (h | h)
      · exact .inl h.symm
      · exact .inr h.symm
    · rintro (h | h)
      · exact .inl h.symm
      · exact .inr h.symm
  unfold inM
  rw [e,e2]
theorem ZcT {a:List Int} (h:Byt a) (θ:Sto):Zad [il a] θ=.ok (.bl (Zaq a)) θ:=by
  by_cases c1:20≤a.length
  · have g:=fun (i:Int) (h0:0≤i) (h1:i<a.length)=>Zci (a:=a) (θ:=θ) (i:=i) h0 h1
    have g12:=g 12 (by decide) (by omega)
    have g13:=g 13 (by decide) (by omega)
    have g18:=Zco (a:=a) (i:=18) (by decide) (by omega) θ
    have gh:=Zin (a:=a) (by omega) θ
    have gf:=ZkU h θ
    have c1':(20:Int)≤a.length:=by omega
    simp only [show (12:Int).toNat=12 from rfl,show (13:Int).toNat=13 from rfl,show (18:Int).toNat=18 from rfl,show (18+1:Int).toNat=19 from rfl] at g12 g13 g18
    by_cases c2:gt a 12=80
    · rw [c2] at g12 gh
      simp [Zad,Zbn,Zaq,Zbg,at2,c1,c1',g12,g13,g18,gh,gf,Zr4,c2]<;>rfl
    · by_cases c3:gt a 12=96
      · rw [c3] at g12 gh
        by_cases c4:24≤a.length
        · have gl:=Zte c4 θ
          simp [Zad,Zbn,Zaq,Zbg,at2,c1,c1',g12,g13,g18,gh,gf,Zr4,c3,gl]<;>rfl
        · have c5:¬(24:Int)≤(a.length:Int):=by omega
          simp [Zad,Zbn,Zaq,Zbg,at2,c1,c1',g12,g13,g18,gh,gf,Zr4,c3,c5]<;>rfl
      · simp [Zad,Zbn,Zaq,Zbg,at2,c1,c1',g12,g13,g18,gh,gf,Zr4,c2,c3]
  · have c1':¬(20:Int)≤a.length:=by omega
    simp [Zad,Zbn,Zaq,c1,c1']
def Zbq (a:List Int):Seg:=⟨at2 a 0,at2 a 2,at4 a 4,at4 a 8,gt a 13,at2 a 14,if Zbg a=24 then at2 a 22 else 0,a.drop (Zbg a).toNat⟩
theorem ZgN {a:List Int} (h:Zaq a=true):20≤a.length∧((Zbg a=20)∨(Zbg a=24∧24≤a.length∧longOk a=true))∧(a.length:Int)-Zbg a≤16∧gt a 13≤31:=by
  unfold Zaq at h
  simp only [Bool.and_eq_true,decide_eq_true_eq,Bool.or_eq_true] at h
  obtain ⟨h1,h2,h3,h4,h5,h6,h7⟩:=h
  refine ⟨h1,?_,h4.2,h3⟩
  rcases h2 with h2 | h2
  · left; unfold Zbg; rw [h2]; rfl
  · right
    have e:Zbg a=24:=by unfold Zbg; rw [h2]; rfl
    refine ⟨e,by have:=h4.1; rw [e] at this; omega,?_⟩
    rcases h6 with h6 | h6
    · rw [e] at h6; cases h6
    · exact h6
theorem Zmn {a:List Int} (h:Byt a) (hr:Zaq a=true) (θ:Sto):Ziy [il a] θ=.ok (Zbq a).d θ:=by
  obtain ⟨l1,l2,l3,l4⟩:=ZgN hr
  have ir:=ZcT h θ
  rw [hr] at ir
  have gh:=Zin (a:=a) (by omega) θ
  have g13:=Zci (a:=a) (θ:=θ) (i:=13) (by decide) (by omega)
  have q0:=Zco (a:=a) (i:=0) (by decide) (by omega) θ
  have q2:=Zco (a:=a) (i:=2) (by decide) (by omega) θ
  have q14:=Zco (a:=a) (i:=14) (by decide) (by omega) θ
  have q4:=Zip (a:=a) (i:=4) (by decide) (by omega) θ
  have q8:=Zip (a:=a) (i:=8) (by decide) (by omega) θ
  simp only [show (13:Int).toNat=13 from rfl,show (0:Int).toNat=0 from rfl,show (0+1:Int).toNat=1 from rfl,show (2:Int).toNat=2 from rfl,show (2+1:Int).toNat=3 from rfl,show (14:Int).toNat=14 from rfl,show (14+1:Int).toNat=15 from rfl,
    show (4:Int).toNat=4 from rfl,show (4+1:Int).toNat=5 from rfl,show (4+2:Int).toNat=6 from rfl,show (4+2+1:Int).toNat=7 from rfl,show (8:Int).toNat=8 from rfl,show (8+1:Int).toNat=9 from rfl,show (8+2:Int).toNat=10 from rfl,show (8+2+1:Int).toNat=11 from rfl] at g13 q0 q2 q14 q4 q8
  have gh':Zbk [il a] θ=.ok (.int (Zbg a)) θ:=gh
  have ps:∀x:Int,0≤x→Za9 a (some x) none=a.drop x.toNat:=fun x hx=>ZbY a hx
  rcases l2 with e | ⟨e,l5,_⟩
  · simp [Ziy,Zjr,Zgw,ir,gh',e,g13,q0,q2,q4,q8,q14,ps,Zbq,Seg.d,at2,at4]
  · have q22:=Zco (a:=a) (i:=22) (by decide) (by omega) θ
    simp only [show (22:Int).toNat=22 from rfl,show (22+1:Int).toNat=23 from rfl] at q22
    simp [Ziy,Zjr,Zgw,ir,gh',e,g13,q0,q2,q4,q8,q14,q22,ps,Zbq,Seg.d,at2,at4]
end
end My
set_option Elab.async false
set_option linter.all false
set_option maxRecDepth 100000
set_option maxHeartbeats 4000000
namespace My
open PySem L2 L2.MM
noncomputable section
theorem ZpC (s:Seg):gt (putL s) 12=hd s∧gt (putL s) 13=s.flags∧at2 (putL s) 18=0∧at2 (putL s) 0=256*(s.src/256 % 256)+s.src % 256∧at2 (putL s) 2=256*(s.goal/256 % 256)+s.goal % 256∧
    at4 (putL s) 4=65536*(256*(s.num/65536/256 % 256)+s.num/65536 % 256)+(256*(s.num/256 % 256)+s.num % 256)∧at4 (putL s) 8=65536*(256*(s.ans/65536/256 % 256)+s.ans/65536 % 256)+(256*(s.ans/256 % 256)+s.ans % 256)∧
    at2 (putL s) 14=256*(s.win/256 % 256)+s.win % 256:=by
  obtain ⟨x,y,e⟩:=ZlR s
  rw [e]
  unfold at4 at2
  refine ⟨rfl,rfl,?_,rfl,rfl,rfl,rfl,rfl⟩
  show 256*(0:Int)+0=0
  rfl
theorem Zk4 (s:Seg) (h:s.most≠0):gt (putL s) 20=2∧gt (putL s) 21=4∧at2 (putL s) 22=256*(s.most/256 % 256)+s.most % 256:=by
  obtain ⟨x,y,e⟩:=ZlR s
  have e2:ZcJ s.most=[2,4,s.most/256 % 256,s.most % 256]:=by unfold ZcJ; rw [if_neg h]; rfl
  rw [e,e2]
  unfold at2
  exact ⟨rfl,rfl,rfl⟩
theorem Ziu {s:Seg} (h:s.Ok):Zaq (putL s)=true:=by
  obtain ⟨g12,g13,g18,_⟩:=ZpC s
  have hl:=Zmy (s:=s)
  have hd':=h.data.2
  have hf:=ZpD h.put
  have hw:=h.flags
  unfold Zaq longOk Zbg
  simp only [Bool.and_eq_true,decide_eq_true_eq,Bool.or_eq_true]
  rw [g12,g13,g18,hf,hl]
  by_cases m:s.most=0
  · have e:hd s=80:=if_pos m
    rw [e,if_pos m]
    simp
    omega
  · have e:hd s=96:=if_neg m
    obtain ⟨p1,p2,p3⟩:=Zk4 s m
    have hm:4≤s.most∧s.most≤65535∧s.flags/2 % 2=1:=h.most.resolve_left m
    have hb:=(ZqU h.flags).2.1
    rw [e,if_neg m,p1,p2,p3,hb]
    simp
    omega
theorem ZqD (s:Seg):(putL s).drop (if s.most=0 then 20 else 24)=s.data:=by
  obtain ⟨x,y,e⟩:=ZlR s
  rw [e]
  by_cases m:s.most=0
  · rw [if_pos m]
    simp [ZcJ,m]
  · rw [if_neg m]
    simp [ZcJ,m,two]
theorem ZmW {s:Seg} (h:s.Ok):Zbq (putL s)=s:=by
  obtain ⟨g12,g13,g18,g0,g2,g4,g8,g14⟩:=ZpC s
  have e0:=ZqD s
  obtain ⟨⟨a1,a2⟩,⟨b1,b2⟩,⟨c1,c2⟩,⟨d1,d2⟩,_,⟨f1,f2⟩,hm,_⟩:=h
  unfold Zbq Zbg
  rw [g12,g13,g0,g2,g4,g8,g14]
  obtain ⟨src,goal,num,ans,flags,win,most,data⟩:=s
  simp only at *
  by_cases m:most=0
  · subst m
    have e:hd ⟨src,goal,num,ans,flags,win,0,data⟩=80:=rfl
    rw [e]
    simp only [if_true] at e0
    simp [e0]
    omega
  · have e:hd ⟨src,goal,num,ans,flags,win,most,data⟩=96:=if_neg m
    obtain ⟨_,_,p3⟩:=Zk4 ⟨src,goal,num,ans,flags,win,most,data⟩ m
    simp only at p3
    rw [e,p3]
    rw [if_neg m] at e0
    simp [e0]
    have:=hm.resolve_left m
    omega
@[simp] theorem ZzC {s:Seg} {θ:Sto}:Zfl θ s.d (some 2) (some 4)=some (.tup [.int s.num,.int s.ans]):=nr rfl
theorem two_small {k:Int} (h0:0≤k) (h:k≤65535):[k/256,k % 256]=two k:=by
  unfold two
  rw [show k/256 % 256=k/256 by omega]
theorem ZhQ {k:Int} (h0:0≤k) (h:k≤4294967295):[k/65536/256,k/65536 % 256,k % 65536/256,k % 256]=Zls k:=by
  unfold Zls two
  rw [show k/65536/256 % 256=k/65536/256 by omega,show k % 65536/256=k/256 % 256 by omega]
  rfl
def Zcp (s:Seg):List Int:=[s.src/256,s.src % 256,s.goal/256,s.goal % 256,s.num/65536/256,s.num/65536 % 256,s.num % 65536/256,s.num % 256,s.ans/65536/256,s.ans/65536 % 256,s.ans % 65536/256,s.ans % 256,
  hd s,s.flags,s.win/256,s.win % 256,0,0,0,0]++((if s.most=0 then [] else [2,4,s.most/256,s.most % 256])++s.data)
theorem ZpK {s:Seg} (h:s.Ok):Zcp s=ZaT s++[0,0]++behind s:=by
  obtain ⟨⟨a1,a2⟩,⟨b1,b2⟩,⟨c1,c2⟩,⟨d1,d2⟩,⟨f1,f2⟩,⟨w1,w2⟩,hm,hd1,hd2⟩:=id h
  have e1:=two_small a1 a2
  have e2:=two_small b1 b2
  have e3:=ZhQ c1 c2
  have e4:=ZhQ d1 d2
  have e5:=two_small w1 w2
  have e6:(if s.most=0 then [] else [2,4,s.most/256,s.most % 256])=ZcJ s.most:=by
    unfold ZcJ
    by_cases m:s.most=0
    · rw [if_pos m,if_pos m]
    · rw [if_neg m,if_neg m]
      have:=hm.resolve_left m
      rw [←two_small (k:=s.most) (by omega) (by omega)]
      rfl
  unfold Zcp ZaT behind
  rw [e6,←e1,←e2,←e3,←e4,←e5]
  rfl
theorem ZrC {s:Seg} (h:s.Ok):(Zcp s).take 16++two (65535-ZaP (zu (Zcp s)))++(Zcp s).drop 18=putL s:=by
  rw [ZpK h]
  have e1:(ZaT s++[0,0]++behind s).take 16=ZaT s:=by
    rw [List.append_assoc,List.take_append_of_le_length (by simp),List.take_of_length_le (by simp)]
  have e2:(ZaT s++[0,0]++behind s).drop 18=behind s:=by
    have:(ZaT s++[0,0]).length=18:=by simp
    rw [←this,List.drop_left]
  rw [e1,e2]
  rfl
theorem Zid {s:Seg} (h:s.Ok) (θ:Sto) (x y:Sl):ZJ (mOp ZX (mOp ZX (mSl (Zd 1) ZaV (Zby (mC (.int 16)))) (mCB Zei (Zc (mOp Zgc (mC (.int 65535)) (mCB Zct (Zc (Zd 1) Zk))) Zk))) (mSl (Zd 1) (Zby (mC (.int 18))) ZaV)) [x,.val (il (Zcp s)),y] θ
    = .ok (.rt (il (putL s)),[x,.val (il (Zcp s)),y]) θ:=by
  have pe:=ZpK h
  have bp:=h.put.byt
  rw [←pe] at bp
  have lf:=Zim bp θ
  have hs:=ZmX bp.sum.1
  have hl:(Zcp s).length≤100:=by
    have:=Zd9 s
    have:=h.data.2
    rw [pe]
    simp
    omega
  have fin:=ZrC h
  have tw:[(65535-ZaP (zu (Zcp s)))/256,(65535-ZaP (zu (Zcp s))) % 256]=two (65535-ZaP (zu (Zcp s))):=two_small (by omega) (by omega)
  have k1:Za9 (Zcp s) none (some 16)=(Zcp s).take 16:=Zd7 _ (by decide)
  have k2:Za9 (Zcp s) (some 18) none=(Zcp s).drop 18:=ZbY _ (by decide)
  have fs:ZX (il ((Zcp s).take 16)) (il (two (65535-ZaP (zu (Zcp s))))) θ=.ok (il ((Zcp s).take 16++two (65535-ZaP (zu (Zcp s))))) θ:=Zji (by simp; omega)
  have fs2:ZX (il ((Zcp s).take 16++two (65535-ZaP (zu (Zcp s))))) (il ((Zcp s).drop 18)) θ=.ok (il (putL s)) θ:=by
    rw [Zji (by simp; omega),fin]
  simp only [Zpf,ZuQ,Zyv,Zss,ZyH,Zpi,Zsu,Zpg,Zs2,x_c,R.bind_ok,List.getElem?_cons_succ,List.getElem?_cons_zero,ZmU,k1,k2,lf,ZmD,if_true,Zu1,tw,fs,fs2]
theorem Zfx {s:Seg} (h:s.Ok) (θ:Sto):ZbV [s.d] θ=.ok (il (putL s)) θ:=by
  have tail:=Zid h θ
  have dl:=h.data.2
  by_cases m:s.most=0
  · have g:ixM (il [80,96]) (.int 0) θ=.ok (.int 80) θ:=rfl
    have e0:hd s=80:=if_pos m
    have pl:[s.src/256,s.src % 256,s.goal/256,s.goal % 256,s.num/65536/256,s.num/65536 % 256,s.num % 65536/256,s.num % 256,s.ans/65536/256,s.ans/65536 % 256,s.ans % 65536/256,s.ans % 256,
      80,s.flags,s.win/256,s.win % 256,0,0,0,0]++s.data=Zcp s:=by unfold Zcp; rw [if_pos m,e0]; rfl
    simp only [List.cons_append,List.nil_append] at pl
    simp [ZbV,ZgC,ZeZ,ZeY,Zgk,ZdI,m,g,pl,-Zpf,tail,show s.data.length+20≤100000 by omega,show 20+s.data.length≤100000 by omega]
  · have g:ixM (il [80,96]) (.int 1) θ=.ok (.int 96) θ:=rfl
    have e0:hd s=96:=if_neg m
    have mg:(0:Int)<s.most:=by have:=h.most.resolve_left m; omega
    have pl:[s.src/256,s.src % 256,s.goal/256,s.goal % 256,s.num/65536/256,s.num/65536 % 256,s.num % 65536/256,s.num % 256,s.ans/65536/256,s.ans/65536 % 256,s.ans % 65536/256,s.ans % 256,
      96,s.flags,s.win/256,s.win % 256,0,0,0,0,2,4,s.most/256,s.most % 256]++s.data=Zcp s:=by unfold Zcp; rw [if_neg m,e0]; rfl
    simp only [List.cons_append,List.nil_append] at pl
    simp [ZbV,ZgC,ZeZ,ZeY,Zgk,ZdI,mg,g,pl,-Zpf,tail,show s.data.length+24≤100000 by omega,show 24+s.data.length≤100000 by omega]
theorem Zpz (n:Nat) (x:Int):(List.replicate n [x]).flatten=List.replicate n x:=by
  induction n with
  | zero=>rfl
  | succ n ih=>rw [List.replicate_succ,List.flatten_cons,ih]; rfl
end
end My
set_option Elab.async false
set_option linter.all false
set_option maxRecDepth 100000
set_option maxHeartbeats 4000000
namespace My
open PySem L2 L2.MM
noncomputable section
def Zfi:SM:=(ZD ["Pile"] "row" (Zd 0) (Zcr Zk))
def ZbK:GM:=ZM 1 1 Zfi
def ZhY:SM:=(ZJ (mOp Zgc (mC (.int 64)) (mCB Zdc (Zc (ZG ["Pile"] "row" (Zd 0)) Zk))))
def ZdV:GM:=ZM 1 1 ZhY
def ZlE:SM:=(ZJ (mOp Zaa (mOp ZX (Zd 0) (Zd 1)) (mC (.int 4294967296))))
def zn:GM:=ZM 2 2 ZlE
def Zh0:SM:=(ZJ (mOp Zgc (mOp Zaa (mOp ZX (mOp Zgc (Zd 0) (Zd 1)) (mC (.int 2147483648))) (mC (.int 4294967296))) (mC (.int 2147483648))))
def zA:GM:=ZM 2 2 Zh0
def Zef:SM:=(Zp (ZD ["End"] "ours" (Zd 0) (Zd 1))
  (Zp (ZD ["End"] "theirs" (Zd 0) (Zd 2))
  (Zp (ZD ["End"] "state" (Zd 0) (ZfR (zW (Zd 4)) (mC (.str "syn sent")) (mC (.str "listen"))))
  (Zp (ZD ["End"] "error" (Zd 0) (mC (.str "")))
  (Zp (ZD ["End"] "first" (Zd 0) (Zd 3))
  (Zp (ZD ["End"] "una" (Zd 0) (Zd 3))
  (Zp (ZD ["End"] "nxt" (Zd 0) (Zd 3))
  (Zp (ZD ["End"] "rcv" (Zd 0) (mC (.int 0)))
  (Zp (ZD ["End"] "wnd" (Zd 0) (mC (.int 0)))
  (Zp (ZD ["End"] "told" (Zd 0) (mC (.int 0)))
  (Zp (ZD ["End"] "told_by" (Zd 0) (mC (.int 0)))
  (Zp (ZD ["End"] "most" (Zd 0) (mC (.int 12)))
  (Zp (ZD ["End"] "written" (Zd 0) (mCB (mkG "Pile" ZbK) Zk))
  (Zp (ZD ["End"] "come" (Zd 0) (mCB (mkG "Pile" ZbK) Zk))
  (Zp (ZD ["End"] "early" (Zd 0) Zl3)
  (Zp (ZD ["End"] "early_fin" (Zd 0) (mC .non))
  (Zp (ZD ["End"] "has_closed" (Zd 0) (mC (.bl false)))
  (Zp (ZD ["End"] "behind" (Zd 0) (mCB zn (Zc (Zd 3) (Zc (mC (.int 1)) Zk))))
  (Zp (ZD ["End"] "owed_reset" (Zd 0) (mC .non))
  (Zp (ZD ["End"] "owes_syn" (Zd 0) (mC (.bl false)))
  (Zp (ZD ["End"] "owes_answer" (Zd 0) (mC (.bl false)))
  (Zp (ZD ["End"] "probes" (Zd 0) (mC (.bl false)))
  (Zp (ZD ["End"] "since" (Zd 0) (mC (.int 0)))
  (Zp (ZD ["End"] "wait" (Zd 0) (mC (.int 1000)))
  (ZD ["End"] "tries" (Zd 0) (mC (.int 0)))))))))))))))))))))))))))
def Zcf:GM:=ZM 5 5 Zef
def Zem:SM:=(Zp (ZD ["End"] "since" (Zd 0) (Zd 1))
  (Zp (ZD ["End"] "wait" (Zd 0) (mC (.int 1000)))
  (ZD ["End"] "tries" (Zd 0) (mC (.int 0)))))
def Z8:GM:=ZM 2 2 Zem
def ZiU:SM:=(ZJ (ZG ["End"] "state" (Zd 0)))
def ZfG:GM:=ZM 1 1 ZiU
def ZiV:SM:=(ZJ (ZG ["End"] "error" (Zd 0)))
def ZfI:GM:=ZM 1 1 ZiV
def ZeP:SM:=(ZJ (mCB ZdV (Zc (ZG ["End"] "come" (Zd 0)) Zk)))
def zK:GM:=ZM 1 1 ZeP
def ZdJ:SM:=(ZJ (mCB Zle (Zc (ZG ["End"] "most" (Zd 0)) (Zc (mC (.int 16)) Zk))))
def Zac:GM:=ZM 1 1 ZdJ
def ZeN:SM:=(mIf (ZF (mOp eqM (ZG ["End"] "state" (Zd 0)) (mC (.str "syn sent")))) (ZJ (zM (Zc (ZG ["End"] "ours" (Zd 0)) (Zc (ZG ["End"] "theirs" (Zd 0)) (Zc (ZG ["End"] "first" (Zd 0)) (Zc (mC (.int 0)) (Zc (mC (.int 2)) (Zc (mC (.int 64)) (Zc (mC (.int 16)) (Zc (zM Zk) Zk)))))))))) ZK)
def ZfZ:SM:=(Zp (ZD ["End"] "owes_syn" (Zd 0) (mC (.bl false)))
  (Zp ZeN
  (ZJ (zM (Zc (ZG ["End"] "ours" (Zd 0)) (Zc (ZG ["End"] "theirs" (Zd 0)) (Zc (ZG ["End"] "first" (Zd 0)) (Zc (ZG ["End"] "rcv" (Zd 0)) (Zc (mOp ZX (mC (.int 2)) (mC (.int 16))) (Zc (mC (.int 64)) (Zc (mC (.int 16)) (Zc (zM Zk) Zk))))))))))))
def ZbD:GM:=ZM 1 1 ZfZ
def ZeL:SM:=(ZJ (zM (Zc (ZG ["End"] "ours" (Zd 0)) (Zc (ZG ["End"] "theirs" (Zd 0)) (Zc (Zd 1) (Zc (ZG ["End"] "rcv" (Zd 0)) (Zc (mOp ZX (Zd 2) (mC (.int 16))) (Zc (mCB zK (Zc (Zd 0) Zk)) (Zc (mC (.int 0)) (Zc (mCB Zfk (Zc (Zd 3) Zk)) Zk))))))))))
def zz:GM:=ZM 4 4 ZeL
def Zcx:SM:=(mIf (ZF (mOp eqM (ZG ["End"] "tries" (Zd 0)) (mC (.int 6)))) (Zp (ZD ["End"] "state" (Zd 0) (mC (.str "closed")))
    (Zp (ZD ["End"] "error" (Zd 0) (mC (.str "time")))
    (ZJ (mC .non)))) ZK)
def Zdq:SM:=(mIf (ZF (mOp inM (ZG ["End"] "state" (Zd 0)) (zM (Zc (mC (.str "syn sent")) (Zc (mC (.str "syn come")) Zk))))) (ZJ (mCB ZbD (Zc (Zd 0) Zk))) ZK)
def ZdO:SM:=(Zp Zcx
  (Zp (ZD ["End"] "tries" (Zd 0) (mOp ZX (ZG ["End"] "tries" (Zd 0)) (mC (.int 1))))
  (Zp (ZD ["End"] "wait" (Zd 0) (mCB Zle (Zc (mOp ZbT (mC (.int 2)) (ZG ["End"] "wait" (Zd 0))) (Zc (mC (.int 16000)) Zk))))
  (Zp (ZD ["End"] "since" (Zd 0) (Zd 1))
  (Zp Zdq
  (Zp (ZS 2 (mSl (ZG ["Pile"] "row" (ZG ["End"] "written" (Zd 0))) ZaV (Zby (mCB Zle (Zc (mCB zA (Zc (ZG ["End"] "nxt" (Zd 0)) (Zc (ZG ["End"] "una" (Zd 0)) Zk))) (Zc (mCB Zac (Zc (Zd 0) Zk)) Zk))))))
  (ZJ (mCB zz (Zc (Zd 0) (Zc (ZG ["End"] "una" (Zd 0)) (Zc (ZfR (ZF (mOp gtM (mCB Zdc (Zc (Zd 2) Zk)) (mC (.int 0)))) (mC (.int 0)) (mC (.int 1))) (Zc (Zd 2) Zk))))))))))))
def Zdf:GM:=ZM 2 3 ZdO
def Za4:SM:=(mIf (Zd2 (zW (ZG ["End"] "owes_answer" (Zd 0)))) (ZJ (mC .non)) ZK)
def Zbs:SM:=(Zp Za4
  (Zp (ZD ["End"] "owes_answer" (Zd 0) (mC (.bl false)))
  (ZJ (mCB zz (Zc (Zd 0) (Zc (ZG ["End"] "nxt" (Zd 0)) (Zc (mC (.int 0)) (Zc (Zcr Zk) Zk))))))))
def zU:GM:=ZM 1 1 Zbs
def ZhU:SM:=(ZJ (mCB zA (Zc (ZG ["End"] "behind" (Zd 0)) (Zc (ZG ["End"] "nxt" (Zd 0)) Zk))))
def Zbu:GM:=ZM 1 1 ZhU
def ZdM:SM:=(ZJ (Zcs (mOp inM (ZG ["End"] "state" (Zd 0)) (zM (Zc (mC (.str "open")) (Zc (mC (.str "wait one")) (Zc (mC (.str "close wait")) (Zc (mC (.str "closing")) (Zc (mC (.str "last ack")) Zk))))))) (mOp gtM (mCB Zbu (Zc (Zd 0) Zk)) (mC (.int 0)))))
def Zae:GM:=ZM 1 1 ZdM
def Zen:SM:=(ZJ (Zcs (mOp inM (ZG ["End"] "state" (Zd 0)) (zM (Zc (mC (.str "wait one")) (Zc (mC (.str "closing")) (Zc (mC (.str "last ack")) Zk))))) (mOp eqM (mCB Zbu (Zc (Zd 0) Zk)) (mC (.int 0)))))
def Zbv:GM:=ZM 1 1 Zen
def Zf2:SM:=(ZJ (Znx (mCB Zae (Zc (Zd 0) Zk)) (mCB Zbv (Zc (Zd 0) Zk))))
def ZbF:GM:=ZM 1 1 Zf2
def Zeb:SM:=(Zp (ZS 2 (ZG ["End"] "nxt" (Zd 0)))
  (Zp (ZS 3 (mCB Zle (Zc (mCB Zac (Zc (Zd 0) Zk)) (Zc (mCB Zbu (Zc (Zd 0) Zk)) (Zc (Zd 1) Zk)))))
  (Zp (ZS 4 (mCB zA (Zc (Zd 2) (Zc (ZG ["End"] "una" (Zd 0)) Zk))))
  (Zp (ZD ["End"] "nxt" (Zd 0) (mCB zn (Zc (Zd 2) (Zc (Zd 3) Zk))))
  (ZJ (mCB zz (Zc (Zd 0) (Zc (Zd 2) (Zc (ZfR (ZF (mOp eqM (mCB Zbu (Zc (Zd 0) Zk)) (mC (.int 0)))) (mC (.int 8)) (mC (.int 0))) (Zc (mSl (ZG ["Pile"] "row" (ZG ["End"] "written" (Zd 0))) (Zby (Zd 4)) (Zby (mOp ZX (Zd 4) (Zd 3)))) Zk))))))))))
def Zcc:GM:=ZM 2 5 Zeb
def ZgR:SM:=(Zp (ZS 1 (ZG ["End"] "nxt" (Zd 0)))
  (Zp (ZD ["End"] "nxt" (Zd 0) (mCB zn (Zc (Zd 1) (Zc (mC (.int 1)) Zk))))
  (ZJ (mCB zz (Zc (Zd 0) (Zc (Zd 1) (Zc (mC (.int 1)) (Zc (Zcr Zk) Zk))))))))
def ZdD:GM:=ZM 1 2 ZgR
def Zdv:SM:=(Zp (ZD ["End"] "probes" (Zd 0) (mC (.bl false)))
  (ZJ (ZfR (zW (mCB Zae (Zc (Zd 0) Zk))) (mCB Zcc (Zc (Zd 0) (Zc (Zd 1) Zk))) (mCB ZdD (Zc (Zd 0) Zk)))))
def ZaQ:GM:=ZM 2 2 Zdv
def Zdu:SM:=(mIf (ZF (mOp eqM (ZG ["End"] "nxt" (Zd 0)) (ZG ["End"] "una" (Zd 0)))) (zw (mCB Z8 (Zc (Zd 0) (Zc (Zd 1) Zk)))) ZK)
def ZeQ:SM:=(Zp Zdu
  (Zp (ZD ["End"] "nxt" (Zd 0) (mCB zn (Zc (ZG ["End"] "first" (Zd 0)) (Zc (mC (.int 1)) Zk))))
  (ZJ (mCB ZbD (Zc (Zd 0) Zk)))))
def ZcP:GM:=ZM 2 2 ZeQ
def zr:SM:=(mIf (ZF (mOp inM (ZG ["End"] "state" (Zd 0)) (zM (Zc (mC (.str "syn sent")) (Zc (mC (.str "syn come")) Zk))))) (ZJ (ZfR (mOr (ZF (mOp eqM (ZG ["End"] "nxt" (Zd 0)) (ZG ["End"] "first" (Zd 0)))) (zW (ZG ["End"] "owes_syn" (Zd 0)))) (mCB ZcP (Zc (Zd 0) (Zc (Zd 1) Zk))) (mC .non))) ZK)
def Zai:SM:=(mIf (mOr (ZF (mOp leM (Zd 2) (mC (.int 0)))) (Zd2 (zW (mCB ZbF (Zc (Zd 0) Zk))))) (ZJ (mC .non)) ZK)
def ZbH:SM:=(mIf (ZF (mOp eqM (ZG ["End"] "nxt" (Zd 0)) (ZG ["End"] "una" (Zd 0)))) (zw (mCB Z8 (Zc (Zd 0) (Zc (Zd 1) Zk)))) ZK)
def zJ:SM:=(Zp zr
  (Zp (ZS 2 (mOp Zgc (ZG ["End"] "wnd" (Zd 0)) (mCB zA (Zc (ZG ["End"] "nxt" (Zd 0)) (Zc (ZG ["End"] "una" (Zd 0)) Zk)))))
  (Zp Zai
  (Zp ZbH
  (Zp (ZD ["End"] "owes_answer" (Zd 0) (mC (.bl false)))
  (ZJ (mCB ZaQ (Zc (Zd 0) (Zc (Zd 2) Zk)))))))))
def Z6:GM:=ZM 2 3 zJ
def Zh3:SM:=(ZJ (mOp geM (mOp Zgc (Zd 1) (ZG ["End"] "since" (Zd 0))) (ZG ["End"] "wait" (Zd 0))))
def ZcZ:GM:=ZM 2 2 Zh3
def zd:SM:=(mIf (mOr (ZF (mOp neM (ZG ["End"] "nxt" (Zd 0)) (ZG ["End"] "una" (Zd 0)))) (mOr (ZF (mOp neM (ZG ["End"] "wnd" (Zd 0)) (mC (.int 0)))) (Zd2 (zW (mCB ZbF (Zc (Zd 0) Zk)))))) (Zp (ZD ["End"] "probes" (Zd 0) (mC (.bl false)))
    (ZJ (mC .non))) ZK)
def Zaw:SM:=(mIf (Zd2 (zW (ZG ["End"] "probes" (Zd 0)))) (Zp (ZD ["End"] "probes" (Zd 0) (mC (.bl true)))
    (zw (mCB Z8 (Zc (Zd 0) (Zc (Zd 1) Zk))))) ZK)
def Zav:SM:=(mIf (Zd2 (zW (mCB ZcZ (Zc (Zd 0) (Zc (Zd 1) Zk))))) (ZJ (mC .non)) ZK)
def zq:SM:=(Zp zd
  (Zp Zaw
  (Zp Zav
  (Zp (ZD ["End"] "since" (Zd 0) (Zd 1))
  (ZJ (mCB ZaQ (Zc (Zd 0) (Zc (mC (.int 1)) Zk))))))))
def Z9:GM:=ZM 2 2 zq
def ZeO:SM:=(Zp (ZS 1 (ZG ["End"] "owed_reset" (Zd 0)))
  (Zp (ZD ["End"] "owed_reset" (Zd 0) (mC .non))
  (ZJ (Zd 1))))
def ZcL:GM:=ZM 1 2 ZeO
def Zdn:SM:=(mIf (ZF (mOp Zd6 (ZG ["End"] "owed_reset" (Zd 0)) (mC .non))) (ZJ (mCB ZcL (Zc (Zd 0) Zk))) ZK)
def ZeU:SM:=(mIf (Zgl (ZF (mOp eqM (ZG ["End"] "state" (Zd 0)) (mC (.str "time wait")))) (ZF (mOp geM (mOp Zgc (Zd 1) (ZG ["End"] "since" (Zd 0))) (mC (.int 120000))))) (ZD ["End"] "state" (Zd 0) (mC (.str "closed"))) ZK)
def ZbO:SM:=(mIf (ZF (mOp inM (ZG ["End"] "state" (Zd 0)) (zM (Zc (mC (.str "closed")) (Zc (mC (.str "listen")) Zk))))) (ZJ (mC .non)) ZK)
def Zcw:SM:=(mIf (Zgl (ZF (mOp neM (ZG ["End"] "nxt" (Zd 0)) (ZG ["End"] "una" (Zd 0)))) (zW (mCB ZcZ (Zc (Zd 0) (Zc (Zd 1) Zk))))) (ZJ (mCB Zdf (Zc (Zd 0) (Zc (Zd 1) Zk)))) ZK)
def ZbN:SM:=(mIf (ZF (mOp isM (Zd 2) (mC .non))) (ZS 2 (mCB Z9 (Zc (Zd 0) (Zc (Zd 1) Zk)))) ZK)
def ZbM:SM:=(mIf (ZF (mOp isM (Zd 2) (mC .non))) (ZS 2 (mCB zU (Zc (Zd 0) Zk))) ZK)
def Zfa:SM:=(Zp Zdn
  (Zp ZeU
  (Zp ZbO
  (Zp Zcw
  (Zp (ZS 2 (mCB Z6 (Zc (Zd 0) (Zc (Zd 1) Zk))))
  (Zp ZbN
  (Zp ZbM
  (ZJ (Zd 2)))))))))
def ZdX:GM:=ZM 2 3 Zfa
def ZhX:SM:=(Zp (ZS 2 (mCB ZdX (Zc (Zd 0) (Zc (Zd 1) Zk))))
  (ZJ (ZfR (ZF (mOp isM (Zd 2) (mC .non))) (Zcr Zk) (mCB Zk6 (Zc (Zd 2) Zk)))))
def Zcz:GM:=ZM 2 3 ZhX
def ZhZ:SM:=(ZJ (mCB (mkG "End" Zcf) (Zc (Zd 0) (Zc (Zd 1) (Zc (Zd 2) (Zc (Zd 3) Zk))))))
def Zey:GM:=ZM 4 4 ZhZ
end
end My
set_option Elab.async false
set_option linter.all false
set_option maxRecDepth 100000
set_option maxHeartbeats 4000000
namespace My
open PySem L2 L2.MM
noncomputable section
inductive State where
  | closed | listen | synSent | synCome | opn | waitOne | waitTwo | closeWait | closing | lastAck | timeWait
  deriving DecidableEq
def State.s:State→Str
  | .closed=>"closed" | .listen=>"listen" | .synSent=>"syn sent" | .synCome=>"syn come" | .opn=>"open" | .waitOne=>"wait one" | .waitTwo=>"wait two" | .closeWait=>"close wait" | .closing=>"closing" | .lastAck=>"last ack" | .timeWait=>"time wait"
inductive Err where
  | none | refused | reset | time
  deriving DecidableEq
def Err.s:Err→Str
  | .none=>"" | .refused=>"refused" | .reset=>"reset" | .time=>"time"
structure Zs where
  ours:Int
  theirs:Int
  state:State
  error:Err
  first:Int
  una:Int
  nxt:Int
  rcv:Int
  wnd:Int
  told:Int
  told_by:Int
  most:Int
  written:List Int
  come:List Int
  early:List (Int×Int)
  early_fin:Option Int
  has_closed:Bool
  behind:Int
  owed_reset:Option Seg
  owes_syn:Bool
  owes_answer:Bool
  probes:Bool
  since:Int
  wait:Int
  tries:Int
def Zhb:Option Int→D
  | none=>.non
  | some i=>.int i
def Zbp:Option Seg→D
  | none=>.non
  | some s=>s.d
def fields (l:Nat) (e:Zs):List (Str×D):=[("ours",.int e.ours),("theirs",.int e.theirs),("state",.str e.state.s),("error",.str e.error.s),("first",.int e.first),("una",.int e.una),("nxt",.int e.nxt),("rcv",.int e.rcv),("wnd",.int e.wnd),("told",.int e.told),("told_by",.int e.told_by),("most",.int e.most),("written",.ref (l+1)),("come",.ref (l+2)),("early",.ref (l+3)),("early_fin",Zhb e.early_fin),("has_closed",.bl e.has_closed),("behind",.int e.behind),("owed_reset",Zbp e.owed_reset),("owes_syn",.bl e.owes_syn),("owes_answer",.bl e.owes_answer),("probes",.bl e.probes),("since",.int e.since),("wait",.int e.wait),("tries",.int e.tries)]
def c0 (l:Nat) (e:Zs):Cell:=.ins "End" (fields l e)
def c1 (e:Zs):Cell:=.ins "Pile" [("row",il e.written)]
def c2 (e:Zs):Cell:=.ins "Pile" [("row",il e.come)]
def c3 (e:Zs):Cell:=.dK (e.early.map fun p=>(Sum.inl p.1,D.int p.2))
def upE (θ:Sto) (l:Nat) (e:Zs):Sto:=(((θ.set l (c0 l e)).set (l+1) (c1 e)).set (l+2) (c2 e)).set (l+3) (c3 e)
theorem at0 {θ:Sto} {l:Nat} (h:l+3 < θ.length) (e:Zs):(upE θ l e)[l]?=some (c0 l e):=by
  unfold upE
  rw [List.getElem?_set_ne (by omega),List.getElem?_set_ne (by omega),List.getElem?_set_ne (by omega),List.getElem?_set_self (by omega)]
theorem at1 {θ:Sto} {l:Nat} (h:l+3 < θ.length) (e:Zs):(upE θ l e)[l+1]?=some (c1 e):=by
  unfold upE
  rw [List.getElem?_set_ne (by omega),List.getElem?_set_ne (by omega),List.getElem?_set_self (by simp; omega)]
theorem Zv7 {θ:Sto} {l:Nat} (h:l+3 < θ.length) (e:Zs):(upE θ l e)[l+2]?=some (c2 e):=by
  unfold upE
  rw [List.getElem?_set_ne (by omega),List.getElem?_set_self (by simp; omega)]
theorem ZdA {θ:Sto} {l:Nat} (h:l+3 < θ.length) (e e':Zs) (h1:e'.written=e.written) (h2:e'.come=e.come) (h3:e'.early=e.early):(upE θ l e).set l (c0 l e')=upE θ l e':=by
  unfold upE
  rw [show c1 e'=c1 e by unfold c1; rw [h1],show c2 e'=c2 e by unfold c2; rw [h2],show c3 e'=c3 e by unfold c3; rw [h3]]
  apply List.ext_getElem?
  intro i
  simp only [List.getElem?_set,List.length_set]
  by_cases h3:l=i
  · subst h3; simp
  · simp [h3]
theorem Zal {θ:Sto} {l:Nat} (h:l+3 < θ.length) (e:Zs):ZeG (upE θ l e) (.ref l)=some (l,("End":Str),fields l e):=by
  show (match (upE θ l e)[l]? with | some (Cell.ins C fs)=>some (l,C,fs) | _=>none)=_
  rw [at0 h]
  rfl
theorem ce:(["End"]:List Str).contains "End"=true:=by decide +kernel
theorem cp:(["Pile"]:List Str).contains "Pile"=true:=by decide +kernel
@[simp] theorem Zzu {θ:Sto} {l:Nat} (h:l+3 < θ.length) (e:Zs):zC ["End"] "ours" (.ref l) (upE θ l e)=.ok (.int e.ours) (upE θ l e):=by
  unfold zC
  rw [Zal h]
  simp only [ce,if_true]
  rw [show (fields l e).lookup ("ours":Str)=some (.int e.ours) by with_unfolding_all rfl]
@[simp] theorem ZvT {θ:Sto} {l:Nat} (h:l+3 < θ.length) (e:Zs):zC ["End"] "theirs" (.ref l) (upE θ l e)=.ok (.int e.theirs) (upE θ l e):=by
  unfold zC
  rw [Zal h]
  simp only [ce,if_true]
  rw [show (fields l e).lookup ("theirs":Str)=some (.int e.theirs) by with_unfolding_all rfl]
@[simp] theorem Zwy {θ:Sto} {l:Nat} (h:l+3 < θ.length) (e:Zs):zC ["End"] "state" (.ref l) (upE θ l e)=.ok (.str e.state.s) (upE θ l e):=by
  unfold zC
  rw [Zal h]
  simp only [ce,if_true]
  rw [show (fields l e).lookup ("state":Str)=some (.str e.state.s) by with_unfolding_all rfl]
@[simp] theorem ZwB {θ:Sto} {l:Nat} (h:l+3 < θ.length) (e:Zs):zC ["End"] "error" (.ref l) (upE θ l e)=.ok (.str e.error.s) (upE θ l e):=by
  unfold zC
  rw [Zal h]
  simp only [ce,if_true]
  rw [show (fields l e).lookup ("error":Str)=some (.str e.error.s) by with_unfolding_all rfl]
@[simp] theorem ZwA {θ:Sto} {l:Nat} (h:l+3 < θ.length) (e:Zs):zC ["End"] "first" (.ref l) (upE θ l e)=.ok (.int e.first) (upE θ l e):=by
  unfold zC
  rw [Zal h]
  simp only [ce,if_true]
  rw [show (fields l e).lookup ("first":Str)=some (.int e.first) by with_unfolding_all rfl]
@[simp] theorem ZAd {θ:Sto} {l:Nat} (h:l+3 < θ.length) (e:Zs):zC ["End"] "una" (.ref l) (upE θ l e)=.ok (.int e.una) (upE θ l e):=by
  unfold zC
  rw [Zal h]
  simp only [ce,if_true]
  rw [show (fields l e).lookup ("una":Str)=some (.int e.una) by with_unfolding_all rfl]
@[simp] theorem ZAf {θ:Sto} {l:Nat} (h:l+3 < θ.length) (e:Zs):zC ["End"] "nxt" (.ref l) (upE θ l e)=.ok (.int e.nxt) (upE θ l e):=by
  unfold zC
  rw [Zal h]
  simp only [ce,if_true]
  rw [show (fields l e).lookup ("nxt":Str)=some (.int e.nxt) by with_unfolding_all rfl]
@[simp] theorem ZAe {θ:Sto} {l:Nat} (h:l+3 < θ.length) (e:Zs):zC ["End"] "rcv" (.ref l) (upE θ l e)=.ok (.int e.rcv) (upE θ l e):=by
  unfold zC
  rw [Zal h]
  simp only [ce,if_true]
  rw [show (fields l e).lookup ("rcv":Str)=some (.int e.rcv) by with_unfolding_all rfl]
@[simp] theorem ZAc {θ:Sto} {l:Nat} (h:l+3 < θ.length) (e:Zs):zC ["End"] "wnd" (.ref l) (upE θ l e)=.ok (.int e.wnd) (upE θ l e):=by
  unfold zC
  rw [Zal h]
  simp only [ce,if_true]
  rw [show (fields l e).lookup ("wnd":Str)=some (.int e.wnd) by with_unfolding_all rfl]
@[simp] theorem Zzr {θ:Sto} {l:Nat} (h:l+3 < θ.length) (e:Zs):zC ["End"] "told" (.ref l) (upE θ l e)=.ok (.int e.told) (upE θ l e):=by
  unfold zC
  rw [Zal h]
  simp only [ce,if_true]
  rw [show (fields l e).lookup ("told":Str)=some (.int e.told) by with_unfolding_all rfl]
@[simp] theorem ZuK {θ:Sto} {l:Nat} (h:l+3 < θ.length) (e:Zs):zC ["End"] "told_by" (.ref l) (upE θ l e)=.ok (.int e.told_by) (upE θ l e):=by
  unfold zC
  rw [Zal h]
  simp only [ce,if_true]
  rw [show (fields l e).lookup ("told_by":Str)=some (.int e.told_by) by with_unfolding_all rfl]
@[simp] theorem Zzv {θ:Sto} {l:Nat} (h:l+3 < θ.length) (e:Zs):zC ["End"] "most" (.ref l) (upE θ l e)=.ok (.int e.most) (upE θ l e):=by
  unfold zC
  rw [Zal h]
  simp only [ce,if_true]
  rw [show (fields l e).lookup ("most":Str)=some (.int e.most) by with_unfolding_all rfl]
@[simp] theorem ZuJ {θ:Sto} {l:Nat} (h:l+3 < θ.length) (e:Zs):zC ["End"] "written" (.ref l) (upE θ l e)=.ok (.ref (l+1)) (upE θ l e):=by
  unfold zC
  rw [Zal h]
  simp only [ce,if_true]
  rw [show (fields l e).lookup ("written":Str)=some (.ref (l+1)) by with_unfolding_all rfl]
@[simp] theorem Zzw {θ:Sto} {l:Nat} (h:l+3 < θ.length) (e:Zs):zC ["End"] "come" (.ref l) (upE θ l e)=.ok (.ref (l+2)) (upE θ l e):=by
  unfold zC
  rw [Zal h]
  simp only [ce,if_true]
  rw [show (fields l e).lookup ("come":Str)=some (.ref (l+2)) by with_unfolding_all rfl]
@[simp] theorem ZwC {θ:Sto} {l:Nat} (h:l+3 < θ.length) (e:Zs):zC ["End"] "early" (.ref l) (upE θ l e)=.ok (.ref (l+3)) (upE θ l e):=by
  unfold zC
  rw [Zal h]
  simp only [ce,if_true]
  rw [show (fields l e).lookup ("early":Str)=some (.ref (l+3)) by with_unfolding_all rfl]
@[simp] theorem ZsU {θ:Sto} {l:Nat} (h:l+3 < θ.length) (e:Zs):zC ["End"] "early_fin" (.ref l) (upE θ l e)=.ok (Zhb e.early_fin) (upE θ l e):=by
  unfold zC
  rw [Zal h]
  simp only [ce,if_true]
  rw [show (fields l e).lookup ("early_fin":Str)=some (Zhb e.early_fin) by with_unfolding_all rfl]
@[simp] theorem Zr9 {θ:Sto} {l:Nat} (h:l+3 < θ.length) (e:Zs):zC ["End"] "has_closed" (.ref l) (upE θ l e)=.ok (.bl e.has_closed) (upE θ l e):=by
  unfold zC
  rw [Zal h]
  simp only [ce,if_true]
  rw [show (fields l e).lookup ("has_closed":Str)=some (.bl e.has_closed) by with_unfolding_all rfl]
@[simp] theorem ZvV {θ:Sto} {l:Nat} (h:l+3 < θ.length) (e:Zs):zC ["End"] "behind" (.ref l) (upE θ l e)=.ok (.int e.behind) (upE θ l e):=by
  unfold zC
  rw [Zal h]
  simp only [ce,if_true]
  rw [show (fields l e).lookup ("behind":Str)=some (.int e.behind) by with_unfolding_all rfl]
@[simp] theorem Zr8 {θ:Sto} {l:Nat} (h:l+3 < θ.length) (e:Zs):zC ["End"] "owed_reset" (.ref l) (upE θ l e)=.ok (Zbp e.owed_reset) (upE θ l e):=by
  unfold zC
  rw [Zal h]
  simp only [ce,if_true]
  rw [show (fields l e).lookup ("owed_reset":Str)=some (Zbp e.owed_reset) by with_unfolding_all rfl]
@[simp] theorem Zuf {θ:Sto} {l:Nat} (h:l+3 < θ.length) (e:Zs):zC ["End"] "owes_syn" (.ref l) (upE θ l e)=.ok (.bl e.owes_syn) (upE θ l e):=by
  unfold zC
  rw [Zal h]
  simp only [ce,if_true]
  rw [show (fields l e).lookup ("owes_syn":Str)=some (.bl e.owes_syn) by with_unfolding_all rfl]
@[simp] theorem Zq9 {θ:Sto} {l:Nat} (h:l+3 < θ.length) (e:Zs):zC ["End"] "owes_answer" (.ref l) (upE θ l e)=.ok (.bl e.owes_answer) (upE θ l e):=by
  unfold zC
  rw [Zal h]
  simp only [ce,if_true]
  rw [show (fields l e).lookup ("owes_answer":Str)=some (.bl e.owes_answer) by with_unfolding_all rfl]
@[simp] theorem ZvU {θ:Sto} {l:Nat} (h:l+3 < θ.length) (e:Zs):zC ["End"] "probes" (.ref l) (upE θ l e)=.ok (.bl e.probes) (upE θ l e):=by
  unfold zC
  rw [Zal h]
  simp only [ce,if_true]
  rw [show (fields l e).lookup ("probes":Str)=some (.bl e.probes) by with_unfolding_all rfl]
@[simp] theorem Zwz {θ:Sto} {l:Nat} (h:l+3 < θ.length) (e:Zs):zC ["End"] "since" (.ref l) (upE θ l e)=.ok (.int e.since) (upE θ l e):=by
  unfold zC
  rw [Zal h]
  simp only [ce,if_true]
  rw [show (fields l e).lookup ("since":Str)=some (.int e.since) by with_unfolding_all rfl]
@[simp] theorem Zzq {θ:Sto} {l:Nat} (h:l+3 < θ.length) (e:Zs):zC ["End"] "wait" (.ref l) (upE θ l e)=.ok (.int e.wait) (upE θ l e):=by
  unfold zC
  rw [Zal h]
  simp only [ce,if_true]
  rw [show (fields l e).lookup ("wait":Str)=some (.int e.wait) by with_unfolding_all rfl]
@[simp] theorem Zwx {θ:Sto} {l:Nat} (h:l+3 < θ.length) (e:Zs):zC ["End"] "tries" (.ref l) (upE θ l e)=.ok (.int e.tries) (upE θ l e):=by
  unfold zC
  rw [Zal h]
  simp only [ce,if_true]
  rw [show (fields l e).lookup ("tries":Str)=some (.int e.tries) by with_unfolding_all rfl]
@[simp] theorem Zvf {θ:Sto} {l:Nat} (h:l+3 < θ.length) (e:Zs) (v:Int):Z5 ["End"] "theirs" (.int v) (.ref l) (upE θ l e)=some (upE θ l { e with theirs:=v }):=by
  unfold Z5
  rw [Zal h]
  simp only [ce]
  rw [if_pos ⟨trivial,show 25<1000 by decide⟩,show Zan ("theirs":Str) (.int v) (fields l e)=fields l { e with theirs:=v } by with_unfolding_all rfl]
  exact congrArg some (ZdA h e { e with theirs:=v } rfl rfl rfl)
@[simp] theorem Zwq {θ:Sto} {l:Nat} (h:l+3 < θ.length) (e:Zs) (v:State):Z5 ["End"] "state" (.str v.s) (.ref l) (upE θ l e)=some (upE θ l { e with state:=v }):=by
  unfold Z5
  rw [Zal h]
  simp only [ce]
  rw [if_pos ⟨trivial,show 25<1000 by decide⟩,show Zan ("state":Str) (.str v.s) (fields l e)=fields l { e with state:=v } by with_unfolding_all rfl]
  exact congrArg some (ZdA h e { e with state:=v } rfl rfl rfl)
@[simp] theorem Zws {θ:Sto} {l:Nat} (h:l+3 < θ.length) (e:Zs) (v:Err):Z5 ["End"] "error" (.str v.s) (.ref l) (upE θ l e)=some (upE θ l { e with error:=v }):=by
  unfold Z5
  rw [Zal h]
  simp only [ce]
  rw [if_pos ⟨trivial,show 25<1000 by decide⟩,show Zan ("error":Str) (.str v.s) (fields l e)=fields l { e with error:=v } by with_unfolding_all rfl]
  exact congrArg some (ZdA h e { e with error:=v } rfl rfl rfl)
@[simp] theorem Zz3 {θ:Sto} {l:Nat} (h:l+3 < θ.length) (e:Zs) (v:Int):Z5 ["End"] "una" (.int v) (.ref l) (upE θ l e)=some (upE θ l { e with una:=v }):=by
  unfold Z5
  rw [Zal h]
  simp only [ce]
  rw [if_pos ⟨trivial,show 25<1000 by decide⟩,show Zan ("una":Str) (.int v) (fields l e)=fields l { e with una:=v } by with_unfolding_all rfl]
  exact congrArg some (ZdA h e { e with una:=v } rfl rfl rfl)
@[simp] theorem Zz5 {θ:Sto} {l:Nat} (h:l+3 < θ.length) (e:Zs) (v:Int):Z5 ["End"] "nxt" (.int v) (.ref l) (upE θ l e)=some (upE θ l { e with nxt:=v }):=by
  unfold Z5
  rw [Zal h]
  simp only [ce]
  rw [if_pos ⟨trivial,show 25<1000 by decide⟩,show Zan ("nxt":Str) (.int v) (fields l e)=fields l { e with nxt:=v } by with_unfolding_all rfl]
  exact congrArg some (ZdA h e { e with nxt:=v } rfl rfl rfl)
@[simp] theorem Zz4 {θ:Sto} {l:Nat} (h:l+3 < θ.length) (e:Zs) (v:Int):Z5 ["End"] "rcv" (.int v) (.ref l) (upE θ l e)=some (upE θ l { e with rcv:=v }):=by
  unfold Z5
  rw [Zal h]
  simp only [ce]
  rw [if_pos ⟨trivial,show 25<1000 by decide⟩,show Zan ("rcv":Str) (.int v) (fields l e)=fields l { e with rcv:=v } by with_unfolding_all rfl]
  exact congrArg some (ZdA h e { e with rcv:=v } rfl rfl rfl)
@[simp] theorem Zz2 {θ:Sto} {l:Nat} (h:l+3 < θ.length) (e:Zs) (v:Int):Z5 ["End"] "wnd" (.int v) (.ref l) (upE θ l e)=some (upE θ l { e with wnd:=v }):=by
  unfold Z5
  rw [Zal h]
  simp only [ce]
  rw [if_pos ⟨trivial,show 25<1000 by decide⟩,show Zan ("wnd":Str) (.int v) (fields l e)=fields l { e with wnd:=v } by with_unfolding_all rfl]
  exact congrArg some (ZdA h e { e with wnd:=v } rfl rfl rfl)
@[simp] theorem Zy3 {θ:Sto} {l:Nat} (h:l+3 < θ.length) (e:Zs) (v:Int):Z5 ["End"] "told" (.int v) (.ref l) (upE θ l e)=some (upE θ l { e with told:=v }):=by
  unfold Z5
  rw [Zal h]
  simp only [ce]
  rw [if_pos ⟨trivial,show 25<1000 by decide⟩,show Zan ("told":Str) (.int v) (fields l e)=fields l { e with told:=v } by with_unfolding_all rfl]
  exact congrArg some (ZdA h e { e with told:=v } rfl rfl rfl)
@[simp] theorem ZuB {θ:Sto} {l:Nat} (h:l+3 < θ.length) (e:Zs) (v:Int):Z5 ["End"] "told_by" (.int v) (.ref l) (upE θ l e)=some (upE θ l { e with told_by:=v }):=by
  unfold Z5
  rw [Zal h]
  simp only [ce]
  rw [if_pos ⟨trivial,show 25<1000 by decide⟩,show Zan ("told_by":Str) (.int v) (fields l e)=fields l { e with told_by:=v } by with_unfolding_all rfl]
  exact congrArg some (ZdA h e { e with told_by:=v } rfl rfl rfl)
@[simp] theorem Zy6 {θ:Sto} {l:Nat} (h:l+3 < θ.length) (e:Zs) (v:Int):Z5 ["End"] "most" (.int v) (.ref l) (upE θ l e)=some (upE θ l { e with most:=v }):=by
  unfold Z5
  rw [Zal h]
  simp only [ce]
  rw [if_pos ⟨trivial,show 25<1000 by decide⟩,show Zan ("most":Str) (.int v) (fields l e)=fields l { e with most:=v } by with_unfolding_all rfl]
  exact congrArg some (ZdA h e { e with most:=v } rfl rfl rfl)
@[simp] theorem Zk1 {θ:Sto} {l:Nat} (h:l+3 < θ.length) (e:Zs) (v:Option Int):Z5 ["End"] "early_fin" (Zhb v) (.ref l) (upE θ l e)=some (upE θ l { e with early_fin:=v }):=by
  unfold Z5
  rw [Zal h]
  simp only [ce]
  rw [if_pos ⟨trivial,show 25<1000 by decide⟩,show Zan ("early_fin":Str) (Zhb v) (fields l e)=fields l { e with early_fin:=v } by with_unfolding_all rfl]
  exact congrArg some (ZdA h e { e with early_fin:=v } rfl rfl rfl)
@[simp] theorem Zrr {θ:Sto} {l:Nat} (h:l+3 < θ.length) (e:Zs) (v:Bool):Z5 ["End"] "has_closed" (.bl v) (.ref l) (upE θ l e)=some (upE θ l { e with has_closed:=v }):=by
  unfold Z5
  rw [Zal h]
  simp only [ce]
  rw [if_pos ⟨trivial,show 25<1000 by decide⟩,show Zan ("has_closed":Str) (.bl v) (fields l e)=fields l { e with has_closed:=v } by with_unfolding_all rfl]
  exact congrArg some (ZdA h e { e with has_closed:=v } rfl rfl rfl)
@[simp] theorem Zvh {θ:Sto} {l:Nat} (h:l+3 < θ.length) (e:Zs) (v:Int):Z5 ["End"] "behind" (.int v) (.ref l) (upE θ l e)=some (upE θ l { e with behind:=v }):=by
  unfold Z5
  rw [Zal h]
  simp only [ce]
  rw [if_pos ⟨trivial,show 25<1000 by decide⟩,show Zan ("behind":Str) (.int v) (fields l e)=fields l { e with behind:=v } by with_unfolding_all rfl]
  exact congrArg some (ZdA h e { e with behind:=v } rfl rfl rfl)
@[simp] theorem ZfA {θ:Sto} {l:Nat} (h:l+3 < θ.length) (e:Zs) (v:Option Seg):Z5 ["End"] "owed_reset" (Zbp v) (.ref l) (upE θ l e)=some (upE θ l { e with owed_reset:=v }):=by
  unfold Z5
  rw [Zal h]
  simp only [ce]
  rw [if_pos ⟨trivial,show 25<1000 by decide⟩,show Zan ("owed_reset":Str) (Zbp v) (fields l e)=fields l { e with owed_reset:=v } by with_unfolding_all rfl]
  exact congrArg some (ZdA h e { e with owed_reset:=v } rfl rfl rfl)
@[simp] theorem Ztv {θ:Sto} {l:Nat} (h:l+3 < θ.length) (e:Zs) (v:Bool):Z5 ["End"] "owes_syn" (.bl v) (.ref l) (upE θ l e)=some (upE θ l { e with owes_syn:=v }):=by
  unfold Z5
  rw [Zal h]
  simp only [ce]
  rw [if_pos ⟨trivial,show 25<1000 by decide⟩,show Zan ("owes_syn":Str) (.bl v) (fields l e)=fields l { e with owes_syn:=v } by with_unfolding_all rfl]
  exact congrArg some (ZdA h e { e with owes_syn:=v } rfl rfl rfl)
@[simp] theorem Zq8 {θ:Sto} {l:Nat} (h:l+3 < θ.length) (e:Zs) (v:Bool):Z5 ["End"] "owes_answer" (.bl v) (.ref l) (upE θ l e)=some (upE θ l { e with owes_answer:=v }):=by
  unfold Z5
  rw [Zal h]
  simp only [ce]
  rw [if_pos ⟨trivial,show 25<1000 by decide⟩,show Zan ("owes_answer":Str) (.bl v) (fields l e)=fields l { e with owes_answer:=v } by with_unfolding_all rfl]
  exact congrArg some (ZdA h e { e with owes_answer:=v } rfl rfl rfl)
@[simp] theorem Zvg {θ:Sto} {l:Nat} (h:l+3 < θ.length) (e:Zs) (v:Bool):Z5 ["End"] "probes" (.bl v) (.ref l) (upE θ l e)=some (upE θ l { e with probes:=v }):=by
  unfold Z5
  rw [Zal h]
  simp only [ce]
  rw [if_pos ⟨trivial,show 25<1000 by decide⟩,show Zan ("probes":Str) (.bl v) (fields l e)=fields l { e with probes:=v } by with_unfolding_all rfl]
  exact congrArg some (ZdA h e { e with probes:=v } rfl rfl rfl)
@[simp] theorem Zwr {θ:Sto} {l:Nat} (h:l+3 < θ.length) (e:Zs) (v:Int):Z5 ["End"] "since" (.int v) (.ref l) (upE θ l e)=some (upE θ l { e with since:=v }):=by
  unfold Z5
  rw [Zal h]
  simp only [ce]
  rw [if_pos ⟨trivial,show 25<1000 by decide⟩,show Zan ("since":Str) (.int v) (fields l e)=fields l { e with since:=v } by with_unfolding_all rfl]
  exact congrArg some (ZdA h e { e with since:=v } rfl rfl rfl)
@[simp] theorem Zy2 {θ:Sto} {l:Nat} (h:l+3 < θ.length) (e:Zs) (v:Int):Z5 ["End"] "wait" (.int v) (.ref l) (upE θ l e)=some (upE θ l { e with wait:=v }):=by
  unfold Z5
  rw [Zal h]
  simp only [ce]
  rw [if_pos ⟨trivial,show 25<1000 by decide⟩,show Zan ("wait":Str) (.int v) (fields l e)=fields l { e with wait:=v } by with_unfolding_all rfl]
  exact congrArg some (ZdA h e { e with wait:=v } rfl rfl rfl)
@[simp] theorem Zwp {θ:Sto} {l:Nat} (h:l+3 < θ.length) (e:Zs) (v:Int):Z5 ["End"] "tries" (.int v) (.ref l) (upE θ l e)=some (upE θ l { e with tries:=v }):=by
  unfold Z5
  rw [Zal h]
  simp only [ce]
  rw [if_pos ⟨trivial,show 25<1000 by decide⟩,show Zan ("tries":Str) (.int v) (fields l e)=fields l { e with tries:=v } by with_unfolding_all rfl]
  exact congrArg some (ZdA h e { e with tries:=v } rfl rfl rfl)
section
variable {θ:Sto} {l:Nat}
@[simp] theorem Zzs (h:l+3 < θ.length) (e:Zs):zC ["Pile"] "row" (.ref (l+1)) (upE θ l e)=.ok (il e.written) (upE θ l e):=by
  have:ZeG (upE θ l e) (.ref (l+1))=some (l+1,("Pile":Str),[(("row":Str),il e.written)]):=by
    show (match (upE θ l e)[l+1]? with | some (Cell.ins C fs)=>some (l+1,C,fs) | _=>none)=_
    rw [at1 h]
    rfl
  unfold zC
  rw [this]
  simp only [cp,if_true]
  rw [show ([("row",il e.written)]:List (Str×D)).lookup ("row":Str)=some (il e.written) by with_unfolding_all rfl]
@[simp] theorem Zzt (h:l+3 < θ.length) (e:Zs):zC ["Pile"] "row" (.ref (l+2)) (upE θ l e)=.ok (il e.come) (upE θ l e):=by
  have:ZeG (upE θ l e) (.ref (l+2))=some (l+2,("Pile":Str),[(("row":Str),il e.come)]):=by
    show (match (upE θ l e)[l+2]? with | some (Cell.ins C fs)=>some (l+2,C,fs) | _=>none)=_
    rw [Zv7 h]
    rfl
  unfold zC
  rw [this]
  simp only [cp,if_true]
  rw [show ([("row",il e.come)]:List (Str×D)).lookup ("row":Str)=some (il e.come) by with_unfolding_all rfl]
@[simp] theorem Zy4 (h:l+3 < θ.length) (e:Zs) (r:List Int):Z5 ["Pile"] "row" (il r) (.ref (l+1)) (upE θ l e)=some (upE θ l { e with written:=r }):=by
  have:ZeG (upE θ l e) (.ref (l+1))=some (l+1,("Pile":Str),[(("row":Str),il e.written)]):=by
    show (match (upE θ l e)[l+1]? with | some (Cell.ins C fs)=>some (l+1,C,fs) | _=>none)=_
    rw [at1 h]
    rfl
  unfold Z5
  rw [this]
  simp only [cp]
  rw [if_pos ⟨trivial,show 1<1000 by decide⟩,show Zan ("row":Str) (il r) [("row",il e.written)]=[(("row":Str),il r)] by with_unfolding_all rfl]
  congr 1
  unfold upE
  apply List.ext_getElem?
  intro i
  simp only [List.getElem?_set,List.length_set]
  by_cases q:l+1=i
  · subst q; simp [c1]
  · simp [q,c0,c2,c3,fields]
@[simp] theorem Zy5 (h:l+3 < θ.length) (e:Zs) (r:List Int):Z5 ["Pile"] "row" (il r) (.ref (l+2)) (upE θ l e)=some (upE θ l { e with come:=r }):=by
  have:ZeG (upE θ l e) (.ref (l+2))=some (l+2,("Pile":Str),[(("row":Str),il e.come)]):=by
    show (match (upE θ l e)[l+2]? with | some (Cell.ins C fs)=>some (l+2,C,fs) | _=>none)=_
    rw [Zv7 h]
    rfl
  unfold Z5
  rw [this]
  simp only [cp]
  rw [if_pos ⟨trivial,show 1<1000 by decide⟩,show Zan ("row":Str) (il r) [("row",il e.come)]=[(("row":Str),il r)] by with_unfolding_all rfl]
  congr 1
  unfold upE
  apply List.ext_getElem?
  intro i
  simp only [List.getElem?_set,List.length_set]
  by_cases q:l+2=i
  · subst q; simp [c2]
  · simp [q,c0,c1,c3,fields]
end
@[simp] theorem ZuZ:("closed":Str)=State.closed.s:=nr rfl
@[simp] theorem ZuY:("listen":Str)=State.listen.s:=nr rfl
@[simp] theorem Zut:("syn sent":Str)=State.synSent.s:=nr rfl
@[simp] theorem Zuu:("syn come":Str)=State.synCome.s:=nr rfl
@[simp] theorem ZyK:("open":Str)=State.opn.s:=nr rfl
@[simp] theorem Zus:("wait one":Str)=State.waitOne.s:=nr rfl
@[simp] theorem Zur:("wait two":Str)=State.waitTwo.s:=nr rfl
@[simp] theorem Zsv:("close wait":Str)=State.closeWait.s:=nr rfl
@[simp] theorem Zux:("closing":Str)=State.closing.s:=nr rfl
@[simp] theorem Zuw:("last ack":Str)=State.lastAck.s:=nr rfl
@[simp] theorem Zs6:("time wait":Str)=State.timeWait.s:=nr rfl
@[simp] theorem ZyL:("":Str)=Err.none.s:=nr rfl
@[simp] theorem Zuv:("refused":Str)=Err.refused.s:=nr rfl
@[simp] theorem Zwh:("reset":Str)=Err.reset.s:=nr rfl
@[simp] theorem ZyJ:("time":Str)=Err.time.s:=nr rfl
theorem State.inj:∀a b:State,a.s=b.s↔a=b:=by
  intro a b
  constructor
  · intro h
    cases a<;>cases b<;>first | rfl | (exact absurd h (by decide +kernel))
  · intro h; rw [h]
theorem Err.inj:∀a b:Err,a.s=b.s↔a=b:=by
  intro a b
  constructor
  · intro h
    cases a<;>cases b<;>first | rfl | (exact absurd h (by decide +kernel))
  · intro h; rw [h]
theorem ZpL (k:Nat) (x:Str):pl k (.str x)=PyData.strOk x:=by cases k<;>simp [pl]
theorem State.ok (a:State) (k:Nat):pl k (.str a.s)=true:=by
  rw [ZpL]
  cases a<;>decide +kernel
theorem Err.ok (a:Err) (k:Nat):pl k (.str a.s)=true:=by
  rw [ZpL]
  cases a<;>decide +kernel
section
variable {θ:Sto}
@[simp] theorem Zv0 (a b:State):eqM (.str a.s) (.str b.s) θ=.ok (.bl (decide (a=b))) θ:=by
  rw [Zgs (x:=.str a.s) (y:=.str b.s) (ZcD (State.ok a 9) (State.ok b 9) rfl rfl)]
  simp [State.inj]
@[simp] theorem ZvJ (a b:State):neM (.str a.s) (.str b.s) θ=.ok (.bl (!decide (a=b))) θ:=by
  rw [Zgi (x:=.str a.s) (y:=.str b.s) (ZcD (State.ok a 9) (State.ok b 9) rfl rfl)]
  simp [State.inj]
@[simp] theorem ZzB (a b:Err):eqM (.str a.s) (.str b.s) θ=.ok (.bl (decide (a=b))) θ:=by
  rw [Zgs (x:=.str a.s) (y:=.str b.s) (ZcD (Err.ok a 9) (Err.ok b 9) rfl rfl)]
  simp [Err.inj]
@[simp] theorem Zzf (a b:Err):neM (.str a.s) (.str b.s) θ=.ok (.bl (!decide (a=b))) θ:=by
  rw [Zgi (x:=.str a.s) (y:=.str b.s) (ZcD (Err.ok a 9) (Err.ok b 9) rfl rfl)]
  simp [Err.inj]
theorem Zfo (a:State):∀bs:List State,Zia (bs.map fun b=>D.str b.s)=true∧memS a.s (bs.map fun b=>D.str b.s)=decide (a∈bs)
  | []=>⟨rfl,by simp [memS]⟩
  | b::bs=>by
    obtain ⟨h1,h2⟩:=Zfo a bs
    refine ⟨h1,?_⟩
    rw [List.map_cons]
    show (decide (b.s=a.s) || memS a.s (bs.map fun b=>D.str b.s))=_
    rw [h2,Bool.eq_iff_iff]
    simp only [Bool.or_eq_true,decide_eq_true_eq,List.mem_cons,State.inj]
    constructor
    · rintro (h | h)
      · exact .inl h.symm
      · exact .inr h
    · rintro (h | h)
      · exact .inl h.symm
      · exact .inr h
theorem Zgr (a:State) (bs:List State):inM (.str a.s) (.tup (bs.map fun b=>.str b.s)) θ=.ok (.bl (decide (a∈bs))) θ:=by
  obtain ⟨h1,h2⟩:=Zfo a bs
  have e:inD θ (.str a.s) (.tup (bs.map fun b=>D.str b.s))=some (decide (a∈bs)):=by
    unfold inD
    simp only [ZgF]
    rw [if_pos h1,h2]
  unfold inM
  rw [e]
theorem ZfO (a:State) (bs:List State):Zcg (.str a.s) (.tup (bs.map fun b=>.str b.s)) θ=.ok (.bl (!decide (a∈bs))) θ:=by
  obtain ⟨h1,h2⟩:=Zfo a bs
  have e:inD θ (.str a.s) (.tup (bs.map fun b=>D.str b.s))=some (decide (a∈bs)):=by
    unfold inD
    simp only [ZgF]
    rw [if_pos h1,h2]
  unfold Zcg
  rw [e]
@[simp] theorem Zz8 (a b c:State):inM (.str a.s) (.tup [.str b.s,.str c.s]) θ=.ok (.bl (decide (a∈[b,c]))) θ:=Zgr a [b,c]
@[simp] theorem Zz7 (a b c d:State):inM (.str a.s) (.tup [.str b.s,.str c.s,.str d.s]) θ=.ok (.bl (decide (a∈[b,c,d]))) θ:=Zgr a [b,c,d]
@[simp] theorem Zz6 (a b c d e f:State):inM (.str a.s) (.tup [.str b.s,.str c.s,.str d.s,.str e.s,.str f.s]) θ=.ok (.bl (decide (a∈[b,c,d,e,f]))) θ:=Zgr a [b,c,d,e,f]
@[simp] theorem ZvI (a b c d:State):Zcg (.str a.s) (.tup [.str b.s,.str c.s,.str d.s]) θ=.ok (.bl (!decide (a∈[b,c,d]))) θ:=ZfO a [b,c,d]
@[simp] theorem ZvH (a b c d e:State):Zcg (.str a.s) (.tup [.str b.s,.str c.s,.str d.s,.str e.s]) θ=.ok (.bl (!decide (a∈[b,c,d,e]))) θ:=ZfO a [b,c,d,e]
end
end
end My
set_option Elab.async false
set_option linter.all false
set_option maxRecDepth 100000
set_option maxHeartbeats 4000000
namespace My
open PySem L2 L2.MM
noncomputable section
def ZA (n k:Int):Int:=(n+k) % 4294967296
def Z0 (n b:Int):Int:=(n-b+2147483648) % 4294967296-2147483648
def zb (e:Zs) (now:Int):Zs:={ e with since:=now,wait:=1000,tries:=0 }
def ZL (e:Zs):Int:=64-(e.come.length:Int)
def zH (e:Zs):Int:=if 16<e.most then 16 else e.most
def ZdH (e:Zs) (now:Int):Bool:=decide (e.wait≤now-e.since)
def ZcW (e:Zs) (n f:Int) (data:List Int):Seg:=⟨e.ours,e.theirs,n,e.rcv,f+16,ZL e,0,data⟩
def ZfF (e:Zs):Seg:=if e.state=.synSent then ⟨e.ours,e.theirs,e.first,0,2,64,16,[]⟩ else ⟨e.ours,e.theirs,e.first,e.rcv,18,64,16,[]⟩
def mn (i j:Int):Int:=if j<i then j else i
def Zcl (e:Zs):List Int:=Za9 e.written none (some (mn (Z0 e.nxt e.una) (zH e)))
def again (e:Zs) (now:Int):Option Seg×Zs:=
  if e.tries=6 then (none,{ e with state:=.closed,error:=.time })
  else
    let e1:={ e with tries:=e.tries+1,wait:=mn (2*e.wait) 16000,since:=now }
    if e.state=.synSent∨e.state=.synCome then (some (ZfF e1),{ e1 with owes_syn:=false })
    else (some (ZcW e1 e.una (if 0<(Zcl e).length then 0 else 1) (Zcl e)),e1)
def Zb9 (e:Zs):Int:=Z0 e.behind e.nxt
def Zah (e:Zs):Bool:=decide (e.state∈[State.opn,.waitOne,.closeWait,.closing,.lastAck]) && decide (0<Zb9 e)
def hasNewFin (e:Zs):Bool:=decide (e.state∈[State.waitOne,.closing,.lastAck]) && decide (Zb9 e=0)
def ZaW (e:Zs):Bool:=Zah e || hasNewFin e
section
variable {θ:Sto} {l:Nat} {e:Zs} {now n k:Int}
@[simp] theorem ZyM:zn [.int n,.int k] θ=.ok (.int (ZA n k)) θ:=by simp [zn,ZlE,ZA]
@[simp] theorem Zu3:zA [.int n,.int k] θ=.ok (.int (Z0 n k)) θ:=by simp [zA,Zh0,Z0]
@[simp] theorem Zq3 (h:l+3 < θ.length):Z8 [.ref l,.int now] (upE θ l e)=.ok .non (upE θ l (zb e now)):=by
  simp [Z8,Zem,h,zb]
@[simp] theorem Zwi (h:l+3 < θ.length):ZfG [.ref l] (upE θ l e)=.ok (.str e.state.s) (upE θ l e):=by
  simp [ZfG,ZiU,h]
@[simp] theorem Zwm (h:l+3 < θ.length):ZfI [.ref l] (upE θ l e)=.ok (.str e.error.s) (upE θ l e):=by
  simp [ZfI,ZiV,h]
@[simp] theorem Zwk (h:l+3 < θ.length):ZdV [.ref (l+2)] (upE θ l e)=.ok (.int (ZL e)) (upE θ l e):=by
  simp [ZdV,ZhY,h,ZL]
@[simp] theorem Zrf (h:l+3 < θ.length):zK [.ref l] (upE θ l e)=.ok (.int (ZL e)) (upE θ l e):=by
  simp [zK,ZeP,h]
@[simp] theorem Zpp (h:l+3 < θ.length):Zac [.ref l] (upE θ l e)=.ok (.int (zH e)) (upE θ l e):=by
  simp [Zac,ZdJ,h,zH]
@[simp] theorem Zu6 (h:l+3 < θ.length):ZcZ [.ref l,.int now] (upE θ l e)=.ok (.bl (ZdH e now)) (upE θ l e):=by
  simp [ZcZ,Zh3,h,ZdH]
theorem ZsI (a b c d f g i:Int) (x:List Int):D.tup [.int a,.int b,.int c,.int d,.int f,.int g,.int i,itp x]=(Seg.mk a b c d f g i x).d:=rfl
theorem Zfm (a b c d f g i:Int):D.tup [.int a,.int b,.int c,.int d,.int f,.int g,.int i,.tup []]=(Seg.mk a b c d f g i []).d:=rfl
@[simp] theorem Ztc (h:l+3 < θ.length):ZbD [.ref l] (upE θ l e)=.ok (ZfF e).d (upE θ l { e with owes_syn:=false }):=by
  by_cases c:e.state=.synSent<;>simp [ZbD,ZfZ,ZeN,h,ZfF,c,Zfm]
@[simp] theorem Zre {f:Int} {data:List Int} (h:l+3 < θ.length):zz [.ref l,.int n,.int f,il data] (upE θ l e)=.ok (ZcW e n f data).d (upE θ l e):=by
  simp [zz,ZeL,h,ZcW,ZsI]
theorem Zro (h:l+3 < θ.length):Zdf [.ref l,.int now] (upE θ l e)=.ok (Zbp (again e now).1) (upE θ l (again e now).2):=by
  by_cases c:e.tries=6
  · simp [Zdf,ZdO,Zcx,h,again,c,Zbp]
  · by_cases c2:e.state=.synSent∨e.state=.synCome
    · simp [Zdf,ZdO,Zcx,Zdq,h,again,c,c2,Zbp,Zeq,mn]
    · have am:∀e':Zs,e'.most=e.most→zH e'=zH e:=fun e' h=>by unfold zH; rw [h]
      have ad:Zcl e=Za9 e.written none (some (mn (Z0 e.nxt e.una) (zH e))):=rfl
      have sl:∀e':Zs,e'.written=e.written→Zfl (upE θ l e') (il e'.written) none (some (if zH e<Z0 e.nxt e.una then zH e else Z0 e.nxt e.una))=some (il (Zcl e)):=fun e' h'=>by
        rw [ZmU,h']; rfl
      unfold again
      rw [if_neg c,if_neg c2]
      have c2':¬(e.state=State.synSent∨e.state=State.synCome):=c2
      by_cases c3:0<(Zcl e).length
      · rw [if_pos c3]
        have c3':(0:Int)<(Zcl e).length:=by omega
        simp [Zdf,ZdO,Zcx,Zdq,h,c,c2',Zeq,mn,am,sl,c3,c3',Zbp,-ZmU,ZcW,ZL]
      · rw [if_neg c3]
        have c3':¬(0:Int)<(Zcl e).length:=by omega
        simp [Zdf,ZdO,Zcx,Zdq,h,c,c2',Zeq,mn,am,sl,c3,c3',Zbp,-ZmU,ZcW,ZL]
@[simp] theorem Zu0 (h:l+3 < θ.length):Zbu [.ref l] (upE θ l e)=.ok (.int (Zb9 e)) (upE θ l e):=by
  simp [Zbu,ZhU,h,Zb9]
@[simp] theorem Zpr (h:l+3 < θ.length):Zae [.ref l] (upE θ l e)=.ok (.bl (Zah e)) (upE θ l e):=by
  simp [Zae,ZdM,h,Zah]
@[simp] theorem Zq5 (h:l+3 < θ.length):Zbv [.ref l] (upE θ l e)=.ok (.bl (hasNewFin e)) (upE θ l e):=by
  simp [Zbv,Zen,h,hasNewFin]
@[simp] theorem Ztl (h:l+3 < θ.length):ZbF [.ref l] (upE θ l e)=.ok (.bl (ZaW e)) (upE θ l e):=by
  simp [ZbF,Zf2,h,ZaW]
end
def mn3 (i j k:Int):Int:=if j<i then (if k<j then k else j) else (if k<i then k else i)
def Ze5 (e:Zs) (room:Int):Int:=mn3 (zH e) (Zb9 e) room
def Ze6 (e:Zs) (room:Int):Seg×Zs:=
  let e1:={ e with nxt:=ZA e.nxt (Ze5 e room) }
  (ZcW e1 e.nxt (if Zb9 e1=0 then 8 else 0) (Za9 e.written (some (Z0 e.nxt e.una)) (some (Z0 e.nxt e.una+Ze5 e room))),e1)
def ZhE (e:Zs):Seg×Zs:=(ZcW e e.nxt 1 [],{ e with nxt:=ZA e.nxt 1 })
def zY (e:Zs) (room:Int):Seg×Zs:=if Zah e=true then Ze6 { e with probes:=false } room else ZhE { e with probes:=false }
def Zfn (e:Zs) (now:Int):Seg×Zs:=
  let e1:=if e.nxt=e.una then zb e now else e
  (ZfF { e1 with nxt:=ZA e.first 1 },{ e1 with nxt:=ZA e.first 1,owes_syn:=false })
def zp (e:Zs) (now:Int):Option Seg×Zs:=
  if e.state=.synSent∨e.state=.synCome then
    if e.nxt=e.first∨e.owes_syn=true then (some (Zfn e now).1,(Zfn e now).2) else (none,e)
  else
    if e.wnd-Z0 e.nxt e.una≤0∨ZaW e=false then (none,e)
    else
      let e1:=if e.nxt=e.una then zb e now else e
      (some (zY { e1 with owes_answer:=false } (e.wnd-Z0 e.nxt e.una)).1,(zY { e1 with owes_answer:=false } (e.wnd-Z0 e.nxt e.una)).2)
def zk (e:Zs) (now:Int):Option Seg×Zs:=
  if ¬e.nxt=e.una∨¬e.wnd=0∨ZaW e=false then (none,{ e with probes:=false })
  else
    let e1:=if e.probes=true then e else zb { e with probes:=true } now
    if ZdH e1 now=true then (some (zY { e1 with since:=now } 1).1,(zY { e1 with since:=now } 1).2) else (none,e1)
def z8 (e:Zs):Option Seg×Zs:=if e.owes_answer=true then (some (ZcW e e.nxt 0 []),{ e with owes_answer:=false }) else (none,e)
def ZbX (e:Zs) (now:Int):Option Seg×Zs:=
  match zp e now with
  | (some s,e1)=>(some s,e1)
  | (none,e1)=>match zk e1 now with
    | (some s,e2)=>(some s,e2)
    | (none,e2)=>z8 e2
def zR (e:Zs) (now:Int):Option Seg×Zs:=
  match e.owed_reset with
  | some s=>(some s,{ e with owed_reset:=none })
  | none=>
    let e1:=if e.state=.timeWait∧120000≤now-e.since then { e with state:=.closed } else e
    if e1.state=.closed∨e1.state=.listen then (none,e1)
    else if ¬e1.nxt=e1.una∧ZdH e1 now=true then again e1 now
    else ZbX e1 now
section
variable {θ:Sto} {l:Nat} {e:Zs} {now n k:Int}
@[simp] theorem Ztd {r:Int} (h:l+3 < θ.length):Zcc [.ref l,.int r] (upE θ l e)=.ok (Ze6 e r).1.d (upE θ l (Ze6 e r).2):=by
  have em:(if Zb9 e<zH e then (if r<Zb9 e then r else Zb9 e) else (if r<zH e then r else zH e))=Ze5 e r:=rfl
  by_cases c:Zb9 { e with nxt:=ZA e.nxt (Ze5 e r) }=0
  · simp [Zcc,Zeb,h,em]
    simp [Ze6,c,ZcW,ZL,h]
  · simp [Zcc,Zeb,h,em]
    simp [Ze6,c,ZcW,ZL,h]
@[simp] theorem Zuz (h:l+3 < θ.length):ZdD [.ref l] (upE θ l e)=.ok (ZhE e).1.d (upE θ l (ZhE e).2):=by
  simp [ZdD,ZgR,h,ZhE,ZcW,ZL,ZcC]
@[simp] theorem ZsA {r:Int} (h:l+3 < θ.length):ZaQ [.ref l,.int r] (upE θ l e)=.ok (zY e r).1.d (upE θ l (zY e r).2):=by
  have hp:Zah { e with probes:=false }=Zah e:=rfl
  by_cases c:Zah e=true
  · simp [ZaQ,Zdv,h,zY,c,hp]
  · simp [ZaQ,Zdv,h,zY,c,hp]
@[simp] theorem Zuy (h:l+3 < θ.length):ZcP [.ref l,.int now] (upE θ l e)=.ok (Zfn e now).1.d (upE θ l (Zfn e now).2):=by
  by_cases c:e.nxt=e.una
  · simp [ZcP,ZeQ,Zdu,h,Zfn,c,zb]
  · simp [ZcP,ZeQ,Zdu,h,Zfn,c]
theorem ZcU (h:l+3 < θ.length):Z6 [.ref l,.int now] (upE θ l e)=.ok (Zbp (zp e now).1) (upE θ l (zp e now).2):=by
  by_cases c1:e.state=.synSent∨e.state=.synCome
  · by_cases c2:e.nxt=e.first∨e.owes_syn=true
    · simp [Z6,zJ,zr,h,zp,c1,c2,Zbp]
    · simp [Z6,zJ,zr,h,zp,c1,c2,Zbp]
  · by_cases c3:e.wnd-Z0 e.nxt e.una≤0
    · simp [Z6,zJ,zr,Zai,h,zp,c1,c3,Zbp]
    · by_cases c4:ZaW e=true
      · by_cases c5:e.nxt=e.una
        · have c3':=c3
          rw [c5] at c3'
          simp [Z6,zJ,zr,Zai,ZbH,h,zp,c1,c3',c4,c5,Zbp,zb]
        · simp [Z6,zJ,zr,Zai,ZbH,h,zp,c1,c3,c4,c5,Zbp]
      · simp [Z6,zJ,zr,Zai,h,zp,c1,c3,c4,Zbp]
theorem Zdx (h:l+3 < θ.length):Z9 [.ref l,.int now] (upE θ l e)=.ok (Zbp (zk e now).1) (upE θ l (zk e now).2):=by
  by_cases c1:e.nxt=e.una
  · by_cases c2:e.wnd=0
    · by_cases c3:ZaW e=true
      · by_cases c4:e.probes=true
        · by_cases c5:ZdH e now=true
          · simp [Z9,zq,zd,Zaw,Zav,h,zk,c1,c2,c3,c4,c5,Zbp]
          · simp [Z9,zq,zd,Zaw,Zav,h,zk,c1,c2,c3,c4,c5,Zbp]
        · have c5:ZdH (zb { e with probes:=true } now) now=false:=by simp [ZdH,zb]
          simp [Z9,zq,zd,Zaw,Zav,h,zk,c1,c2,c3,c4,Zbp] at c5 ⊢
          simp [c5,ZdH,zb]
      · simp [Z9,zq,zd,h,zk,c1,c2,c3,Zbp]
    · simp [Z9,zq,zd,h,zk,c1,c2,Zbp]
  · simp [Z9,zq,zd,h,zk,c1,Zbp]
theorem Zfy (h:l+3 < θ.length):zU [.ref l] (upE θ l e)=.ok (Zbp (z8 e).1) (upE θ l (z8 e).2):=by
  by_cases c:e.owes_answer=true
  · simp [zU,Zbs,Za4,h,z8,c,Zbp,ZcC,ZcW,ZL]
  · simp [zU,Zbs,Za4,h,z8,c,Zbp]
@[simp] theorem ZuD:Zbp none=.non:=rfl
@[simp] theorem ZuC (s:Seg):Zbp (some s)=s.d:=rfl
@[simp] theorem Zww (s:Seg):Zcu s.d=false:=rfl
@[simp] theorem ZuH:Zcu .non=true:=nr rfl
@[simp] theorem ZsK (h:l+3 < θ.length) (e:Zs):Z5 ["End"] "owed_reset" .non (.ref l) (upE θ l e)=some (upE θ l { e with owed_reset:=none }):=ZfA h e none
@[simp] theorem ZsJ (h:l+3 < θ.length) (e:Zs) (s:Seg):Z5 ["End"] "owed_reset" s.d (.ref l) (upE θ l e)=some (upE θ l { e with owed_reset:=some s }):=ZfA h e (some s)
theorem Zio (h:l+3 < θ.length) (x:Sl):Zhs (ZS 2 (mCB Z6 (Zc (Zd 0) (Zc (Zd 1) Zk))) [.val (.ref l),.val (.int now),x] (upE θ l e)) (Zp ZbN (Zp ZbM (ZJ (Zd 2)))) =
    .ok (.rt (Zbp (ZbX e now).1),[.val (.ref l),.val (.int now),.val (Zbp (ZbX e now).1)]) (upE θ l (ZbX e now).2):=by
  unfold ZbX
  cases c1:zp e now with
  | mk r1 e1=>
    cases r1 with
    | some s=>simp [h,ZcU,c1,ZbN,ZbM]
    | none=>
      cases c2:zk e1 now with
      | mk r2 e2=>
        cases r2 with
        | some s=>simp [h,ZcU,c1,ZbN,ZbM,Zdx,c2]
        | none=>simp [h,ZcU,c1,ZbN,ZbM,Zdx,c2,Zfy]
theorem Zmm (h:l+3 < θ.length):ZdX [.ref l,.int now] (upE θ l e)=.ok (Zbp (zR e now).1) (upE θ l (zR e now).2):=by
  cases c0:e.owed_reset with
  | some s=>simp [ZdX,Zfa,Zdn,h,zR,c0,ZcL,ZeO]
  | none=>
    have key:∀e1:Zs,(Zhs (ZbO [.val (.ref l),.val (.int now),.no] (upE θ l e1)) (Zp Zcw (Zp (ZS 2 (mCB Z6 (Zc (Zd 0) (Zc (Zd 1) Zk)))) (Zp ZbN (Zp ZbM (ZJ (Zd 2))))))).bind (fun p θ=>match p.1 with | .nx=>.ok .non θ | .rt d=>.ok d θ | _=>.bad) =
        .ok (Zbp (if e1.state=.closed∨e1.state=.listen then (none,e1) else if ¬e1.nxt=e1.una∧ZdH e1 now=true then again e1 now else ZbX e1 now).1) (upE θ l (if e1.state=.closed∨e1.state=.listen then (none,e1) else if ¬e1.nxt=e1.una∧ZdH e1 now=true then again e1 now else ZbX e1 now).2):=fun e1=>by
      by_cases c1:e1.state=.closed∨e1.state=.listen
      · simp [ZbO,h,c1]
      · by_cases c2:e1.nxt=e1.una
        · have g:=Zio (e:=e1) (now:=now) h .no
          simp at g
          simp [ZbO,Zcw,h,c1,c2]
          rw [g]
          simp
        · by_cases c3:ZdH e1 now=true
          · simp [ZbO,Zcw,h,c1,c2,c3,Zro]
          · have g:=Zio (e:=e1) (now:=now) h .no
            simp at g
            simp [ZbO,Zcw,h,c1,c2,c3]
            rw [g]
            simp
    by_cases c1:e.state=.timeWait∧120000≤now-e.since
    · have:=key { e with state:=.closed }
      simp [ZdX,Zfa,Zdn,ZeU,h,zR,c0,c1] at this ⊢
      exact this
    · have:=key e
      simp [ZdX,Zfa,Zdn,ZeU,h,zR,c0,c1] at this ⊢
      exact this
def Zi6 (e:Zs) (now:Int):List Int:=match (zR e now).1 with
  | none=>[]
  | some s=>putL s
theorem Ztb (h:l+3 < θ.length) (hp:∀s,(zR e now).1=some s→s.Put):Zcz [.ref l,.int now] (upE θ l e)=.ok (il (Zi6 e now)) (upE θ l (zR e now).2):=by
  unfold Zi6
  cases c:(zR e now).1 with
  | none=>simp [Zcz,ZhX,Zmm,h,c,ZcC]
  | some s=>simp [Zcz,ZhX,Zmm,h,c,Zu2 (hp s c)]
def newEnd (ours theirs first:Int) (active:Bool):Zs:=⟨ours,theirs,if active then .synSent else .listen,.none,first,first,first,0,0,0,0,12,[],[],[],none,false,ZA first 1,none,false,false,false,0,1000,0⟩
def cells (l:Nat) (e:Zs):Sto:=[c0 l e,c1 e,c2 e,c3 e]
theorem ZnF (θ r:Sto) (C:Str) (fs:List (Str×D)):ZeG (θ++.ins C fs::r) (.ref θ.length)=some (θ.length,C,fs):=by
  show (match (θ++.ins C fs::r)[θ.length]? with | some (Cell.ins C fs)=>some (θ.length,C,fs) | _=>none)=_
  rw [List.getElem?_append_right (Nat.le_refl _),Nat.sub_self]
  rfl
theorem Ziv {f:Str} {y:D}:∀{fs:List (Str×D)},(fs.map Prod.fst).contains f=false→Zan f y fs=fs++[(f,y)]
  | [],_=>rfl
  | (g,x)::r,h=>by
    rw [List.map_cons,List.contains_cons,Bool.or_eq_false_iff] at h
    have hn:¬g=f:=fun e=>by rw [e,beq_self_eq_true] at h; cases h.1
    unfold Zan
    rw [if_neg hn,Ziv h.2]
    rfl
theorem Z1 {C f:Str} {y:D} (θ r:Sto) {fs:List (Str×D)} (h0:[C].contains C=true) (h1:(fs.map Prod.fst).contains f=false) (h2:fs.length<1000):Z5 [C] f y (.ref θ.length) (θ++.ins C fs::r)=some (θ++.ins C (fs++[(f,y)])::r):=by
  unfold Z5
  rw [ZnF]
  simp only [h0]
  rw [if_pos ⟨trivial,h2⟩,Ziv h1]
  congr 1
  rw [List.set_append,if_neg (Nat.lt_irrefl _),Nat.sub_self]
  rfl
theorem ZmM (S:Sto):mkG "Pile" ZbK [] S=.ok (.ref S.length) (S++[.ins "Pile" [("row",il [])]]):=by
  have:=Z1 (C:="Pile") (f:="row") (y:=il []) S [] (fs:=[]) (by decide +kernel) rfl (by decide)
  simp [mkG,ZbK,Zfi,ZcC,this]
theorem Zp4 (θ r:Sto) (y:D):Z5 ["End"] "ours" y (.ref θ.length) (θ++.ins "End" []::r)=some (θ++.ins "End" [("ours",y)]::r):=Z1 θ r ce (by simp only [List.map_cons,List.map_nil]; decide +kernel) (by simp only [List.length_cons,List.length_nil]; decide)
theorem Zk8 (θ r:Sto) (x0 y:D):Z5 ["End"] "theirs" y (.ref θ.length) (θ++.ins "End" [("ours",x0)]::r)=some (θ++.ins "End" [("ours",x0),("theirs",y)]::r):=Z1 θ r ce (by simp only [List.map_cons,List.map_nil]; decide +kernel) (by simp only [List.length_cons,List.length_nil]; decide)
theorem ZmG (θ r:Sto) (x0 x1 y:D):Z5 ["End"] "state" y (.ref θ.length) (θ++.ins "End" [("ours",x0),("theirs",x1)]::r)=some (θ++.ins "End" [("ours",x0),("theirs",x1),("state",y)]::r):=Z1 θ r ce (by simp only [List.map_cons,List.map_nil]; decide +kernel) (by simp only [List.length_cons,List.length_nil]; decide)
theorem ZmJ (θ r:Sto) (x0 x1 x2 y:D):Z5 ["End"] "error" y (.ref θ.length) (θ++.ins "End" [("ours",x0),("theirs",x1),("state",x2)]::r)=some (θ++.ins "End" [("ours",x0),("theirs",x1),("state",x2),("error",y)]::r):=Z1 θ r ce (by simp only [List.map_cons,List.map_nil]; decide +kernel) (by simp only [List.length_cons,List.length_nil]; decide)
theorem ZmI (θ r:Sto) (x0 x1 x2 x3 y:D):Z5 ["End"] "first" y (.ref θ.length) (θ++.ins "End" [("ours",x0),("theirs",x1),("state",x2),("error",x3)]::r)=some (θ++.ins "End" [("ours",x0),("theirs",x1),("state",x2),("error",x3),("first",y)]::r):=Z1 θ r ce (by simp only [List.map_cons,List.map_nil]; decide +kernel) (by simp only [List.length_cons,List.length_nil]; decide)
theorem ZsQ (θ r:Sto) (x0 x1 x2 x3 x4 y:D):Z5 ["End"] "una" y (.ref θ.length) (θ++.ins "End" [("ours",x0),("theirs",x1),("state",x2),("error",x3),("first",x4)]::r)=some (θ++.ins "End" [("ours",x0),("theirs",x1),("state",x2),("error",x3),("first",x4),("una",y)]::r):=Z1 θ r ce (by simp only [List.map_cons,List.map_nil]; decide +kernel) (by simp only [List.length_cons,List.length_nil]; decide)
theorem ZsS (θ r:Sto) (x0 x1 x2 x3 x4 x5 y:D):Z5 ["End"] "nxt" y (.ref θ.length) (θ++.ins "End" [("ours",x0),("theirs",x1),("state",x2),("error",x3),("first",x4),("una",x5)]::r)=some (θ++.ins "End" [("ours",x0),("theirs",x1),("state",x2),("error",x3),("first",x4),("una",x5),("nxt",y)]::r):=Z1 θ r ce (by simp only [List.map_cons,List.map_nil]; decide +kernel) (by simp only [List.length_cons,List.length_nil]; decide)
theorem ZsR (θ r:Sto) (x0 x1 x2 x3 x4 x5 x6 y:D):Z5 ["End"] "rcv" y (.ref θ.length) (θ++.ins "End" [("ours",x0),("theirs",x1),("state",x2),("error",x3),("first",x4),("una",x5),("nxt",x6)]::r)=some (θ++.ins "End" [("ours",x0),("theirs",x1),("state",x2),("error",x3),("first",x4),("una",x5),("nxt",x6),("rcv",y)]::r):=Z1 θ r ce (by simp only [List.map_cons,List.map_nil]; decide +kernel) (by simp only [List.length_cons,List.length_nil]; decide)
theorem ZsP (θ r:Sto) (x0 x1 x2 x3 x4 x5 x6 x7 y:D):Z5 ["End"] "wnd" y (.ref θ.length) (θ++.ins "End" [("ours",x0),("theirs",x1),("state",x2),("error",x3),("first",x4),("una",x5),("nxt",x6),("rcv",x7)]::r)=some (θ++.ins "End" [("ours",x0),("theirs",x1),("state",x2),("error",x3),("first",x4),("una",x5),("nxt",x6),("rcv",x7),("wnd",y)]::r):=Z1 θ r ce (by simp only [List.map_cons,List.map_nil]; decide +kernel) (by simp only [List.length_cons,List.length_nil]; decide)
theorem Zp3 (θ r:Sto) (x0 x1 x2 x3 x4 x5 x6 x7 x8 y:D):Z5 ["End"] "told" y (.ref θ.length) (θ++.ins "End" [("ours",x0),("theirs",x1),("state",x2),("error",x3),("first",x4),("una",x5),("nxt",x6),("rcv",x7),("wnd",x8)]::r)=some (θ++.ins "End" [("ours",x0),("theirs",x1),("state",x2),("error",x3),("first",x4),("una",x5),("nxt",x6),("rcv",x7),("wnd",x8),("told",y)]::r):=Z1 θ r ce (by simp only [List.map_cons,List.map_nil]; decide +kernel) (by simp only [List.length_cons,List.length_nil]; decide)
theorem ZiA (θ r:Sto) (x0 x1 x2 x3 x4 x5 x6 x7 x8 x9 y:D):Z5 ["End"] "told_by" y (.ref θ.length) (θ++.ins "End" [("ours",x0),("theirs",x1),("state",x2),("error",x3),("first",x4),("una",x5),("nxt",x6),("rcv",x7),("wnd",x8),("told",x9)]::r)=some (θ++.ins "End" [("ours",x0),("theirs",x1),("state",x2),("error",x3),("first",x4),("una",x5),("nxt",x6),("rcv",x7),("wnd",x8),("told",x9),("told_by",y)]::r):=Z1 θ r ce (by simp only [List.map_cons,List.map_nil]; decide +kernel) (by simp only [List.length_cons,List.length_nil]; decide)
theorem Zp5 (θ r:Sto) (x0 x1 x2 x3 x4 x5 x6 x7 x8 x9 x10 y:D):Z5 ["End"] "most" y (.ref θ.length) (θ++.ins "End" [("ours",x0),("theirs",x1),("state",x2),("error",x3),("first",x4),("una",x5),("nxt",x6),("rcv",x7),("wnd",x8),("told",x9),("told_by",x10)]::r)=some (θ++.ins "End" [("ours",x0),("theirs",x1),("state",x2),("error",x3),("first",x4),("una",x5),("nxt",x6),("rcv",x7),("wnd",x8),("told",x9),("told_by",x10),("most",y)]::r):=Z1 θ r ce (by simp only [List.map_cons,List.map_nil]; decide +kernel) (by simp only [List.length_cons,List.length_nil]; decide)
theorem Ziz (θ r:Sto) (x0 x1 x2 x3 x4 x5 x6 x7 x8 x9 x10 x11 y:D):Z5 ["End"] "written" y (.ref θ.length) (θ++.ins "End" [("ours",x0),("theirs",x1),("state",x2),("error",x3),("first",x4),("una",x5),("nxt",x6),("rcv",x7),("wnd",x8),("told",x9),("told_by",x10),("most",x11)]::r)=some (θ++.ins "End" [("ours",x0),("theirs",x1),("state",x2),("error",x3),("first",x4),("una",x5),("nxt",x6),("rcv",x7),("wnd",x8),("told",x9),("told_by",x10),("most",x11),("written",y)]::r):=Z1 θ r ce (by simp only [List.map_cons,List.map_nil]; decide +kernel) (by simp only [List.length_cons,List.length_nil]; decide)
theorem Zp6 (θ r:Sto) (x0 x1 x2 x3 x4 x5 x6 x7 x8 x9 x10 x11 x12 y:D):Z5 ["End"] "come" y (.ref θ.length) (θ++.ins "End" [("ours",x0),("theirs",x1),("state",x2),("error",x3),("first",x4),("una",x5),("nxt",x6),("rcv",x7),("wnd",x8),("told",x9),("told_by",x10),("most",x11),("written",x12)]::r)=some (θ++.ins "End" [("ours",x0),("theirs",x1),("state",x2),("error",x3),("first",x4),("una",x5),("nxt",x6),("rcv",x7),("wnd",x8),("told",x9),("told_by",x10),("most",x11),("written",x12),("come",y)]::r):=Z1 θ r ce (by simp only [List.map_cons,List.map_nil]; decide +kernel) (by simp only [List.length_cons,List.length_nil]; decide)
theorem ZmK (θ r:Sto) (x0 x1 x2 x3 x4 x5 x6 x7 x8 x9 x10 x11 x12 x13 y:D):Z5 ["End"] "early" y (.ref θ.length) (θ++.ins "End" [("ours",x0),("theirs",x1),("state",x2),("error",x3),("first",x4),("una",x5),("nxt",x6),("rcv",x7),("wnd",x8),("told",x9),("told_by",x10),("most",x11),("written",x12),("come",x13)]::r)=some (θ++.ins "End" [("ours",x0),("theirs",x1),("state",x2),("error",x3),("first",x4),("una",x5),("nxt",x6),("rcv",x7),("wnd",x8),("told",x9),("told_by",x10),("most",x11),("written",x12),("come",x13),("early",y)]::r):=Z1 θ r ce (by simp only [List.map_cons,List.map_nil]; decide +kernel) (by simp only [List.length_cons,List.length_nil]; decide)
theorem ZgH (θ r:Sto) (x0 x1 x2 x3 x4 x5 x6 x7 x8 x9 x10 x11 x12 x13 x14 y:D):Z5 ["End"] "early_fin" y (.ref θ.length) (θ++.ins "End" [("ours",x0),("theirs",x1),("state",x2),("error",x3),("first",x4),("una",x5),("nxt",x6),("rcv",x7),("wnd",x8),("told",x9),("told_by",x10),("most",x11),("written",x12),("come",x13),("early",x14)]::r)=some (θ++.ins "End" [("ours",x0),("theirs",x1),("state",x2),("error",x3),("first",x4),("una",x5),("nxt",x6),("rcv",x7),("wnd",x8),("told",x9),("told_by",x10),("most",x11),("written",x12),("come",x13),("early",x14),("early_fin",y)]::r):=Z1 θ r ce (by simp only [List.map_cons,List.map_nil]; decide +kernel) (by simp only [List.length_cons,List.length_nil]; decide)
theorem ZfM (θ r:Sto) (x0 x1 x2 x3 x4 x5 x6 x7 x8 x9 x10 x11 x12 x13 x14 x15 y:D):Z5 ["End"] "has_closed" y (.ref θ.length) (θ++.ins "End" [("ours",x0),("theirs",x1),("state",x2),("error",x3),("first",x4),("una",x5),("nxt",x6),("rcv",x7),("wnd",x8),("told",x9),("told_by",x10),("most",x11),("written",x12),("come",x13),("early",x14),("early_fin",x15)]::r)=some (θ++.ins "End" [("ours",x0),("theirs",x1),("state",x2),("error",x3),("first",x4),("una",x5),("nxt",x6),("rcv",x7),("wnd",x8),("told",x9),("told_by",x10),("most",x11),("written",x12),("come",x13),("early",x14),("early_fin",x15),("has_closed",y)]::r):=Z1 θ r ce (by simp only [List.map_cons,List.map_nil]; decide +kernel) (by simp only [List.length_cons,List.length_nil]; decide)
theorem Zla (θ r:Sto) (x0 x1 x2 x3 x4 x5 x6 x7 x8 x9 x10 x11 x12 x13 x14 x15 x16 y:D):Z5 ["End"] "behind" y (.ref θ.length) (θ++.ins "End" [("ours",x0),("theirs",x1),("state",x2),("error",x3),("first",x4),("una",x5),("nxt",x6),("rcv",x7),("wnd",x8),("told",x9),("told_by",x10),("most",x11),("written",x12),("come",x13),("early",x14),("early_fin",x15),("has_closed",x16)]::r)=some (θ++.ins "End" [("ours",x0),("theirs",x1),("state",x2),("error",x3),("first",x4),("una",x5),("nxt",x6),("rcv",x7),("wnd",x8),("told",x9),("told_by",x10),("most",x11),("written",x12),("come",x13),("early",x14),("early_fin",x15),("has_closed",x16),("behind",y)]::r):=Z1 θ r ce (by simp only [List.map_cons,List.map_nil]; decide +kernel) (by simp only [List.length_cons,List.length_nil]; decide)
theorem ZfJ (θ r:Sto) (x0 x1 x2 x3 x4 x5 x6 x7 x8 x9 x10 x11 x12 x13 x14 x15 x16 x17 y:D):Z5 ["End"] "owed_reset" y (.ref θ.length) (θ++.ins "End" [("ours",x0),("theirs",x1),("state",x2),("error",x3),("first",x4),("una",x5),("nxt",x6),("rcv",x7),("wnd",x8),("told",x9),("told_by",x10),("most",x11),("written",x12),("come",x13),("early",x14),("early_fin",x15),("has_closed",x16),("behind",x17)]::r)=some (θ++.ins "End" [("ours",x0),("theirs",x1),("state",x2),("error",x3),("first",x4),("una",x5),("nxt",x6),("rcv",x7),("wnd",x8),("told",x9),("told_by",x10),("most",x11),("written",x12),("come",x13),("early",x14),("early_fin",x15),("has_closed",x16),("behind",x17),("owed_reset",y)]::r):=Z1 θ r ce (by simp only [List.map_cons,List.map_nil]; decide +kernel) (by simp only [List.length_cons,List.length_nil]; decide)
theorem ZhB (θ r:Sto) (x0 x1 x2 x3 x4 x5 x6 x7 x8 x9 x10 x11 x12 x13 x14 x15 x16 x17 x18 y:D):Z5 ["End"] "owes_syn" y (.ref θ.length) (θ++.ins "End" [("ours",x0),("theirs",x1),("state",x2),("error",x3),("first",x4),("una",x5),("nxt",x6),("rcv",x7),("wnd",x8),("told",x9),("told_by",x10),("most",x11),("written",x12),("come",x13),("early",x14),("early_fin",x15),("has_closed",x16),("behind",x17),("owed_reset",x18)]::r)=some (θ++.ins "End" [("ours",x0),("theirs",x1),("state",x2),("error",x3),("first",x4),("una",x5),("nxt",x6),("rcv",x7),("wnd",x8),("told",x9),("told_by",x10),("most",x11),("written",x12),("come",x13),("early",x14),("early_fin",x15),("has_closed",x16),("behind",x17),("owed_reset",x18),("owes_syn",y)]::r):=Z1 θ r ce (by simp only [List.map_cons,List.map_nil]; decide +kernel) (by simp only [List.length_cons,List.length_nil]; decide)
theorem Zfd (θ r:Sto) (x0 x1 x2 x3 x4 x5 x6 x7 x8 x9 x10 x11 x12 x13 x14 x15 x16 x17 x18 x19 y:D):Z5 ["End"] "owes_answer" y (.ref θ.length) (θ++.ins "End" [("ours",x0),("theirs",x1),("state",x2),("error",x3),("first",x4),("una",x5),("nxt",x6),("rcv",x7),("wnd",x8),("told",x9),("told_by",x10),("most",x11),("written",x12),("come",x13),("early",x14),("early_fin",x15),("has_closed",x16),("behind",x17),("owed_reset",x18),("owes_syn",x19)]::r)=some (θ++.ins "End" [("ours",x0),("theirs",x1),("state",x2),("error",x3),("first",x4),("una",x5),("nxt",x6),("rcv",x7),("wnd",x8),("told",x9),("told_by",x10),("most",x11),("written",x12),("come",x13),("early",x14),("early_fin",x15),("has_closed",x16),("behind",x17),("owed_reset",x18),("owes_syn",x19),("owes_answer",y)]::r):=Z1 θ r ce (by simp only [List.map_cons,List.map_nil]; decide +kernel) (by simp only [List.length_cons,List.length_nil]; decide)
theorem Zk9 (θ r:Sto) (x0 x1 x2 x3 x4 x5 x6 x7 x8 x9 x10 x11 x12 x13 x14 x15 x16 x17 x18 x19 x20 y:D):Z5 ["End"] "probes" y (.ref θ.length) (θ++.ins "End" [("ours",x0),("theirs",x1),("state",x2),("error",x3),("first",x4),("una",x5),("nxt",x6),("rcv",x7),("wnd",x8),("told",x9),("told_by",x10),("most",x11),("written",x12),("come",x13),("early",x14),("early_fin",x15),("has_closed",x16),("behind",x17),("owed_reset",x18),("owes_syn",x19),("owes_answer",x20)]::r)=some (θ++.ins "End" [("ours",x0),("theirs",x1),("state",x2),("error",x3),("first",x4),("una",x5),("nxt",x6),("rcv",x7),("wnd",x8),("told",x9),("told_by",x10),("most",x11),("written",x12),("come",x13),("early",x14),("early_fin",x15),("has_closed",x16),("behind",x17),("owed_reset",x18),("owes_syn",x19),("owes_answer",x20),("probes",y)]::r):=Z1 θ r ce (by simp only [List.map_cons,List.map_nil]; decide +kernel) (by simp only [List.length_cons,List.length_nil]; decide)
theorem ZmH (θ r:Sto) (x0 x1 x2 x3 x4 x5 x6 x7 x8 x9 x10 x11 x12 x13 x14 x15 x16 x17 x18 x19 x20 x21 y:D):Z5 ["End"] "since" y (.ref θ.length) (θ++.ins "End" [("ours",x0),("theirs",x1),("state",x2),("error",x3),("first",x4),("una",x5),("nxt",x6),("rcv",x7),("wnd",x8),("told",x9),("told_by",x10),("most",x11),("written",x12),("come",x13),("early",x14),("early_fin",x15),("has_closed",x16),("behind",x17),("owed_reset",x18),("owes_syn",x19),("owes_answer",x20),("probes",x21)]::r)=some (θ++.ins "End" [("ours",x0),("theirs",x1),("state",x2),("error",x3),("first",x4),("una",x5),("nxt",x6),("rcv",x7),("wnd",x8),("told",x9),("told_by",x10),("most",x11),("written",x12),("come",x13),("early",x14),("early_fin",x15),("has_closed",x16),("behind",x17),("owed_reset",x18),("owes_syn",x19),("owes_answer",x20),("probes",x21),("since",y)]::r):=Z1 θ r ce (by simp only [List.map_cons,List.map_nil]; decide +kernel) (by simp only [List.length_cons,List.length_nil]; decide)
theorem Zp2 (θ r:Sto) (x0 x1 x2 x3 x4 x5 x6 x7 x8 x9 x10 x11 x12 x13 x14 x15 x16 x17 x18 x19 x20 x21 x22 y:D):Z5 ["End"] "wait" y (.ref θ.length) (θ++.ins "End" [("ours",x0),("theirs",x1),("state",x2),("error",x3),("first",x4),("una",x5),("nxt",x6),("rcv",x7),("wnd",x8),("told",x9),("told_by",x10),("most",x11),("written",x12),("come",x13),("early",x14),("early_fin",x15),("has_closed",x16),("behind",x17),("owed_reset",x18),("owes_syn",x19),("owes_answer",x20),("probes",x21),("since",x22)]::r)=some (θ++.ins "End" [("ours",x0),("theirs",x1),("state",x2),("error",x3),("first",x4),("una",x5),("nxt",x6),("rcv",x7),("wnd",x8),("told",x9),("told_by",x10),("most",x11),("written",x12),("come",x13),("early",x14),("early_fin",x15),("has_closed",x16),("behind",x17),("owed_reset",x18),("owes_syn",x19),("owes_answer",x20),("probes",x21),("since",x22),("wait",y)]::r):=Z1 θ r ce (by simp only [List.map_cons,List.map_nil]; decide +kernel) (by simp only [List.length_cons,List.length_nil]; decide)
theorem ZmF (θ r:Sto) (x0 x1 x2 x3 x4 x5 x6 x7 x8 x9 x10 x11 x12 x13 x14 x15 x16 x17 x18 x19 x20 x21 x22 x23 y:D):Z5 ["End"] "tries" y (.ref θ.length) (θ++.ins "End" [("ours",x0),("theirs",x1),("state",x2),("error",x3),("first",x4),("una",x5),("nxt",x6),("rcv",x7),("wnd",x8),("told",x9),("told_by",x10),("most",x11),("written",x12),("come",x13),("early",x14),("early_fin",x15),("has_closed",x16),("behind",x17),("owed_reset",x18),("owes_syn",x19),("owes_answer",x20),("probes",x21),("since",x22),("wait",x23)]::r)=some (θ++.ins "End" [("ours",x0),("theirs",x1),("state",x2),("error",x3),("first",x4),("una",x5),("nxt",x6),("rcv",x7),("wnd",x8),("told",x9),("told_by",x10),("most",x11),("written",x12),("come",x13),("early",x14),("early_fin",x15),("has_closed",x16),("behind",x17),("owed_reset",x18),("owes_syn",x19),("owes_answer",x20),("probes",x21),("since",x22),("wait",x23),("tries",y)]::r):=Z1 θ r ce (by simp only [List.map_cons,List.map_nil]; decide +kernel) (by simp only [List.length_cons,List.length_nil]; decide)
theorem Zti {a b c:Int} {act:Bool} (θ:Sto):Zcf [.ref θ.length,.int a,.int b,.int c,.bl act] (θ++[.ins "End" []])=.ok .non (θ++cells θ.length (newEnd a b c act)):=by
  cases act with
  | true=>
    simp [Zcf,Zef,ZmM,Zp4,Zk8,ZmG,ZmJ,ZmI,ZsQ,ZsS,ZsR,ZsP,Zp3,ZiA,Zp5,Ziz,Zp6,ZmK,ZgH,ZfM,Zla,ZfJ,ZhB,Zfd,Zk9,ZmH,Zp2,ZmF]
    rfl
  | false=>
    simp [Zcf,Zef,ZmM,Zp4,Zk8,ZmG,ZmJ,ZmI,ZsQ,ZsS,ZsR,ZsP,Zp3,ZiA,Zp5,Ziz,Zp6,ZmK,ZgH,ZfM,Zla,ZfJ,ZhB,Zfd,Zk9,ZmH,Zp2,ZmF]
    rfl
theorem Zpo {a b c:Int} {act:Bool} (θ:Sto):Zey [.int a,.int b,.int c,.bl act] θ=.ok (.ref θ.length) (θ++cells θ.length (newEnd a b c act)):=by
  simp [Zey,ZhZ,mkG,Zti]
theorem ZqN (e:Zs):cells 0 e=upE (cells 0 e) 0 e:=by
  simp [cells,upE]
end
end
end My
set_option Elab.async false
set_option linter.all false
set_option maxRecDepth 100000
set_option maxHeartbeats 4000000
namespace My
open PySem L2 L2.MM
noncomputable section
def Zjq:SM:=(Zp (ZS 2 (mSl (Zd 1) ZaV (Zby (mCB ZdV (Zc (Zd 0) Zk)))))
  (Zp (ZD ["Pile"] "row" (Zd 0) (mOp ZX (ZG ["Pile"] "row" (Zd 0)) (Zd 2)))
  (ZJ (mCB Zdc (Zc (Zd 2) Zk)))))
def ZfH:GM:=ZM 2 3 Zjq
def Zc4:SM:=(Zp (ZS 2 (mCB ZrY (Zc (Zd 1) (Zc (mC (.int 0)) Zk))))
  (Zp (ZS 3 (mSl (ZG ["Pile"] "row" (Zd 0)) ZaV (Zby (Zd 2))))
  (Zp (ZD ["Pile"] "row" (Zd 0) (mSl (ZG ["Pile"] "row" (Zd 0)) (Zby (Zd 2)) ZaV))
  (ZJ (Zd 3)))))
def Zca:GM:=ZM 2 4 Zc4
def ZlF:SM:=(ZJ (mOp gtM (mCB zA (Zc (Zd 0) (Zc (Zd 1) Zk))) (mC (.int 0))))
def Zcb:GM:=ZM 2 2 ZlF
def ZdL:SM:=(ZJ (mCB Zcb (Zc (ZG ["End"] "nxt" (Zd 0)) (Zc (ZG ["End"] "behind" (Zd 0)) Zk))))
def Zbb:GM:=ZM 1 1 ZdL
def ZiW:SM:=(ZJ (mOp eqM (mCB Zfc (Zc (mOp ixM (Zd 0) (mC (.int 4))) (Zc (Zd 1) Zk))) (mC (.int 1))))
def Z3:GM:=ZM 2 2 ZiW
def ZcG:SM:=(mIf (zW (mCB Z3 (Zc (Zd 0) (Zc (mC (.int 16)) Zk)))) (ZJ (mOp ZX (Zd 1) (zM (Zc (mOp ixM (Zd 0) (mC (.int 3))) (Zc (mC (.int 0)) (Zc (mC (.int 4)) (Zc (mC (.int 0)) (Zc (mC (.int 0)) (Zc (zM Zk) Zk))))))))) ZK)
def Zdt:SM:=(Zp (ZS 1 (zM (Zc (mOp ixM (Zd 0) (mC (.int 1))) (Zc (mOp ixM (Zd 0) (mC (.int 0))) Zk))))
  (Zp ZcG
  (ZJ (mOp ZX (Zd 1) (zM (Zc (mC (.int 0)) (Zc (mCB zn (Zc (mOp ixM (Zd 0) (mC (.int 2))) (Zc (mCB Zcq (Zc (Zd 0) Zk)) Zk))) (Zc (mOp ZX (mC (.int 4)) (mC (.int 16))) (Zc (mC (.int 0)) (Zc (mC (.int 0)) (Zc (zM Zk) Zk)))))))))))
def ZbI:GM:=ZM 1 2 Zdt
def Zbr:SM:=(mIf (Zd2 (zW (mCB Z3 (Zc (Zd 1) (Zc (mC (.int 4)) Zk))))) (ZD ["End"] "owed_reset" (Zd 0) (mCB ZbI (Zc (Zd 1) Zk))) ZK)
def ZbZ:SM:=Zbr
def ZY:GM:=ZM 2 2 ZbZ
def Zc9:SM:=(zw (mCB ZY (Zc (Zd 0) (Zc (Zd 1) Zk))))
def ZaG:GM:=ZM 2 2 Zc9
def ZeS:SM:=(mIf (ZF (mOp neM (mOp ixM (Zd 1) (mC (.int 6))) (mC (.int 0)))) (ZD ["End"] "most" (Zd 0) (mOp ixM (Zd 1) (mC (.int 6)))) ZK)
def Zf1:SM:=(Zp (ZD ["End"] "rcv" (Zd 0) (mCB zn (Zc (mOp ixM (Zd 1) (mC (.int 2))) (Zc (mC (.int 1)) Zk))))
  (Zp (ZD ["End"] "wnd" (Zd 0) (mOp ixM (Zd 1) (mC (.int 5))))
  (Zp (ZD ["End"] "told" (Zd 0) (mOp ixM (Zd 1) (mC (.int 2))))
  (Zp (ZD ["End"] "told_by" (Zd 0) (ZfR (zW (mCB Z3 (Zc (Zd 1) (Zc (mC (.int 16)) Zk)))) (mOp ixM (Zd 1) (mC (.int 3))) (mC (.int 0))))
  ZeS))))
def ZbE:GM:=ZM 2 2 Zf1
def zT:SM:=(mIf (zW (mCB Z3 (Zc (Zd 1) (Zc (mC (.int 4)) Zk)))) ZfQ ZK)
def Zaz:SM:=(mIf (zW (mCB Z3 (Zc (Zd 1) (Zc (mC (.int 2)) Zk)))) (Zp (ZD ["End"] "theirs" (Zd 0) (mOp ixM (Zd 1) (mC (.int 0))))
      (Zp (zw (mCB ZbE (Zc (Zd 0) (Zc (Zd 1) Zk))))
      (ZD ["End"] "state" (Zd 0) (mC (.str "syn come"))))) ZK)
def Zay:SM:=(mIf (zW (mCB Z3 (Zc (Zd 1) (Zc (mC (.int 16)) Zk)))) (zw (mCB ZY (Zc (Zd 0) (Zc (Zd 1) Zk)))) Zaz)
def Zaj:SM:=(Zp zT
  Zay)
def zv:GM:=ZM 2 2 Zaj
def Zeo:SM:=(ZJ (Zcs (mOp neM (ZG ["End"] "nxt" (Zd 0)) (ZG ["End"] "first" (Zd 0))) (mOp eqM (mOp ixM (Zd 1) (mC (.int 3))) (mCB zn (Zc (ZG ["End"] "first" (Zd 0)) (Zc (mC (.int 1)) Zk))))))
def Zbw:GM:=ZM 2 2 Zeo
def Zam:SM:=(mIf (zW (mCB Z3 (Zc (Zd 1) (Zc (mC (.int 16)) Zk)))) (Zp (ZD ["End"] "una" (Zd 0) (mOp ixM (Zd 1) (mC (.int 3))))
    (Zp (ZD ["End"] "state" (Zd 0) (mC (.str "open")))
    (ZD ["End"] "owes_answer" (Zd 0) (mC (.bl true))))) (Zp (ZD ["End"] "state" (Zd 0) (mC (.str "syn come")))
    (Zp (zw (mCB Z8 (Zc (Zd 0) (Zc (Zd 2) Zk))))
    (ZD ["End"] "owes_syn" (Zd 0) (mC (.bl true))))))
def ZaL:SM:=Zam
def zF:GM:=ZM 3 3 ZaL
def Zea:SM:=(mIf (zW (mCB Z3 (Zc (Zd 1) (Zc (mC (.int 16)) Zk)))) (Zp (ZD ["End"] "state" (Zd 0) (mC (.str "closed")))
    (ZD ["End"] "error" (Zd 0) (mC (.str "refused")))) ZK)
def Zfr:SM:=Zea
def Zex:GM:=ZM 2 2 Zfr
def zB:SM:=(mIf (zW (mCB Z3 (Zc (Zd 1) (Zc (mC (.int 2)) Zk)))) (Zp (zw (mCB ZbE (Zc (Zd 0) (Zc (Zd 1) Zk))))
        (zw (mCB zF (Zc (Zd 0) (Zc (Zd 1) (Zc (Zd 2) Zk)))))) ZK)
def Z4:SM:=(mIf (zW (mCB Z3 (Zc (Zd 1) (Zc (mC (.int 4)) Zk)))) (zw (mCB Zex (Zc (Zd 0) (Zc (Zd 1) Zk)))) zB)
def ZW:SM:=(mIf (Zgl (zW (mCB Z3 (Zc (Zd 1) (Zc (mC (.int 16)) Zk)))) (Zd2 (zW (mCB Zbw (Zc (Zd 0) (Zc (Zd 1) Zk)))))) (zw (mCB ZY (Zc (Zd 0) (Zc (Zd 1) Zk)))) Z4)
def Z2:SM:=ZW
def ZR:GM:=ZM 3 3 Z2
def ZdK:SM:=(ZJ (Zd4 leM ltM (mC (.int 0)) (mCB zA (Zc (Zd 1) (Zc (ZG ["End"] "rcv" (Zd 0)) Zk))) (mCB zK (Zc (Zd 0) Zk))))
def zj:GM:=ZM 2 2 ZdK
def Zfs:SM:=(mIf (ZF (mOp eqM (Zd 2) (mC (.int 0)))) (ZJ (Zd4 leM leM (mC (.int 0)) (mCB zA (Zc (mOp ixM (Zd 1) (mC (.int 2))) (Zc (ZG ["End"] "rcv" (Zd 0)) Zk))) (mC (.int 64)))) ZK)
def Zh5:SM:=(Zp (ZS 2 (mCB Zcq (Zc (Zd 1) Zk)))
  (Zp Zfs
  (Zp (ZS 3 (mCB zn (Zc (mOp ixM (Zd 1) (mC (.int 2))) (Zc (mOp Zgc (Zd 2) (mC (.int 1))) Zk))))
  (ZJ (Znx (mCB zj (Zc (Zd 0) (Zc (mOp ixM (Zd 1) (mC (.int 2))) Zk))) (mCB zj (Zc (Zd 0) (Zc (Zd 3) Zk))))))))
def Zgg:GM:=ZM 2 4 Zh5
def zg:SM:=(mIf (mOr (Zd2 (zW (mCB Zbb (Zc (Zd 0) Zk)))) (ZF (mOp neM (ZG ["End"] "una" (Zd 0)) (ZG ["End"] "nxt" (Zd 0))))) ZfQ ZK)
def ZaO:SM:=(mIf (ZF (mOp eqM (ZG ["End"] "state" (Zd 0)) (mC (.str "last ack")))) (ZD ["End"] "state" (Zd 0) (mC (.str "closed"))) ZK)
def ZaN:SM:=(mIf (ZF (mOp eqM (ZG ["End"] "state" (Zd 0)) (mC (.str "closing")))) (Zp (ZD ["End"] "state" (Zd 0) (mC (.str "time wait")))
      (ZD ["End"] "since" (Zd 0) (Zd 1))) ZaO)
def ZaM:SM:=(mIf (ZF (mOp eqM (ZG ["End"] "state" (Zd 0)) (mC (.str "wait one")))) (ZD ["End"] "state" (Zd 0) (mC (.str "wait two"))) ZaN)
def zl:SM:=(Zp zg
  ZaM)
def ZQ:GM:=ZM 2 2 zl
def Zel:SM:=(Zp (ZD ["End"] "wnd" (Zd 0) (mOp ixM (Zd 1) (mC (.int 5))))
  (Zp (ZD ["End"] "told" (Zd 0) (mOp ixM (Zd 1) (mC (.int 2))))
  (ZD ["End"] "told_by" (Zd 0) (mOp ixM (Zd 1) (mC (.int 3))))))
def ZaC:GM:=ZM 2 2 Zel
def z6:SM:=(mIf (mOr (ZF (mOp eqM (ZG ["End"] "nxt" (Zd 0)) (ZG ["End"] "first" (Zd 0)))) (ZF (mOp neM (mOp ixM (Zd 1) (mC (.int 3))) (ZG ["End"] "nxt" (Zd 0))))) (Zp (zw (mCB ZY (Zc (Zd 0) (Zc (Zd 1) Zk))))
    (ZJ (mC (.bl false)))) ZK)
def Zau:SM:=(Zp z6
  (Zp (ZD ["End"] "una" (Zd 0) (mOp ixM (Zd 1) (mC (.int 3))))
  (Zp (ZD ["End"] "state" (Zd 0) (ZfR (zW (ZG ["End"] "has_closed" (Zd 0))) (mC (.str "wait one")) (mC (.str "open"))))
  (Zp (zw (mCB ZaC (Zc (Zd 0) (Zc (Zd 1) Zk))))
  (ZJ (mC (.bl true)))))))
def zo:GM:=ZM 2 2 Zau
def ZeR:SM:=(mIf (ZF (mOp eqM (mOp ixM (Zd 1) (mC (.int 2))) (ZG ["End"] "told" (Zd 0)))) (ZJ (ZmQ (mCB Zcb (Zc (ZG ["End"] "told_by" (Zd 0)) (Zc (mOp ixM (Zd 1) (mC (.int 3))) Zk))))) ZK)
def Zf0:SM:=(Zp ZeR
  (ZJ (mCB Zcb (Zc (mOp ixM (Zd 1) (mC (.int 2))) (Zc (ZG ["End"] "told" (Zd 0)) Zk)))))
def ZcY:GM:=ZM 2 2 Zf0
def Zb2:SM:=(mIf (ZF (mOp neM (ZG ["End"] "una" (Zd 0)) (ZG ["End"] "nxt" (Zd 0)))) (zw (mCB Z8 (Zc (Zd 0) (Zc (Zd 2) Zk)))) ZK)
def Zat:SM:=(mIf (zW (Zd 4)) (Zp (zw (mCB Zca (Zc (ZG ["End"] "written" (Zd 0)) (Zc (mCB zA (Zc (Zd 3) (Zc (ZG ["End"] "una" (Zd 0)) Zk))) Zk))))
    (Zp (ZD ["End"] "una" (Zd 0) (Zd 3))
    Zb2)) ZK)
def Zas:SM:=(mIf (zW (mCB Zcb (Zc (ZG ["End"] "una" (Zd 0)) (Zc (Zd 3) Zk)))) ZfQ ZK)
def Za8:SM:=(mIf (mOr (zW (Zd 4)) (zW (mCB ZcY (Zc (Zd 0) (Zc (Zd 1) Zk))))) (zw (mCB ZaC (Zc (Zd 0) (Zc (Zd 1) Zk)))) ZK)
def Za7:SM:=(mIf (mOr (zW (Zd 5)) (ZF (mOp eqM (ZG ["End"] "wnd" (Zd 0)) (mC (.int 0))))) (ZD ["End"] "tries" (Zd 0) (mC (.int 0))) ZK)
def Za1:SM:=(Zp (ZS 3 (mOp ixM (Zd 1) (mC (.int 3))))
  (Zp (ZS 4 (mCB Zcb (Zc (Zd 3) (Zc (ZG ["End"] "una" (Zd 0)) Zk))))
  (Zp Zat
  (Zp Zas
  (Zp (ZS 5 (mOp eqM (ZG ["End"] "wnd" (Zd 0)) (mC (.int 0))))
  (Zp Za8
  Za7))))))
def zL:GM:=ZM 3 6 Za1
def zy:SM:=(mIf (ZF (mOp eqM (ZG ["End"] "state" (Zd 0)) (mC (.str "syn come")))) (ZJ (mCB zo (Zc (Zd 0) (Zc (Zd 1) Zk)))) ZK)
def z7:SM:=(mIf (zW (mCB Zcb (Zc (mOp ixM (Zd 1) (mC (.int 3))) (Zc (ZG ["End"] "nxt" (Zd 0)) Zk)))) (Zp (ZD ["End"] "owes_answer" (Zd 0) (mC (.bl true)))
    (ZJ (mC (.bl false)))) ZK)
def zD:SM:=(Zp zy
  (Zp z7
  (Zp (zw (mCB zL (Zc (Zd 0) (Zc (Zd 1) (Zc (Zd 2) Zk)))))
  (Zp (zw (mCB ZQ (Zc (Zd 0) (Zc (Zd 2) Zk))))
  (ZJ (mOp neM (ZG ["End"] "state" (Zd 0)) (mC (.str "closed"))))))))
def ZZ:GM:=ZM 3 3 zD
def Zck:SM:=(mIf (ZF (mOp eqM (ZG ["End"] "state" (Zd 0)) (mC (.str "time wait")))) ZfQ ZK)
def Zcj:SM:=(mIf (ZF (mOp eqM (mOp ixM (Zd 1) (mC (.int 2))) (ZG ["End"] "rcv" (Zd 0)))) (Zp (ZD ["End"] "state" (Zd 0) (mC (.str "closed")))
    (ZD ["End"] "error" (Zd 0) (mC (.str "reset")))) (ZD ["End"] "owes_answer" (Zd 0) (mC (.bl true))))
def Zc7:SM:=(Zp Zck
  Zcj)
def Zbj:GM:=ZM 2 2 Zc7
def Zbt:SM:=(Zcy (Zgl (ZF (mOp neM (ZG ["End"] "rcv" (Zd 0)) (ZG ["End"] "early_fin" (Zd 0)))) (ZF (Zql (ZG ["End"] "rcv" (Zd 0)) (ZG ["End"] "early" (Zd 0))))) (Zp (Zd5 1 (ZmR (ZG ["End"] "early" (Zd 0)) (ZG ["End"] "rcv" (Zd 0))))
    (ZD ["End"] "rcv" (Zd 0) (mCB zn (Zc (ZG ["End"] "rcv" (Zd 0)) (Zc (mC (.int 1)) Zk))))) 200)
def Zdo:SM:=(Zp (Zhf 1 Zk)
  (Zp Zbt
  (Zd3 1 (zw (mCB ZfH (Zc (ZG ["End"] "come" (Zd 0)) (Zc (Zd 1) Zk)))))))
def ZaX:GM:=ZM 1 2 Zdo
def ZeT:SM:=(mIf (ZF (mOp eqM (ZG ["End"] "state" (Zd 0)) (mC (.str "wait one")))) (ZD ["End"] "state" (Zd 0) (mC (.str "closing"))) (Zp (ZD ["End"] "state" (Zd 0) (mC (.str "time wait")))
      (ZD ["End"] "since" (Zd 0) (Zd 1))))
def Zc8:SM:=(mIf (ZF (mOp eqM (ZG ["End"] "state" (Zd 0)) (mC (.str "open")))) (ZD ["End"] "state" (Zd 0) (mC (.str "close wait"))) ZeT)
def Zed:SM:=(Zp (ZD ["End"] "rcv" (Zd 0) (mCB zn (Zc (ZG ["End"] "rcv" (Zd 0)) (Zc (mC (.int 1)) Zk))))
  Zc8)
def Zce:GM:=ZM 2 2 Zed
def Za0:SM:=(mIf (zW (mCB zj (Zc (Zd 0) (Zc (Zd 4) Zk)))) (zw (Zl4 (ZG ["End"] "early" (Zd 0)) (Zd 4) (Zd 3))) ZK)
def ZcI:SM:=(Zqk (Zc (mOp ixM (Zd 1) (mC (.int 7))) Zk) 2 3 (Zp (ZS 4 (mCB zn (Zc (mOp ixM (Zd 1) (mC (.int 2))) (Zc (Zd 2) Zk))))
    Za0))
def ZcH:SM:=(mIf (ZF (mOp gtM (mCB Zdc (Zc (mOp ixM (Zd 1) (mC (.int 7))) Zk)) (mC (.int 0)))) (ZD ["End"] "owes_answer" (Zd 0) (mC (.bl true))) ZK)
def Zdw:SM:=(Zp ZcI
  ZcH)
def ZbJ:GM:=ZM 2 5 Zdw
def Zc6:SM:=(mIf (Zd2 (zW (mCB Z3 (Zc (Zd 1) (Zc (mC (.int 1)) Zk))))) ZfQ ZK)
def ZaK:SM:=(mIf (Zgl (ZF (mOp isM (ZG ["End"] "early_fin" (Zd 0)) (mC .non))) (zW (mCB zj (Zc (Zd 0) (Zc (Zd 2) Zk))))) (ZD ["End"] "early_fin" (Zd 0) (Zd 2)) ZK)
def Zec:SM:=(Zp Zc6
  (Zp (ZD ["End"] "owes_answer" (Zd 0) (mC (.bl true)))
  (Zp (ZS 2 (mCB zn (Zc (mOp ixM (Zd 1) (mC (.int 2))) (Zc (mCB Zdc (Zc (mOp ixM (Zd 1) (mC (.int 7))) Zk)) Zk))))
  ZaK)))
def Zcd:GM:=ZM 2 3 Zec
def Za6:SM:=(mIf (ZF (mOp Zcg (ZG ["End"] "state" (Zd 0)) (zM (Zc (mC (.str "open")) (Zc (mC (.str "wait one")) (Zc (mC (.str "wait two")) Zk)))))) ZfQ ZK)
def Zb1:SM:=(mIf (ZF (mOp eqM (ZG ["End"] "rcv" (Zd 0)) (ZG ["End"] "early_fin" (Zd 0)))) (zw (mCB Zce (Zc (Zd 0) (Zc (Zd 2) Zk)))) ZK)
def ZbC:SM:=(Zp Za6
  (Zp (zw (mCB ZbJ (Zc (Zd 0) (Zc (Zd 1) Zk))))
  (Zp (zw (mCB Zcd (Zc (Zd 0) (Zc (Zd 1) Zk))))
  (Zp (zw (mCB ZaX (Zc (Zd 0) Zk)))
  Zb1))))
def ZaD:GM:=ZM 3 3 ZbC
def ZbB:SM:=(mIf (zW (mCB Z3 (Zc (Zd 1) (Zc (mC (.int 4)) Zk)))) ZfQ ZK)
def ZcF:SM:=(mIf (Zgl (ZF (mOp eqM (ZG ["End"] "state" (Zd 0)) (mC (.str "syn come")))) (Zgl (zW (mCB Z3 (Zc (Zd 1) (Zc (mC (.int 2)) Zk)))) (Zd2 (zW (mCB Z3 (Zc (Zd 1) (Zc (mC (.int 16)) Zk))))))) (ZD ["End"] "owes_syn" (Zd 0) (mC (.bl true))) (ZD ["End"] "owes_answer" (Zd 0) (mC (.bl true))))
def ZcE:SM:=(mIf (ZF (mOp eqM (ZG ["End"] "state" (Zd 0)) (mC (.str "time wait")))) (ZD ["End"] "since" (Zd 0) (Zd 2)) ZK)
def Zcn:SM:=(Zp ZbB
  (Zp ZcF
  ZcE))
def Zba:GM:=ZM 3 3 Zcn
def Zax:SM:=(mIf (Zgl (zW (mCB Z3 (Zc (Zd 1) (Zc (mC (.int 16)) Zk)))) (zW (mCB ZZ (Zc (Zd 0) (Zc (Zd 1) (Zc (Zd 2) Zk)))))) (zw (mCB ZaD (Zc (Zd 0) (Zc (Zd 1) (Zc (Zd 2) Zk))))) ZK)
def zS:SM:=(mIf (zW (mCB Z3 (Zc (Zd 1) (Zc (mC (.int 2)) Zk)))) (ZD ["End"] "owes_answer" (Zd 0) (mC (.bl true))) Zax)
def zx:SM:=(mIf (zW (mCB Z3 (Zc (Zd 1) (Zc (mC (.int 4)) Zk)))) (zw (mCB Zbj (Zc (Zd 0) (Zc (Zd 1) Zk)))) zS)
def ze:SM:=(mIf (Zd2 (zW (mCB Zgg (Zc (Zd 0) (Zc (Zd 1) Zk))))) (zw (mCB Zba (Zc (Zd 0) (Zc (Zd 1) (Zc (Zd 2) Zk))))) zx)
def zt:SM:=ze
def za:GM:=ZM 3 3 zt
def Zh2:SM:=(ZJ (Zcs (mOp eqM (mOp ixM (Zd 1) (mC (.int 1))) (ZG ["End"] "ours" (Zd 0))) (Znx (mOp inM (ZG ["End"] "state" (Zd 0)) (zM (Zc (mC (.str "closed")) (Zc (mC (.str "listen")) Zk)))) (mOp eqM (mOp ixM (Zd 1) (mC (.int 0))) (ZG ["End"] "theirs" (Zd 0))))))
def Zez:GM:=ZM 2 2 Zh2
def Zb6:SM:=(mIf (Zd2 (zW (mCB Zad (Zc (Zd 1) Zk)))) (ZJ (mC (.bl false))) ZK)
def Zb5:SM:=(mIf (Zd2 (zW (mCB Zez (Zc (Zd 0) (Zc (Zd 3) Zk))))) (ZJ (mC (.bl false))) ZK)
def Zee:SM:=(mIf (ZF (mOp eqM (ZG ["End"] "state" (Zd 0)) (mC (.str "syn sent")))) (zw (mCB ZR (Zc (Zd 0) (Zc (Zd 3) (Zc (Zd 2) Zk))))) (zw (mCB za (Zc (Zd 0) (Zc (Zd 3) (Zc (Zd 2) Zk))))))
def ZcO:SM:=(mIf (ZF (mOp eqM (ZG ["End"] "state" (Zd 0)) (mC (.str "listen")))) (zw (mCB zv (Zc (Zd 0) (Zc (Zd 3) Zk)))) Zee)
def Zb4:SM:=(mIf (ZF (mOp eqM (ZG ["End"] "state" (Zd 0)) (mC (.str "closed")))) (zw (mCB ZaG (Zc (Zd 0) (Zc (Zd 3) Zk)))) ZcO)
def Zda:SM:=(Zp Zb6
  (Zp (ZS 3 (mCB Ziy (Zc (Zd 1) Zk)))
  (Zp Zb5
  (Zp Zb4
  (ZJ (mC (.bl true)))))))
def zQ:GM:=ZM 3 4 Zda
def ZbL:SM:=(mIf (mOr (zW (ZG ["End"] "has_closed" (Zd 0))) (ZF (mOp Zcg (ZG ["End"] "state" (Zd 0)) (zM (Zc (mC (.str "syn sent")) (Zc (mC (.str "syn come")) (Zc (mC (.str "open")) (Zc (mC (.str "close wait")) Zk)))))))) (ZJ (mC (.int 0))) ZK)
def ZcS:SM:=(Zp ZbL
  (Zp (ZS 2 (mCB ZfH (Zc (ZG ["End"] "written" (Zd 0)) (Zc (Zd 1) Zk))))
  (Zp (ZD ["End"] "behind" (Zd 0) (mCB zn (Zc (ZG ["End"] "behind" (Zd 0)) (Zc (Zd 2) Zk))))
  (ZJ (Zd 2)))))
def Zbz:GM:=ZM 2 3 ZcS
def Zc5:SM:=(mIf (Zgl (zW (Zd 2)) (Zgl (ZF (mOp gtM (mCB zK (Zc (Zd 0) Zk)) (mC (.int 0)))) (ZF (mOp inM (ZG ["End"] "state" (Zd 0)) (zM (Zc (mC (.str "open")) (Zc (mC (.str "wait one")) (Zc (mC (.str "wait two")) Zk)))))))) (ZD ["End"] "owes_answer" (Zd 0) (mC (.bl true))) ZK)
def ZeM:SM:=(Zp (ZS 2 (mOp eqM (mCB zK (Zc (Zd 0) Zk)) (mC (.int 0))))
  (Zp (ZS 3 (mCB Zca (Zc (ZG ["End"] "come" (Zd 0)) (Zc (Zd 1) Zk))))
  (Zp Zc5
  (ZJ (Zd 3)))))
def ZdW:GM:=ZM 2 4 ZeM
def ZlH:SM:=(ZJ (mOp Zaa (mOp ZX (Zd 0) (Zd 1)) (mC (.int 4294967296))))
def ZcB:GM:=ZM 2 2 ZlH
def Zg1:SM:=(mIf (ZF (mOp eqM (mOp Zaa (Zd 0) (mC (.int 2))) (mC (.int 0)))) (ZJ (mOp Zaa (mOp Zgc (mC (.int 4294967296)) (mOp Zaa (mOp Zfq (Zd 0) (mC (.int 2))) (mC (.int 90)))) (mC (.int 4294967296)))) ZK)
def Zi0:SM:=(Zp Zg1
  (ZJ (Zd 0)))
def Ze7:GM:=ZM 1 1 Zi0
def Zg0:SM:=(ZJ (zM (Zc (mOp ixM (Zd 0) (mC (.int 1))) (Zc (mOp ixM (Zd 0) (mC (.int 0))) (Zc (Zd 1) (Zc (Zd 2) (Zc (Zd 3) (Zc (Zd 4) (Zc (mC (.int 0)) (Zc (mCB Zfk (Zc (Zd 5) Zk)) Zk))))))))))
def ZcR:GM:=ZM 6 6 Zg0
def ZeW:SM:=(mIf (zW (ZG ["End"] "has_closed" (Zd 0))) (ZJ (mC (.bl false))) ZK)
def ZgX:SM:=(mIf (ZF (mOp inM (ZG ["End"] "state" (Zd 0)) (zM (Zc (mC (.str "listen")) (Zc (mC (.str "syn sent")) Zk))))) (Zp (ZD ["End"] "state" (Zd 0) (mC (.str "closed")))
    (ZJ (mC (.bl true)))) ZK)
def ZgW:SM:=(mIf (ZF (mOp Zcg (ZG ["End"] "state" (Zd 0)) (zM (Zc (mC (.str "syn come")) (Zc (mC (.str "open")) (Zc (mC (.str "close wait")) Zk)))))) (ZJ (mC (.bl false))) ZK)
def ZgV:SM:=(mIf (ZF (mOp eqM (ZG ["End"] "state" (Zd 0)) (mC (.str "close wait")))) (ZD ["End"] "state" (Zd 0) (mC (.str "last ack"))) ZK)
def ZgU:SM:=(mIf (ZF (mOp eqM (ZG ["End"] "state" (Zd 0)) (mC (.str "open")))) (ZD ["End"] "state" (Zd 0) (mC (.str "wait one"))) ZgV)
def Zgx:SM:=(Zp ZeW
  (Zp ZgX
  (Zp ZgW
  (Zp (ZD ["End"] "has_closed" (Zd 0) (mC (.bl true)))
  (Zp ZgU
  (ZJ (mC (.bl true))))))))
def ZdY:GM:=ZM 1 1 Zgx
def ZlI:SM:=(ZJ (Zcs (mCB ZgO (Zc (Zd 0) (Zc (mC (.ty "int")) Zk))) (Zcs (ZmQ (mCB ZgO (Zc (Zd 0) (Zc (mC (.ty "bool")) Zk)))) (Zd4 leM leM (mC (.int 0)) (Zd 0) (mC (.int 255))))))
def Zgp:GM:=ZM 1 1 ZlI
def b_l_read_1:SM:=(mIf (mOr (Zd2 (zW (mCB ZgO (Zc (Zd 0) (Zc (mC (.ty "list")) Zk))))) (ZF (mOp ltM (mCB Zdc (Zc (Zd 0) Zk)) (mC (.int 20))))) (ZJ (mC .non)) ZK)
def b_l_read_2:SM:=(mIf (Zd2 (zW (mCB ZqY (Zc (Zdi (mIn (Zd 0)) [] (mCB Zgp (Zc (Zd 0) Zk))) Zk)))) (ZJ (mC .non)) ZK)
def b_l_read_3:SM:=(mIf (mOr (ZF (mOp Zcg (mOp ixM (Zd 0) (mC (.int 12))) (zM (Zc (mC (.int 80)) (Zc (mC (.int 96)) Zk))))) (mOr (ZF (mOp gtM (mOp ixM (Zd 0) (mC (.int 13))) (mC (.int 31)))) (ZF (mOp gtM (mOp ZX (mOp ixM (Zd 0) (mC (.int 18))) (mOp ixM (Zd 0) (mC (.int 19)))) (mC (.int 0)))))) (ZJ (mC .non)) ZK)
def b_l_read_4:SM:=(mIf (mOr (Zd2 (ZF (Zd4 leM leM (Zd 1) (mCB Zdc (Zc (Zd 0) Zk)) (mOp ZX (Zd 1) (mC (.int 16)))))) (ZF (mOp neM (mCB Zct (Zc (Zd 0) Zk)) (mC (.int 65535))))) (ZJ (mC .non)) ZK)
def Zh6:SM:=(mIf (mOr (ZF (mOp eqM (mOp Zaa (mOp Zfq (mOp ixM (Zd 0) (mC (.int 13))) (mC (.int 2))) (mC (.int 2))) (mC (.int 0)))) (mOr (ZF (mOp neM (mSl (Zd 0) (Zby (mC (.int 20))) (Zby (mC (.int 22)))) (Zcr (Zc (mC (.int 2)) (Zc (mC (.int 4)) Zk))))) (ZF (mOp ltM (Zd 2) (mC (.int 4)))))) (ZJ (mC .non)) ZK)
def b_l_read_6:SM:=(mIf (ZF (mOp eqM (Zd 1) (mC (.int 24)))) (Zp (ZS 2 (mOp ZX (mOp ZbT (mOp ixM (Zd 0) (mC (.int 22))) (mC (.int 256))) (mOp ixM (Zd 0) (mC (.int 23)))))
    Zh6) ZK)
def ZlG:SM:=(Zp b_l_read_1
  (Zp b_l_read_2
  (Zp (ZS 1 (mOp Zfq (mOp ixM (Zd 0) (mC (.int 12))) (mC (.int 4))))
  (Zp b_l_read_3
  (Zp b_l_read_4
  (Zp (ZS 2 (mC (.int 0)))
  (Zp b_l_read_6
  (Zp (ZS 3 (Zdi (ZdG (Zc (mC (.int 8)) Zk)) [0] (mOp ZX (mOp ZbT (mC (.int 256)) (mOp ixM (Zd 1) (mOp ZbT (mC (.int 2)) (Zd 0)))) (mOp ixM (Zd 1) (mOp ZX (mOp ZbT (mC (.int 2)) (Zd 0)) (mC (.int 1)))))))
  (Zp (ZS 4 (zM (Zc (mOp ixM (Zd 3) (mC (.int 0))) (Zc (mOp ixM (Zd 3) (mC (.int 1))) (Zc (mOp ZX (mOp ZbT (mOp ixM (Zd 3) (mC (.int 2))) (mC (.int 65536))) (mOp ixM (Zd 3) (mC (.int 3)))) (Zc (mOp ZX (mOp ZbT (mOp ixM (Zd 3) (mC (.int 4))) (mC (.int 65536))) (mOp ixM (Zd 3) (mC (.int 5)))) Zk))))))
  (ZJ (mOp ZX (Zd 4) (zM (Zc (mOp ixM (Zd 0) (mC (.int 13))) (Zc (mOp ixM (Zd 3) (mC (.int 7))) (Zc (Zd 2) (Zc (mCB Zfk (Zc (mSl (Zd 0) (Zby (Zd 1)) ZaV) Zk)) Zk))))))))))))))))
def Zgn:GM:=ZM 1 5 ZlG
def Zdr:SM:=(mIf (ZF (mOp eqM (Zd 4) (Zcr Zk))) (Zd3 2 (ZJ (Zd 2))) ZK)
def ZeX:SM:=(Zgk (ZdG (Zc (mC (.int 40)) Zk)) (gNm 3) (Zp (ZS 4 (mCB Zcz (Zc (Zd 0) (Zc (Zd 1) Zk))))
    (Zp Zdr
    (Zd5 2 (mCB Zgn (Zc (Zd 4) Zk))))))
def ZiZ:SM:=(Zp (Zhf 2 Zk)
  (Zp ZeX
  (Zd3 2 (ZJ (Zd 2)))))
def ZcM:GM:=ZM 2 5 ZiZ
def Zh7:SM:=(Zp (ZS 4 (zM (Zc (mOp Zaa (mCB zZ (Zc (Zd 0) (Zc (Zd 1) Zk))) (mC (.int 65536))) (Zc (mOp Zaa (mCB zZ (Zc (Zd 0) (Zc (mOp ZX (Zd 1) (mC (.int 1))) Zk))) (mC (.int 65536))) Zk))))
  (Zp (ZS 5 (mCB Ze7 (Zc (mCB zZ (Zc (Zd 0) (Zc (mOp ZX (Zd 1) (mC (.int 2))) Zk))) Zk)))
  (Zp (ZS 6 (mCB Ze7 (Zc (mCB zZ (Zc (Zd 0) (Zc (mOp ZX (Zd 1) (mC (.int 3))) Zk))) Zk)))
  (Zp (ZS 7 (mCB Zey (Zc (mOp ixM (Zd 4) (mC (.int 0))) (Zc (mC (.int 7)) (Zc (Zd 5) (Zc (mC (.bl false)) Zk))))))
  (Zp (zw (mCB zQ (Zc (Zd 7) (Zc (mCB ZbV (Zc (zM (Zc (mOp ixM (Zd 4) (mC (.int 1))) (Zc (mOp ixM (Zd 4) (mC (.int 0))) (Zc (Zd 6) (Zc (mC (.int 0)) (Zc (mC (.int 2)) (Zc (Zd 2) (Zc (Zd 3) (Zc (zM Zk) Zk))))))))) Zk)) (Zc (mC (.int 0)) Zk)))))
  (Zp (zw (mCB Zcz (Zc (Zd 7) (Zc (mC (.int 0)) Zk))))
  (Zp (zw (mCB zQ (Zc (Zd 7) (Zc (mCB ZbV (Zc (zM (Zc (mOp ixM (Zd 4) (mC (.int 1))) (Zc (mOp ixM (Zd 4) (mC (.int 0))) (Zc (mCB ZcB (Zc (Zd 6) (Zc (mC (.int 1)) Zk))) (Zc (mCB ZcB (Zc (Zd 5) (Zc (mC (.int 1)) Zk))) (Zc (mC (.int 16)) (Zc (Zd 2) (Zc (mC (.int 0)) (Zc (zM Zk) Zk))))))))) Zk)) (Zc (mC (.int 0)) Zk)))))
  (ZJ (zM (Zc (Zd 7) (Zc (Zd 4) (Zc (mCB ZcB (Zc (Zd 5) (Zc (mC (.int 1)) Zk))) (Zc (mCB ZcB (Zc (Zd 6) (Zc (mC (.int 1)) Zk))) Zk)))))))))))))
def Zc2:GM:=ZM 4 8 Zh7
def ZgZ:SM:=(mIf (ZF (mOp eqM (ZG ["End"] "state" (Zd 0)) (mC (.str "closed")))) (ZJ (mC (.bl false))) ZK)
def ZgY:SM:=(mIf (ZF (mOp Zcg (ZG ["End"] "state" (Zd 0)) (zM (Zc (mC (.str "listen")) (Zc (mC (.str "syn sent")) (Zc (mC (.str "time wait")) Zk)))))) (ZD ["End"] "owed_reset" (Zd 0) (zM (Zc (ZG ["End"] "ours" (Zd 0)) (Zc (ZG ["End"] "theirs" (Zd 0)) (Zc (ZG ["End"] "nxt" (Zd 0)) (Zc (mC (.int 0)) (Zc (mC (.int 4)) (Zc (mC (.int 0)) (Zc (mC (.int 0)) (Zc (zM Zk) Zk)))))))))) ZK)
def ZiX:SM:=(Zp ZgZ
  (Zp ZgY
  (Zp (ZD ["End"] "state" (Zd 0) (mC (.str "closed")))
  (ZJ (mC (.bl true))))))
def Ze3:GM:=ZM 1 1 ZiX
end
end My
set_option Elab.async false
set_option linter.all false
set_option maxRecDepth 100000
set_option maxHeartbeats 4000000
namespace My
open PySem L2 L2.MM
noncomputable section
def bears (s:Seg) (f:Int):Bool:=decide (bit s.flags f=1)
def ZnA (s:Seg):Int:=s.data.length+bit s.flags 2+bit s.flags 1
def ZbR (s:Seg):Seg:=if bears s 16=true then ⟨s.goal,s.src,s.ans,0,4,0,0,[]⟩ else ⟨s.goal,s.src,0,ZA s.num (ZnA s),20,0,0,[]⟩
def ZaH (e:Zs) (s:Seg):Zs:=if bears s 4=true then e else { e with owed_reset:=some (ZbR s) }
def hearSyn (e:Zs) (s:Seg):Zs:={ e with rcv:=ZA s.num 1,wnd:=s.win,told:=s.num,told_by:=if bears s 16=true then s.ans else 0,most:=if s.most=0 then e.most else s.most }
def Zbh (e:Zs) (s:Seg):Zs:=
  if bears s 4=true then e
  else if bears s 16=true then ZaH e s
  else if bears s 2=true then { hearSyn { e with theirs:=s.src } s with state:=.synCome }
  else e
def Zeg (e:Zs) (s:Seg):Bool:=!decide (e.nxt=e.first) && decide (s.ans=ZA e.first 1)
def z9 (e:Zs) (s:Seg) (now:Int):Zs:=
  if bears s 16=true∧Zeg e s=false then ZaH e s
  else if bears s 4=true then (if bears s 16=true then { e with state:=.closed,error:=.refused } else e)
  else if bears s 2=true then
    (if bears s 16=true then { hearSyn e s with una:=s.ans,state:=.opn,owes_answer:=true }
     else { zb { hearSyn e s with state:=.synCome } now with owes_syn:=true })
  else e
def ZeF (e:Zs) (s:Seg):Bool:=decide (s.goal=e.ours) && (decide (e.state∈[State.closed,.listen]) || decide (s.src=e.theirs))
def ZeK (e:Zs):Bool×Zs:=
  if e.has_closed=true then (false,e)
  else if e.state=.listen∨e.state=.synSent then (true,{ e with state:=.closed })
  else if e.state=.opn then (true,{ e with has_closed:=true,state:=.waitOne })
  else if e.state=.closeWait then (true,{ e with has_closed:=true,state:=.lastAck })
  else if e.state=.synCome then (true,{ e with has_closed:=true })
  else (false,e)
def Zfu (e:Zs):Bool×Zs:=
  if e.state=.closed then (false,e)
  else if e.state=.listen∨e.state=.synSent∨e.state=.timeWait then (true,{ e with state:=.closed })
  else (true,{ e with owed_reset:=some ⟨e.ours,e.theirs,e.nxt,0,4,0,0,[]⟩,state:=.closed })
section
variable {θ:Sto} {l:Nat} {e:Zs} {s:Seg} {now f:Int}
@[simp] theorem Zwn:Z3 [s.d,.int f] θ=.ok (.bl (bears s f)) θ:=by
  simp [Z3,ZiW,bears]
theorem Zf9:Zcq [s.d] θ=.ok (.int (ZnA s)) θ:=Zpq s θ
@[simp] theorem Zsy:ZbI [s.d] θ=.ok (ZbR s).d θ:=by
  by_cases c:bears s 16=true
  · simp [ZbI,Zdt,ZcG,c,ZbR,Zfm]
  · simp [ZbI,Zdt,ZcG,c,ZbR,Zfm,Zf9]
@[simp] theorem Zsz (h:l+3 < θ.length):ZY [.ref l,s.d] (upE θ l e)=.ok .non (upE θ l (ZaH e s)):=by
  by_cases c:bears s 4=true
  · simp [ZY,ZbZ,Zbr,h,c,ZaH]
  · simp [ZY,ZbZ,Zbr,h,c,ZaH]
@[simp] theorem Znh (h:l+3 < θ.length):ZaG [.ref l,s.d] (upE θ l e)=.ok .non (upE θ l (ZaH e s)):=by
  simp [ZaG,Zc9,h]
@[simp] theorem Ztj (h:l+3 < θ.length):ZbE [.ref l,s.d] (upE θ l e)=.ok .non (upE θ l (hearSyn e s)):=by
  by_cases c:bears s 16=true<;>by_cases c2:s.most=0<;>simp [ZbE,Zf1,ZeS,h,c,c2,hearSyn]
@[simp] theorem Zng (h:l+3 < θ.length):zv [.ref l,s.d] (upE θ l e)=.ok .non (upE θ l (Zbh e s)):=by
  by_cases c:bears s 4=true
  · simp [zv,Zaj,zT,h,c,Zbh]
  · by_cases c1:bears s 16=true
    · simp [zv,Zaj,zT,Zaz,Zay,h,c,c1,Zbh]
    · by_cases c2:bears s 2=true
      · simp [zv,Zaj,zT,Zaz,Zay,h,c,c1,c2,Zbh]
      · simp [zv,Zaj,zT,Zaz,Zay,h,c,c1,c2,Zbh]
@[simp] theorem Zq6 (h:l+3 < θ.length):Zbw [.ref l,s.d] (upE θ l e)=.ok (.bl (Zeg e s)) (upE θ l e):=by
  by_cases c:e.nxt=e.first<;>simp [Zbw,Zeo,h,Zeg,c]
@[simp] theorem ZlN (h:l+3 < θ.length):ZR [.ref l,s.d,.int now] (upE θ l e)=.ok .non (upE θ l (z9 e s now)):=by
  by_cases c:bears s 16=true
  · by_cases c1:Zeg e s=true
    · by_cases c2:bears s 4=true
      · simp [ZR,Z2,ZW,Z4,Zex,Zfr,Zea,h,c,c1,c2,z9]
      · by_cases c3:bears s 2=true
        · simp [ZR,Z2,ZW,Z4,zB,zF,ZaL,Zam,h,c,c1,c2,c3,z9]
        · simp [ZR,Z2,ZW,Z4,zB,h,c,c1,c2,c3,z9]
    · simp [ZR,Z2,ZW,h,c,c1,z9]
  · by_cases c2:bears s 4=true
    · simp [ZR,Z2,ZW,Z4,Zex,Zfr,Zea,h,c,c2,z9]
    · by_cases c3:bears s 2=true
      · simp [ZR,Z2,ZW,Z4,zB,zF,ZaL,Zam,h,c,c2,c3,z9]
      · simp [ZR,Z2,ZW,Z4,zB,h,c,c2,c3,z9]
@[simp] theorem Zu5 (h:l+3 < θ.length):Zez [.ref l,s.d] (upE θ l e)=.ok (.bl (ZeF e s)) (upE θ l e):=by
  simp [Zez,Zh2,h,ZeF]
theorem Zmp (h:l+3 < θ.length):ZdY [.ref l] (upE θ l e)=.ok (.bl (ZeK e).1) (upE θ l (ZeK e).2):=by
  by_cases c:e.has_closed=true
  · simp [ZdY,Zgx,ZeW,h,c,ZeK]
  · cases s:e.state<;>simp [ZdY,Zgx,ZeW,ZgX,ZgW,ZgV,ZgU,h,c,ZeK,s]
theorem Zmq (h:l+3 < θ.length):Ze3 [.ref l] (upE θ l e)=.ok (.bl (Zfu e).1) (upE θ l (Zfu e).2):=by
  cases s:e.state<;>simp [Ze3,ZiX,ZgZ,ZgY,h,Zfu,s,Zfm]
theorem Zg8 (h:l+3 < θ.length) {r:List Int} (hb:Byt r) (hr:Zaq r=true) (hf:ZeF e (Zbq r)=true) (hs:e.state=.closed):zQ [.ref l,il r,.int now] (upE θ l e)=.ok (.bl true) (upE θ l (ZaH e (Zbq r))):=by
  simp [zQ,Zda,Zb6,Zb5,Zb4,ZcT hb,hr,Zmn hb hr,h,hf,hs]
theorem Zg7 (h:l+3 < θ.length) {r:List Int} (hb:Byt r) (hr:Zaq r=true) (hf:ZeF e (Zbq r)=true) (hs:e.state=.listen):zQ [.ref l,il r,.int now] (upE θ l e)=.ok (.bl true) (upE θ l (Zbh e (Zbq r))):=by
  simp [zQ,Zda,Zb6,Zb5,Zb4,ZcO,ZcT hb,hr,Zmn hb hr,h,hf,hs]
theorem Zgb (h:l+3 < θ.length) {r:List Int} (hb:Byt r) (hr:Zaq r=true) (hf:ZeF e (Zbq r)=true) (hs:e.state=.synSent):zQ [.ref l,il r,.int now] (upE θ l e)=.ok (.bl true) (upE θ l (z9 e (Zbq r) now)):=by
  simp [zQ,Zda,Zb6,Zb5,Zb4,ZcO,Zee,ZcT hb,hr,Zmn hb hr,h,hf,hs]
@[simp] theorem Zwl {n k:Int}:ZcB [.int n,.int k] θ=.ok (.int (ZA n k)) θ:=by simp [ZcB,ZlH,ZA]
def Zbm (n:Int):Int:=if n % 2=0 then (4294967296-n/2 % 90) % 4294967296 else n
@[simp] theorem Zu4 {n:Int}:Ze7 [.int n] θ=.ok (.int (Zbm n)) θ:=by
  by_cases c:n % 2=0<;>simp [Ze7,Zi0,Zg1,Zbm,c]
end
end
end My
set_option Elab.async false
set_option linter.all false
set_option maxRecDepth 100000
set_option maxHeartbeats 4000000
namespace My
open PySem L2 L2.MM
noncomputable section
section
variable {θ:Sto} {ρ:List Sl} {fi fo fe ff:EM} {fa:AM} {i j k:Nat} {b:SM} {x:D} {r:List D}
theorem nr' {p:Prop} (h:p):p:=h
@[simp] theorem ZzW:Zql fi fo ρ θ=(fi ρ θ).bind fun y θ=>(fo ρ θ).bind fun d θ=>match Zlj y,Zgt θ d with
  | some k,some (_,kvs)=>.ok (.bl (valD kvs k).isSome) θ
  | _,_=>.bad:=nr' rfl
@[simp] theorem ZyF:ZmR fo fe ρ θ=(fo ρ θ).bind fun d θ=>match Zgt θ d with
  | none=>.bad
  | some _=>(fe ρ θ).bind fun y θ=>match Zlj y,Zgt θ d with
    | some k,some (l,kvs)=>match valD kvs k with
      | some v=>.ok v (θ.set l (.dK (dropD kvs k)))
      | none=>.bad
    | _,_=>.bad:=nr' rfl
@[simp] theorem Zwe:Zl4 fo fe ff ρ θ=(fo ρ θ).bind fun d θ=>match Zgt θ d with
  | none=>.bad
  | some _=>(fe ρ θ).bind fun y θ=>(ff ρ θ).bind fun z θ=>match Zlj y,Zgt θ d with
    | some k,some (l,kvs)=>if kvs.length<BIG then (match valD kvs k with
      | some v=>.ok v θ
      | none=>.ok z (θ.set l (.dK (putD kvs k z)))) else .bad
    | _,_=>.bad:=nr' rfl
@[simp] theorem ZyC {n:Int}:Zlj (.int n)=some (.inl n):=nr' rfl
end
abbrev EL:=List (Int×Int)
def atE (m:EL) (n:Int):Option Int:=(m.find? fun p=>decide (p.1=n)).map (·.2)
def Zdk (m:EL) (n:Int):EL:=m.filter fun p=>decide (p.1≠n)
def ZgL (m:EL) (n b:Int):EL:=match atE m n with | some _=>m | none=>m++[(n,b)]
abbrev ed (p:Int×Int):Key×D:=(Sum.inl p.1,D.int p.2)
theorem Zfw (n:Int):∀m:EL,valD (m.map ed) (.inl n)=(atE m n).map D.int
  | []=>rfl
  | p::r=>by
    have ih:=Zfw n r
    unfold valD atE at ih ⊢
    by_cases e:p.1=n
    · simp [ed,e]
    · simpa [ed,e] using ih
theorem Zlv (n:Int):∀m:EL,dropD (m.map ed) (.inl n)=(Zdk m n).map ed
  | []=>rfl
  | p::r=>by
    have ih:=Zlv n r
    unfold dropD Zdk at ih ⊢
    by_cases e:p.1=n
    · simpa [ed,e] using ih
    · simpa [ed,e] using ih
theorem ZqW (n:Int):∀m:EL,((m.map ed).any fun kv=>decide (kv.1=Sum.inl n))=(atE m n).isSome
  | []=>rfl
  | p::r=>by
    have ih:=ZqW n r
    unfold atE at ih ⊢
    by_cases e:p.1=n
    · simp [ed,e]
    · simpa [ed,e] using ih
theorem Zrx (n b:Int) (m:EL) (h:atE m n=none):putD (m.map ed) (.inl n) (.int b)=(m++[(n,b)]).map ed:=by
  unfold putD
  rw [ZqW,h]
  simp [ed]
section
variable {θ:Sto} {l:Nat} {e:Zs} {s:Seg} {now:Int}
theorem dk3 (h:l+3 < θ.length):Zgt (upE θ l e) (.ref (l+3))=some (l+3,e.early.map ed):=by
  have:(upE θ l e)[l+3]?=some (c3 e):=by
    unfold upE
    rw [List.getElem?_set_self (by simpa using h)]
  show (match (upE θ l e)[l+3]? with | some (Cell.dK kvs)=>some (l+3,kvs) | _=>none)=_
  rw [this]
  rfl
theorem Zve (h:l+3 < θ.length) (m:EL):(upE θ l e).set (l+3) (.dK (m.map ed))=upE θ l { e with early:=m }:=by
  unfold upE
  rw [List.set_set]
  rfl
end
def inWin (e:Zs) (n:Int):Bool:=decide (0≤Z0 n e.rcv) && decide (Z0 n e.rcv<ZL e)
def Zff (e:Zs) (s:Seg):Bool:=if ZnA s=0 then decide (0≤Z0 s.num e.rcv) && decide (Z0 s.num e.rcv≤64) else inWin e s.num || inWin e (ZA s.num (ZnA s-1))
def Zer (e:Zs) (s:Seg) (now:Int):Zs:=
  if bears s 4=true then e
  else if e.state=.timeWait then { e with owes_answer:=true,since:=now }
  else if e.state=.synCome∧bears s 2=true∧bears s 16=false then { e with owes_syn:=true }
  else { e with owes_answer:=true }
def Ze8 (e:Zs) (s:Seg):Zs:=if e.state=.timeWait then e else if s.num=e.rcv then { e with state:=.closed,error:=.reset } else { e with owes_answer:=true }
def Zbo (a b:Int):Bool:=decide (0<Z0 a b)
def Zdd (e:Zs) (s:Seg):Zs:={ e with wnd:=s.win,told:=s.num,told_by:=s.ans }
def ZaA (e:Zs) (s:Seg):Bool×Zs:=
  if e.nxt=e.first∨¬s.ans=e.nxt then (false,ZaH e s)
  else (true,Zdd { e with una:=s.ans,state:=if e.has_closed=true then .waitOne else .opn } s)
def isNewer (e:Zs) (s:Seg):Bool:=if s.num=e.told then !Zbo e.told_by s.ans else Zbo s.num e.told
def Zcm (e:Zs) (s:Seg) (now:Int):Zs:=
  if Zbo s.ans e.una=true then
    (if s.ans=e.nxt then { e with written:=e.written.drop (Z0 s.ans e.una).toNat,una:=s.ans } else zb { e with written:=e.written.drop (Z0 s.ans e.una).toNat,una:=s.ans } now)
  else e
def zX (e:Zs) (s:Seg) (now:Int):Zs:=
  let e1:=Zcm e s now
  if Zbo e1.una s.ans=true then e1
  else
    let e2:=if (Zbo s.ans e.una || isNewer e1 s)=true then Zdd e1 s else e1
    if e1.wnd=0∨e2.wnd=0 then { e2 with tries:=0 } else e2
def Zfz (e:Zs):Bool:=Zbo e.nxt e.behind
def ZaZ (e:Zs) (now:Int):Zs:=
  if Zfz e=false∨¬e.una=e.nxt then e
  else if e.state=.waitOne then { e with state:=.waitTwo }
  else if e.state=.closing then { e with state:=.timeWait,since:=now }
  else if e.state=.lastAck then { e with state:=.closed }
  else e
def ZaE (e:Zs) (s:Seg) (now:Int):Bool×Zs:=
  if e.state=.synCome then ZaA e s
  else if Zbo s.ans e.nxt=true then (false,{ e with owes_answer:=true })
  else (!decide ((ZaZ (zX e s now) now).state=.closed),ZaZ (zX e s now) now)
def Za5 (e:Zs) (num:Int):Nat→List Int→Zs
  | _,[]=>e
  | k,b::r=>Za5 (if inWin e (ZA num k)=true then { e with early:=ZgL e.early (ZA num k) b } else e) num (k+1) r
def ZaJ (e:Zs) (s:Seg):Zs:=if 0<s.data.length then { Za5 e s.num 0 s.data with owes_answer:=true } else Za5 e s.num 0 s.data
def ZbW (e:Zs) (s:Seg):Zs:=
  if bears s 1=false then e
  else if e.early_fin=none∧inWin e (ZA s.num s.data.length)=true then { e with owes_answer:=true,early_fin:=some (ZA s.num s.data.length) }
  else { e with owes_answer:=true }
def drawn:Nat→Zs→List Int×Zs
  | 0,e=>([],e)
  | n+1,e=>if e.early_fin=some e.rcv then ([],e) else match atE e.early e.rcv with
    | none=>([],e)
    | some b=>(b::(drawn n { e with early:=Zdk e.early e.rcv,rcv:=ZA e.rcv 1 }).1,(drawn n { e with early:=Zdk e.early e.rcv,rcv:=ZA e.rcv 1 }).2)
def Zhh (e:Zs) (r:List Int):Zs:={ e with come:=e.come++Za9 r none (some (ZL e)) }
def ZfV (e:Zs) (now:Int):Zs:=
  if e.state=.opn then { e with rcv:=ZA e.rcv 1,state:=.closeWait }
  else if e.state=.waitOne then { e with rcv:=ZA e.rcv 1,state:=.closing }
  else { e with rcv:=ZA e.rcv 1,state:=.timeWait,since:=now }
section
variable {θ:Sto} {l:Nat} {e:Zs} {s:Seg} {now n a b:Int}
@[simp] theorem ZyN:Zcb [.int a,.int b] θ=.ok (.bl (Zbo a b)) θ:=by simp [Zcb,ZlF,Zbo]
@[simp] theorem Zta (h:l+3 < θ.length):Zbb [.ref l] (upE θ l e)=.ok (.bl (Zfz e)) (upE θ l e):=by
  simp [Zbb,ZdL,h,Zfz]
@[simp] theorem ZsB (h:l+3 < θ.length):zj [.ref l,.int n] (upE θ l e)=.ok (.bl (inWin e n)) (upE θ l e):=by
  by_cases c:0≤Z0 n e.rcv<;>simp [zj,ZdK,h,inWin,ZL,c]<;>exact decide_eq_decide.mpr Iff.rfl
@[simp] theorem ZyO (h:l+3 < θ.length):Zgg [.ref l,s.d] (upE θ l e)=.ok (.bl (Zff e s)) (upE θ l e):=by
  by_cases c:ZnA s=0
  · by_cases c1:0≤Z0 s.num e.rcv<;>simp [Zgg,Zh5,Zfs,h,Zf9,c,c1,Zff]
  · by_cases c1:inWin e s.num=true<;>simp [Zgg,Zh5,Zfs,h,Zf9,c,c1,Zff]
@[simp] theorem Zsx (h:l+3 < θ.length):Zba [.ref l,s.d,.int now] (upE θ l e)=.ok .non (upE θ l (Zer e s now)):=by
  by_cases c4:bears s 4=true
  · simp [Zba,Zcn,ZbB,h,c4,Zer]
  · by_cases ct:e.state=.timeWait
    · simp [Zba,Zcn,ZbB,ZcF,ZcE,h,c4,ct,Zer]
    · by_cases cs:e.state=.synCome<;>by_cases c2:bears s 2=true<;>by_cases c16:bears s 16=true<;>simp [Zba,Zcn,ZbB,ZcF,ZcE,h,c4,ct,cs,c2,c16,Zer]
@[simp] theorem Zrj (h:l+3 < θ.length):Zbj [.ref l,s.d] (upE θ l e)=.ok .non (upE θ l (Ze8 e s)):=by
  by_cases ct:e.state=.timeWait
  · simp [Zbj,Zc7,Zck,Zcj,h,ct,Ze8]
  · by_cases c:s.num=e.rcv<;>simp [Zbj,Zc7,Zck,Zcj,h,ct,c,Ze8]
@[simp] theorem Zq2 (h:l+3 < θ.length):ZaC [.ref l,s.d] (upE θ l e)=.ok .non (upE θ l (Zdd e s)):=by
  simp [ZaC,Zel,h,Zdd]
@[simp] theorem Zpt (h:l+3 < θ.length):zo [.ref l,s.d] (upE θ l e)=.ok (.bl (ZaA e s).1) (upE θ l (ZaA e s).2):=by
  by_cases c1:e.nxt=e.first
  · simp [zo,Zau,z6,h,c1,ZaA]
  · by_cases c2:s.ans=e.nxt
    · by_cases c3:e.has_closed=true<;>simp [zo,Zau,z6,h,c1,c2,c3,ZaA]
    · simp [zo,Zau,z6,h,c1,c2,ZaA]
@[simp] theorem Zth (h:l+3 < θ.length):ZcY [.ref l,s.d] (upE θ l e)=.ok (.bl (isNewer e s)) (upE θ l e):=by
  by_cases c:s.num=e.told<;>simp [ZcY,Zf0,ZeR,h,c,isNewer]
theorem Zrd (h:l+3 < θ.length):Zca [.ref (l+1),.int n] (upE θ l e)=.ok (il (e.written.take n.toNat)) (upE θ l { e with written:=e.written.drop n.toNat }):=by
  by_cases c:0<n
  · simp [Zca,Zc4,h,Zd7,ZbY,c,show 0≤n by omega,show ¬n<0 by omega]
  · have z:n.toNat=0:=by omega
    by_cases c0:n<0
    · simp [Zca,Zc4,h,Zd7,ZbY,z,c0,ZcC]
    · have n0:n=0:=by omega
      simp [Zca,Zc4,h,Zd7,ZbY,n0,ZcC]
theorem Zrc (h:l+3 < θ.length):Zca [.ref (l+2),.int n] (upE θ l e)=.ok (il (e.come.take n.toNat)) (upE θ l { e with come:=e.come.drop n.toNat }):=by
  by_cases c:0<n
  · simp [Zca,Zc4,h,Zd7,ZbY,c,show 0≤n by omega,show ¬n<0 by omega]
  · have z:n.toNat=0:=by omega
    by_cases c0:n<0
    · simp [Zca,Zc4,h,Zd7,ZbY,z,c0,ZcC]
    · have n0:n=0:=by omega
      simp [Zca,Zc4,h,Zd7,ZbY,n0,ZcC]
@[simp] theorem Zq4 (h:l+3 < θ.length):zL [.ref l,s.d,.int now] (upE θ l e)=.ok .non (upE θ l (zX e s now)):=by
  have tk:=fun (e:Zs) (n:Int)=>Zrd (θ:=θ) (l:=l) (e:=e) (n:=n) h
  have h2:Zat [.val (.ref l),.val s.d,.val (.int now),.val (.int s.ans),.val (.bl (Zbo s.ans e.una)),.no] (upE θ l e)=.ok (.nx,[.val (.ref l),.val s.d,.val (.int now),.val (.int s.ans),.val (.bl (Zbo s.ans e.una)),.no]) (upE θ l (Zcm e s now)):=by
    unfold Zcm
    by_cases c1:Zbo s.ans e.una=true
    · rw [if_pos c1]
      by_cases c2:s.ans=e.nxt
      · rw [if_pos c2,c1]
        simp [Zat,Zb2,h,tk,c2]
      · rw [if_neg c2,c1]
        simp [Zat,Zb2,h,tk,c2]
    · rw [if_neg c1]
      simp [Zat,c1]
  unfold zX
  obtain ⟨e1,he1⟩:∃x,x=Zcm e s now:=⟨_,rfl⟩
  rw [←he1] at h2 ⊢
  obtain ⟨g,hg⟩:∃x,x=Zbo s.ans e.una:=⟨_,rfl⟩
  rw [←hg] at h2 ⊢
  clear he1
  by_cases c3:Zbo e1.una s.ans=true
  · simp [zL,Za1,h,←hg,h2,Zas,c3]
  · have w0:∀x:Zs,(if (g || isNewer e1 s)=true then Zdd e1 s else e1)=x→zL [.ref l,s.d,.int now] (upE θ l e)=.ok .non (upE θ l (if e1.wnd=0∨x.wnd=0 then { x with tries:=0 } else x)):=by
      intro x hx
      have h4:Za8 [.val (.ref l),.val s.d,.val (.int now),.val (.int s.ans),.val (.bl g),.val (.bl (decide (e1.wnd=0)))] (upE θ l e1)=.ok (.nx,[.val (.ref l),.val s.d,.val (.int now),.val (.int s.ans),.val (.bl g),.val (.bl (decide (e1.wnd=0)))]) (upE θ l x):=by
        rw [←hx]
        cases g
        · by_cases c:isNewer e1 s=true<;>simp [Za8,h,c]
        · simp [Za8,h]
      by_cases c5:e1.wnd=0
      · rw [if_pos (.inl c5)]
        simp [zL,Za1,h,←hg,h2,Zas,c3,c5] at h4 ⊢
        simp [h4,Za7,h]
      · by_cases c6:x.wnd=0
        · rw [if_pos (.inr c6)]
          simp [zL,Za1,h,←hg,h2,Zas,c3,c5] at h4 ⊢
          simp [h4,Za7,h,c6]
        · rw [if_neg (by intro z; exact z.elim c5 c6)]
          simp [zL,Za1,h,←hg,h2,Zas,c3,c5] at h4 ⊢
          simp [h4,Za7,h,c6]
    simp only [if_neg c3]
    exact w0 _ rfl
@[simp] theorem ZsC (h:l+3 < θ.length):ZQ [.ref l,.int now] (upE θ l e)=.ok .non (upE θ l (ZaZ e now)):=by
  by_cases c1:Zfz e=true
  · by_cases c2:e.una=e.nxt
    · cases c:e.state<;>simp [ZQ,zl,zg,ZaO,ZaN,ZaM,h,c,c1,c2,ZaZ]
    · simp [ZQ,zl,zg,h,c1,c2,ZaZ]
  · simp [ZQ,zl,zg,h,c1,ZaZ]
@[simp] theorem ZuA (h:l+3 < θ.length):ZZ [.ref l,s.d,.int now] (upE θ l e)=.ok (.bl (ZaE e s now).1) (upE θ l (ZaE e s now).2):=by
  by_cases c1:e.state=.synCome
  · simp [ZZ,zD,zy,h,c1,ZaE]
  · by_cases c2:Zbo s.ans e.nxt=true
    · simp [ZZ,zD,zy,z7,h,c1,c2,ZaE]
    · simp [ZZ,zD,zy,z7,h,c1,c2,ZaE]
end
end
end My
set_option Elab.async false
set_option linter.all false
set_option maxRecDepth 100000
set_option maxHeartbeats 4000000
namespace My
open PySem L2 L2.MM
noncomputable section
theorem ZiI (m:EL) (n b:Int):(ZgL m n b).length≤m.length+1:=by
  unfold ZgL
  cases atE m n<;>simp
section
variable {θ:Sto} {l:Nat} {e:Zs} {s:Seg} {now n b:Int}
abbrev keepB:SM:=Zp (ZS 4 (mCB zn (Zc (mOp ixM (Zd 1) (mC (.int 2))) (Zc (Zd 2) Zk)))) Za0
theorem Zri (h:l+3 < θ.length) (k:Nat) (x:Sl) (he:e.early.length<1000):keepB [.val (.ref l),.val s.d,.val (.int k),.val (.int b),x] (upE θ l e)=.ok (.nx,[.val (.ref l),.val s.d,.val (.int k),.val (.int b),.val (.int (ZA s.num k))]) (upE θ l (if inWin e (ZA s.num k)=true then { e with early:=ZgL e.early (ZA s.num k) b } else e)):=by
  have hd:=fun (e:Zs)=>dk3 (θ:=θ) (l:=l) (e:=e) h
  have hs:=fun (e:Zs) (m:EL)=>Zve (θ:=θ) (l:=l) (e:=e) h m
  have hB:(e.early.map ed).length<BIG:=by simp [BIG]; omega
  obtain ⟨n,hn⟩:∃n,n=ZA s.num k:=⟨_,rfl⟩
  by_cases c:inWin e n=true
  · unfold ZgL
    cases c2:atE e.early n with
    | some v=>
      simp [Za0,h,←hn,c,hd,hB,Zfw,c2,-List.length_map]
    | none=>
      simp [Za0,h,←hn,c,hd,hB,Zfw,c2,Zrx,hs,-List.length_map,-List.map_append]
  · simp [Za0,h,←hn,c]
theorem Zml (h:l+3 < θ.length):∀(r:List Int) (k:Nat) (x y z:Sl) (e:Zs),e.early.length+r.length<1000→
    ∃x' y' z',forE 2 3 keepB k (r.map D.int) [.val (.ref l),.val s.d,x,y,z] (upE θ l e)=.ok (.nx,[.val (.ref l),.val s.d,x',y',z']) (upE θ l (Za5 e s.num k r))
  | [],k,x,y,z,e,_=>⟨x,y,z,rfl⟩
  | b::r,k,x,y,z,e,hl=>by
    have hl':e.early.length+r.length+1<1000:=by simpa [Nat.add_assoc] using hl
    show ∃x' y' z',(keepB [.val (.ref l),.val s.d,.val (.int k),.val (.int b),z] (upE θ l e)).bind (Zfe (forE 2 3 keepB (k+1) (r.map D.int)))=_
    rw [Zri h k z (by omega)]
    exact Zml h r (k+1) _ _ _ _ (by
      split
      · have:=ZiI e.early (ZA s.num k) b
        show (ZgL e.early (ZA s.num k) b).length+r.length<1000
        omega
      · omega)
@[simp] theorem ZkT (h:l+3 < θ.length) (hl:e.early.length+s.data.length<1000):ZbJ [.ref l,s.d] (upE θ l e)=.ok .non (upE θ l (ZaJ e s)):=by
  obtain ⟨x,y,z,g⟩:=Zml (s:=s) h s.data 0 .no .no .no e hl
  have h2:ZcI [.val (.ref l),.val s.d,.no,.no,.no] (upE θ l e)=.ok (.nx,[.val (.ref l),.val s.d,x,y,z]) (upE θ l (Za5 e s.num 0 s.data)):=by
    rw [←g]
    simp [ZcI,Zqk]
    rfl
  obtain ⟨e1,he1⟩:∃q,q=Za5 e s.num 0 s.data:=⟨_,rfl⟩
  unfold ZaJ
  rw [←he1] at h2 ⊢
  by_cases c:0<s.data.length
  · rw [if_pos c]
    simp [ZbJ,Zdw,h2,ZcH,h,c]
  · rw [if_neg c]
    simp [ZbJ,Zdw,h2,ZcH,h,c]
@[simp] theorem Ztw (h:l+3 < θ.length) (e:Zs) (n:Int):Z5 ["End"] "early_fin" (.int n) (.ref l) (upE θ l e)=some (upE θ l { e with early_fin:=some n }):=Zk1 h e (some n)
@[simp] theorem ZuI (r:Option Int):Zcu (Zhb r)=r.isNone:=by cases r<;>rfl
theorem ZkS (h:l+3 < θ.length):ZaK [.val (.ref l),.val s.d,.val (.int n)] (upE θ l e)=.ok (.nx,[.val (.ref l),.val s.d,.val (.int n)]) (upE θ l (if e.early_fin=none∧inWin e n=true then { e with early_fin:=some n } else e)):=by
  by_cases c2:e.early_fin=none
  · by_cases c3:inWin e n=true
    · rw [if_pos ⟨c2,c3⟩]
      have q:∀f,e.early_fin=f→f=none→ZaK [.val (.ref l),.val s.d,.val (.int n)] (upE θ l e)=.ok (.nx,[.val (.ref l),.val s.d,.val (.int n)]) (upE θ l { e with early_fin:=some n }):=by
        intro f hf h0
        have h1:e.early_fin.isNone=true:=by rw [hf,h0]; rfl
        simp [ZaK,h,h1,c3]
      exact q _ rfl c2
    · rw [if_neg fun z=>c3 z.2]
      have h1:e.early_fin.isNone=true:=by rw [c2]; rfl
      simp [ZaK,h,h1,c3]
  · rw [if_neg fun z=>c2 z.1]
    have h1:e.early_fin.isNone=false:=by cases q:e.early_fin<;>first | exact absurd q c2 | rfl
    simp [ZaK,h,h1]
@[simp] theorem ZlM (h:l+3 < θ.length):Zcd [.ref l,s.d] (upE θ l e)=.ok .non (upE θ l (ZbW e s)):=by
  unfold ZbW
  by_cases c1:bears s 1=true
  · obtain ⟨n,hn⟩:∃n,n=ZA s.num s.data.length:=⟨_,rfl⟩
    have k2:=ZkS (e:={ e with owes_answer:=true }) (s:=s) (n:=n) h
    rw [←hn,c1]
    simp [Zcd,Zec,Zc6,h,c1,←hn,k2]
    rfl
  · simp [Zcd,Zec,Zc6,c1]
@[simp] theorem Zze (n:Int) (r:Option Int):neM (.int n) (Zhb r) θ=.ok (.bl (!decide (r=some n))) θ:=by
  cases r with
  | none=>rw [Zgi (by exact ZcD rfl rfl rfl rfl)]; simp [look,Zhb]
  | some m=>simp [Zhb,eq_comm]
@[simp] theorem ZzA (n:Int) (r:Option Int):eqM (.int n) (Zhb r) θ=.ok (.bl (decide (r=some n))) θ:=by
  cases r with
  | none=>rw [Zgs (by exact ZcD rfl rfl rfl rfl)]; simp [look,Zhb]
  | some m=>simp [Zhb,eq_comm]
abbrev ZqF:TMr:=Zgl (ZF (mOp neM (ZG ["End"] "rcv" (Zd 0)) (ZG ["End"] "early_fin" (Zd 0)))) (ZF (Zql (ZG ["End"] "rcv" (Zd 0)) (ZG ["End"] "early" (Zd 0))))
abbrev ZqG:SM:=Zp (Zd5 1 (ZmR (ZG ["End"] "early" (Zd 0)) (ZG ["End"] "rcv" (Zd 0))))
    (ZD ["End"] "rcv" (Zd 0) (mCB zn (Zc (ZG ["End"] "rcv" (Zd 0)) (Zc (mC (.int 1)) Zk))))
theorem Zrm (h:l+3 < θ.length) (x:Sl):ZqF [.val (.ref l),x] (upE θ l e)=.ok (!decide (e.early_fin=some e.rcv) && (atE e.early e.rcv).isSome) (upE θ l e):=by
  have hd:=fun (e:Zs)=>dk3 (θ:=θ) (l:=l) (e:=e) h
  by_cases c:e.early_fin=some e.rcv<;>simp [h,hd,Zfw,c]
theorem Zrn (h:l+3 < θ.length) {b:Int} (xs:List D) (hx:xs.length<BIG) (hv:atE e.early e.rcv=some b):ZqG [.val (.ref l),.own xs] (upE θ l e)=.ok (.nx,[.val (.ref l),.own (xs++[.int b])]) (upE θ l { e with early:=Zdk e.early e.rcv,rcv:=ZA e.rcv 1 }):=by
  have hd:=fun (e:Zs)=>dk3 (θ:=θ) (l:=l) (e:=e) h
  have hs:=fun (e:Zs) (m:EL)=>Zve (θ:=θ) (l:=l) (e:=e) h m
  simp [h,hd,Zfw,hv,Zlv,hs,hx]
theorem ZqE {m:EL} {n b:Int} (h:atE m n=some b):(Zdk m n).length<m.length:=by
  induction m with
  | nil=>simp [atE] at h
  | cons p r ih=>
    unfold Zdk atE at *
    by_cases e:p.1=n
    · simp [e]
      exact Nat.lt_succ_of_le (List.length_filter_le ..)
    · simp [e] at h ⊢
      have:=ih (by simpa using h)
      simpa using this
theorem Zmo (h:l+3 < θ.length):∀(n:Nat) (e:Zs) (xs:List Int),e.early.length<n→xs.length+n<1000→Zcy ZqF ZqG n [.val (.ref l),.own (xs.map D.int)] (upE θ l e)=.ok (.nx,[.val (.ref l),.own ((xs++(drawn n e).1).map D.int)]) (upE θ l (drawn n e).2)
  | 0,e,xs,hn,_=>absurd hn (Nat.not_lt_zero _)
  | n+1,e,xs,hn,hx=>by
    rw [Zhd,Zrm h]
    unfold drawn
    by_cases c:e.early_fin=some e.rcv
    · simp [c]
    · cases c2:atE e.early e.rcv with
      | none=>simp [c]
      | some b=>
        have:=Zmo h n { e with early:=Zdk e.early e.rcv,rcv:=ZA e.rcv 1 } (xs++[b]) (by have:=ZqE c2; simp only; omega) (by simp; omega)
        rw [if_neg c]
        simp only [c,decide_false,Bool.not_false,Bool.true_and,Option.isSome_some,R.bind,if_true]
        rw [Zrn h (xs.map D.int) (by simp [BIG]; omega) c2]
        simp only [R.bind,Zfe]
        rw [List.map_append] at this
        simpa [List.append_assoc] using this
theorem ZhS:∀(n:Nat) (e:Zs),(drawn n e).2.come=e.come
  | 0,e=>rfl
  | n+1,e=>by
    unfold drawn
    split
    · rfl
    · split
      · rfl
      · exact ZhS n _
theorem ZmZ {r:List Int} {k:Int} (h:0≤k):((Za9 r none (some k)).length:Int)≤k:=by
  rw [Zd7 r h]
  have:=List.length_take_le k.toNat r
  omega
theorem Ztg (h:l+3 < θ.length) (hc:e.come.length≤64) (r:List Int):ZfH [.ref (l+2),il r] (upE θ l e)=.ok (.int (Za9 r none (some (ZL e))).length) (upE θ l (Zhh e r)):=by
  have h1:e.come.length+(Za9 r none (some (ZL e))).length≤100000:=by
    have:=ZmZ (r:=r) (k:=ZL e) (by unfold ZL; omega)
    unfold ZL at *
    omega
  simp [ZfH,Zjq,h,Zhh,h1]
@[simp] theorem Zwj (h:l+3 < θ.length):ZdV [.ref (l+1)] (upE θ l e)=.ok (.int (64-(e.written.length:Int))) (upE θ l e):=by
  simp [ZdV,ZhY,h]
theorem Ztf (h:l+3 < θ.length) (hc:e.written.length≤64) (r:List Int):ZfH [.ref (l+1),il r] (upE θ l e)=.ok (.int (Za9 r none (some (64-(e.written.length:Int)))).length) (upE θ l { e with written:=e.written++Za9 r none (some (64-(e.written.length:Int))) }):=by
  have h1:e.written.length+(Za9 r none (some (64-(e.written.length:Int)))).length≤100000:=by
    have:=ZmZ (r:=r) (k:=64-(e.written.length:Int)) (by omega)
    omega
  simp [ZfH,Zjq,h,h1]
def ZfW (e:Zs):Zs:=Zhh (drawn 200 e).2 (drawn 200 e).1
theorem Zg5 (h:l+3 < θ.length) (hc:e.come.length≤64) (he:e.early.length<200):ZaX [.ref l] (upE θ l e)=.ok .non (upE θ l (ZfW e)):=by
  have g:=Zmo h 200 e [] he (by simp)
  have g1:Zbt [.val (.ref l),.own []] (upE θ l e)=.ok (.nx,[.val (.ref l),.own ((drawn 200 e).1.map D.int)]) (upE θ l (drawn 200 e).2):=by
    have q:Zbt=Zcy ZqF ZqG 200:=rfl
    rw [q]
    simpa using g
  have hc1:(drawn 200 e).2.come.length≤64:=by rw [ZhS]; exact hc
  obtain ⟨e1,he1⟩:∃q,q=(drawn 200 e).2:=⟨_,rfl⟩
  obtain ⟨r1,hr1⟩:∃q,q=(drawn 200 e).1:=⟨_,rfl⟩
  unfold ZfW
  rw [←he1,←hr1] at g1 ⊢
  rw [←he1] at hc1
  have tl:=Ztg (e:=e1) h hc1 r1
  simp [ZaX,Zdo,g1,h,tl]
@[simp] theorem Ztk (h:l+3 < θ.length):Zce [.ref l,.int now] (upE θ l e)=.ok .non (upE θ l (ZfV e now)):=by
  by_cases c1:e.state=.opn
  · simp [Zce,Zed,Zc8,h,c1,ZfV]
  · by_cases c2:e.state=.waitOne<;>simp [Zce,Zed,ZeT,Zc8,h,c1,c2,ZfV]
def ZbQ (e:Zs) (s:Seg):Zs:=ZfW (ZbW (ZaJ e s) s)
def Zbf (e:Zs) (s:Seg) (now:Int):Zs:=
  if e.state=.opn∨e.state=.waitOne∨e.state=.waitTwo then
    (if (ZbQ e s).early_fin=some (ZbQ e s).rcv then ZfV (ZbQ e s) now else ZbQ e s)
  else e
theorem ZgM (num:Int):∀(r:List Int) (k:Nat) (e:Zs),(Za5 e num k r).early.length≤e.early.length+r.length
  | [],k,e=>Nat.le_refl _
  | b::r,k,e=>by
    unfold Za5
    refine Nat.le_trans (ZgM num r (k+1) _) ?_
    split
    · have:=ZiI e.early (ZA num k) b
      simp only [List.length_cons]
      omega
    · simp only [List.length_cons]; omega
theorem Zig (e:Zs) (s:Seg):(ZbW e s).early=e.early:=by
  unfold ZbW
  split
  · rfl
  · split<;>rfl
theorem Zjg (e:Zs) (s:Seg):(ZaJ e s).early.length≤e.early.length+s.data.length:=by
  unfold ZaJ
  split<;>exact ZgM ..
theorem ZfT (num:Int):∀(r:List Int) (k:Nat) (e:Zs),(Za5 e num k r).come=e.come
  | [],k,e=>rfl
  | b::r,k,e=>by
    unfold Za5
    rw [ZfT num r (k+1) _]
    split<;>rfl
theorem Zjf (e:Zs) (s:Seg):(ZbW e s).come=e.come:=by
  unfold ZbW
  split
  · rfl
  · split<;>rfl
theorem Zih (e:Zs) (s:Seg):(ZaJ e s).come=e.come:=by
  unfold ZaJ
  split<;>exact ZfT ..
theorem Zie (h:l+3 < θ.length) (hc:e.come.length≤64) (hl:e.early.length+s.data.length<200):ZaD [.ref l,s.d,.int now] (upE θ l e)=.ok .non (upE θ l (Zbf e s now)):=by
  unfold Zbf
  by_cases c:e.state=.opn∨e.state=.waitOne∨e.state=.waitTwo
  · rw [if_pos c]
    have k1:=ZkT (e:=e) (s:=s) h (by omega)
    have k2:=ZlM (e:=ZaJ e s) (s:=s) h
    have k3:=Zg5 (e:=ZbW (ZaJ e s) s) h (by rw [Zjf,Zih]; exact hc) (by rw [Zig]; have:=Zjg e s; omega)
    have k4:ZfW (ZbW (ZaJ e s) s)=ZbQ e s:=rfl
    rw [k4] at k3
    obtain ⟨e3,he3⟩:∃q,q=ZbQ e s:=⟨_,rfl⟩
    rw [←he3] at k3 ⊢
    have c':e.state∈[State.opn,.waitOne,.waitTwo]:=by simpa using c
    by_cases c2:e3.early_fin=some e3.rcv
    · simp [ZaD,ZbC,Za6,h,c,k1,k2,k3,Zb1,c2]
    · simp [ZaD,ZbC,Za6,h,c,k1,k2,k3,Zb1,c2]
  · rw [if_neg c]
    simp [ZaD,ZbC,Za6,h,c]
def ZaS (e:Zs) (s:Seg) (now:Int):Zs:=
  if Zff e s=false then Zer e s now
  else if bears s 4=true then Ze8 e s
  else if bears s 2=true then { e with owes_answer:=true }
  else if bears s 16=true then (if (ZaE e s now).1=true then Zbf (ZaE e s now).2 s now else (ZaE e s now).2)
  else e
theorem Zjk (e:Zs) (s:Seg) (now:Int):(ZaE e s now).2.early=e.early:=by
  unfold ZaE
  split
  · unfold ZaA
    split
    · unfold ZaH; split<;>rfl
    · rfl
  · split
    · rfl
    · show (ZaZ (zX e s now) now).early=e.early
      have h1:(Zcm e s now).early=e.early:=by
        unfold Zcm
        split
        · split<;>rfl
        · rfl
      have h2:(zX e s now).early=e.early:=by
        unfold zX
        simp only
        split
        · exact h1
        · split
          · split<;>exact h1
          · split<;>exact h1
      unfold ZaZ
      split
      · exact h2
      · split
        · exact h2
        · split
          · exact h2
          · split<;>exact h2
theorem Zlo (e:Zs) (s:Seg) (now:Int):(ZaE e s now).2.come=e.come:=by
  unfold ZaE
  split
  · unfold ZaA
    split
    · unfold ZaH; split<;>rfl
    · rfl
  · split
    · rfl
    · show (ZaZ (zX e s now) now).come=e.come
      have h1:(Zcm e s now).come=e.come:=by
        unfold Zcm
        split
        · split<;>rfl
        · rfl
      have h2:(zX e s now).come=e.come:=by
        unfold zX
        simp only
        split
        · exact h1
        · split
          · split<;>exact h1
          · split<;>exact h1
      unfold ZaZ
      split
      · exact h2
      · split
        · exact h2
        · split
          · exact h2
          · split<;>exact h2
theorem Zga (h:l+3 < θ.length) (hc:e.come.length≤64) (hl:e.early.length+s.data.length<200):za [.ref l,s.d,.int now] (upE θ l e)=.ok .non (upE θ l (ZaS e s now)):=by
  unfold ZaS
  by_cases c1:Zff e s=true
  · by_cases c2:bears s 4=true
    · simp [za,zt,ze,zx,h,c1,c2]
    · by_cases c3:bears s 2=true
      · simp [za,zt,ze,zx,zS,h,c1,c2,c3]
      · by_cases c4:bears s 16=true
        · have hs:=Zie (e:=(ZaE e s now).2) (s:=s) (now:=now) h (by rw [Zlo]; exact hc) (by rw [Zjk]; exact hl)
          by_cases c5:(ZaE e s now).1=true
          · simp [za,zt,ze,zx,zS,Zax,h,c1,c2,c3,c4,c5,hs]
          · simp [za,zt,ze,zx,zS,Zax,h,c1,c2,c3,c4,c5]
        · simp [za,zt,ze,zx,zS,Zax,h,c1,c2,c3,c4]
  · simp [za,zt,ze,h,c1]
theorem Zg6 (h:l+3 < θ.length) (hc:e.come.length≤64) {r:List Int} (hb:Byt r) (hr:Zaq r=true) (hf:ZeF e (Zbq r)=true) (hl:e.early.length+(Zbq r).data.length<200) (h1:¬e.state=.closed) (h2:¬e.state=.listen) (h3:¬e.state=.synSent):zQ [.ref l,il r,.int now] (upE θ l e)=.ok (.bl true) (upE θ l (ZaS e (Zbq r) now)):=by
  simp [zQ,Zda,Zb6,Zb5,Zb4,ZcO,Zee,ZcT hb,hr,Zmn hb hr,h,hf,h1,h2,h3,Zga h hc hl]
def Zdl (e:Zs) (s:Seg) (now:Int):Zs:=
  match e.state with
  | .closed=>ZaH e s
  | .listen=>Zbh e s
  | .synSent=>z9 e s now
  | _=>ZaS e s now
theorem ZcK (h:l+3 < θ.length) (hc:e.come.length≤64) (hs:s.Ok) (hf:ZeF e s=true) (hl:e.early.length<150):zQ [.ref l,il (putL s),.int now] (upE θ l e)=.ok (.bl true) (upE θ l (Zdl e s now)):=by
  have hb:=Zmz hs.put
  have hr:=Ziu hs
  have hg:=ZmW hs
  have hd:s.data.length≤16:=hs.data.2
  unfold Zdl
  cases c:e.state
  · simp only
    rw [Zg8 h hb hr (by rw [hg]; exact hf) c,hg]
  · simp only
    rw [Zg7 h hb hr (by rw [hg]; exact hf) c,hg]
  · simp only
    rw [Zgb h hb hr (by rw [hg]; exact hf) c,hg]
  all_goals
    simp only
    rw [Zg6 h hc hb hr (by rw [hg]; exact hf) (by rw [hg]; omega) (by rw [c]; decide) (by rw [c]; decide) (by rw [c]; decide),hg]
def Zc3 (e:Zs):Bool:=!e.has_closed && decide (e.state∈[State.synSent,.synCome,.opn,.closeWait])
def Zik (e:Zs) (r:List Int):List Int:=Za9 r none (some (64-(e.written.length:Int)))
def Zi2 (e:Zs) (r:List Int):Zs:=if Zc3 e=true then { e with written:=e.written++Zik e r,behind:=ZA e.behind (Zik e r).length } else e
theorem Zrb (h:l+3 < θ.length) (hc:e.written.length≤64) (r:List Int):Zbz [.ref l,il r] (upE θ l e)=.ok (.int (if Zc3 e=true then (Zik e r).length else 0)) (upE θ l (Zi2 e r)):=by
  have hw:Zik e r=Za9 r none (some (64-(e.written.length:Int))):=rfl
  unfold Zi2 Zc3
  by_cases c:e.has_closed=true
  · simp [Zbz,ZcS,ZbL,h,c]
  · by_cases c2:e.state∈[State.synSent,.synCome,.opn,.closeWait]
    · have c2':e.state=State.synSent∨e.state=State.synCome∨e.state=State.opn∨e.state=State.closeWait:=by simpa using c2
      simp [Zbz,ZcS,ZbL,h,c,c2',←hw,Ztf h hc]
    · have c2':¬(e.state=State.synSent∨e.state=State.synCome∨e.state=State.opn∨e.state=State.closeWait):=by simpa using c2
      simp [Zbz,ZcS,ZbL,h,c,c2']
def Zhz (e:Zs) (n:Int):Zs:=
  if ZL e=0∧0<ZL { e with come:=e.come.drop n.toNat }∧e.state∈[State.opn,.waitOne,.waitTwo] then { e with come:=e.come.drop n.toNat,owes_answer:=true } else { e with come:=e.come.drop n.toNat }
theorem Zpn (h:l+3 < θ.length):ZdW [.ref l,.int n] (upE θ l e)=.ok (il (e.come.take n.toNat)) (upE θ l (Zhz e n)):=by
  have tk:=Zrc (θ:=θ) (l:=l) (e:=e) (n:=n) h
  obtain ⟨e1,he1⟩:∃q:Zs,q={ e with come:=e.come.drop n.toNat }:=⟨_,rfl⟩
  obtain ⟨k1,hk1⟩:∃q,q=il (e.come.take n.toNat):=⟨_,rfl⟩
  have s1:e.state=e1.state:=by rw [he1]
  unfold Zhz
  have e2:({ e with come:=e.come.drop n.toNat,owes_answer:=true }:Zs)={ e1 with owes_answer:=true }:=by rw [he1]
  rw [e2,←he1,←hk1,s1]
  rw [←he1,←hk1] at tk
  by_cases c1:ZL e=0
  · by_cases c2:0<ZL e1
    · by_cases c3:e1.state∈[State.opn,.waitOne,.waitTwo]
      · have c3':e1.state=State.opn∨e1.state=State.waitOne∨e1.state=State.waitTwo:=by simpa using c3
        simp [ZdW,ZeM,Zc5,h,tk,c1,c2,c3']
      · have c3':¬(e1.state=State.opn∨e1.state=State.waitOne∨e1.state=State.waitTwo):=by simpa using c3
        simp [ZdW,ZeM,Zc5,h,tk,c1,c2,c3']
    · simp [ZdW,ZeM,Zc5,h,tk,c1,c2]
  · simp [ZdW,ZeM,Zc5,h,tk,c1]
end
end
end My
set_option Elab.async false
set_option linter.all false
set_option maxRecDepth 100000
set_option maxHeartbeats 4000000
namespace My
open PySem L2 L2.MM
noncomputable section
theorem Zp1 {n k:Int} (h : -2147483648≤k∧k<2147483648):Z0 (ZA n k) n=k:=by
  unfold Z0 ZA; omega
theorem ZdE {n j k:Int} (h : -2147483648≤j-k∧j-k<2147483648):Z0 (ZA n j) (ZA n k)=j-k:=by
  unfold Z0 ZA; omega
@[simp] theorem Zp0 (n:Int):Z0 n n=0:=by
  unfold Z0; omega
@[simp] theorem Zix (n:Int):Zbo n n=false:=by simp [Zbo]
theorem Za2 (n j k:Int):ZA (ZA n j) k=ZA n (j+k):=by
  unfold ZA; omega
theorem ZaU (n k:Int):0≤ZA n k∧ZA n k≤4294967295:=by
  unfold ZA; omega
theorem Znp {n:Int} (h:0≤n∧n≤4294967295):ZA n 0=n:=by
  unfold ZA; omega
theorem ZrF {n k:Int} (h:0<k∧k<4294967296):¬ZA n k=n:=by
  unfold ZA; omega
theorem ZfC {n j k:Int} (h:0≤j∧0≤k∧j<4294967296∧k<4294967296):ZA n j=ZA n k↔j=k:=by
  unfold ZA; omega
def Zet (num:Int):Nat→List Int→EL
  | _,[]=>[]
  | k,b::r=>(ZA num k,b)::Zet num (k+1) r
theorem ZdR (p:Int×Int) (m:EL) (n:Int):atE (p::m) n=if p.1=n then some p.2 else atE m n:=by
  unfold atE
  by_cases h:p.1=n<;>simp [h]
theorem Zso (m m':EL) (n:Int) (h:atE m n=none):atE (m++m') n=atE m' n:=by
  induction m with
  | nil=>rfl
  | cons p r ih=>
    rw [ZdR] at h
    rw [List.cons_append,ZdR]
    by_cases e:p.1=n
    · rw [if_pos e] at h; cases h
    · rw [if_neg e] at h ⊢
      exact ih h
theorem Znb (num:Int):∀(r:List Int) (k j:Nat),j<k→k+r.length<4294967296→atE (Zet num k r) (ZA num j)=none
  | [],k,j,_,_=>rfl
  | b::r,k,j,h,hl=>by
    have hl':k+r.length+1<4294967296:=by simpa [Nat.add_assoc] using hl
    rw [Zet,ZdR,if_neg (by rw [ZfC (by omega)]; omega)]
    exact Znb num r (k+1) j (by omega) (by omega)
theorem Zmb (m:EL) (n:Int) (h:atE m n=none):Zdk m n=m:=by
  induction m with
  | nil=>rfl
  | cons p r ih=>
    rw [ZdR] at h
    by_cases e:p.1=n
    · rw [if_pos e] at h; cases h
    · rw [if_neg e] at h
      unfold Zdk at *
      rw [List.filter_cons_of_pos (by simp [e]),ih h]
theorem ZnI (num b:Int) (r:List Int) (k:Nat) (hl:k+1+r.length<4294967296):Zdk ((ZA num k,b)::Zet num (k+1) r) (ZA num k)=Zet num (k+1) r:=by
  have:=Zmb (Zet num (k+1) r) (ZA num k) (Znb num r (k+1) k (by omega) hl)
  unfold Zdk at *
  rw [List.filter_cons_of_neg (by simp),this]
theorem ZhL (num:Int):∀(r:List Int) (k:Nat) (e:Zs),k+r.length<4294967296→(∀i:Nat,k≤i→i<k+r.length→inWin e (ZA num i)=true∧atE e.early (ZA num i)=none)→Za5 e num k r={ e with early:=e.early++Zet num k r }
  | [],k,e,_,_=>by simp [Za5,Zet]
  | b::r,k,e,hl,h=>by
    have hl':k+r.length+1<4294967296:=by simpa [Nat.add_assoc] using hl
    obtain ⟨h1,h2⟩:=h k (Nat.le_refl _) (by simp)
    unfold Za5
    rw [if_pos h1]
    have h3:ZgL e.early (ZA num k) b=e.early++[(ZA num k,b)]:=by unfold ZgL; rw [h2]
    rw [h3,ZhL num r (k+1) _ (by omega)]
    · simp [Zet]
    · intro i hi hj
      obtain ⟨g1,g2⟩:=h i (by omega) (by simp; omega)
      refine ⟨g1,?_⟩
      show atE (e.early++[(ZA num k,b)]) (ZA num i)=none
      rw [Zso _ _ _ g2,ZdR,if_neg (by rw [ZfC (by omega)]; omega)]
      rfl
theorem Zlw (num:Int):∀(r:List Int) (k n:Nat) (e:Zs),k+r.length<4294967296→r.length<n→e.rcv=ZA num k→e.early=Zet num k r→(∀i:Nat,k≤i→i<k+r.length→¬e.early_fin=some (ZA num i))→drawn n e=(r,{ e with early:=[],rcv:=ZA num (k+r.length:Nat) })
  | [],k,0,e,_,hn,_,_,_=>by simp at hn
  | [],k,n+1,e,_,_,h1,h2,_=>by
    unfold drawn
    have:atE e.early e.rcv=none:=by rw [h2]; rfl
    have he:e={ e with early:=[],rcv:=ZA num k }:=by
      obtain ⟨_⟩:=e
      simp only [Zet] at h1 h2
      subst h1 h2
      rfl
    split
    · simpa using he
    · rw [this]
      simpa using he
  | b::r,k,0,e,_,hn,_,_,_=>by simp at hn
  | b::r,k,n+1,e,hl,hn,h1,h2,h3=>by
    have hl':k+r.length+1<4294967296:=by simpa [Nat.add_assoc] using hl
    have hn':r.length<n:=by simpa using hn
    unfold drawn
    rw [if_neg (by rw [h1]; exact h3 k (Nat.le_refl _) (by simp))]
    have:atE e.early e.rcv=some b:=by rw [h2,h1,Zet,ZdR]; simp
    rw [this]
    simp only
    have g:=Zlw num r (k+1) n { e with early:=Zdk e.early e.rcv,rcv:=ZA e.rcv 1 } (by omega) hn' (by show ZA e.rcv 1=_; rw [h1,Za2]; simp) (by show Zdk e.early e.rcv=_; rw [h2,h1,Zet,ZnI _ _ _ _ (by omega)]) (fun i hi hj=>h3 i (by omega) (by simp; omega))
    rw [g]
    simp [Nat.add_assoc,Nat.add_comm 1]
theorem Zm0 {r:List Int} {k:Int} (h:(r.length:Int)≤k):Za9 r none (some k)=r:=by
  rw [Zd7 r (by omega)]
  exact List.take_of_length_le (by omega)
theorem ZgG {e:Zs} {s:Seg} (hd:s.data.length≤16) (hn:s.num=e.rcv) (hr:0≤e.rcv∧e.rcv≤4294967295) (he:e.early=[]) (hf:e.early_fin=none) (hw:e.come.length+s.data.length+(if bears s 1=true then 1 else 0)≤64) :
    ZbQ e s={ e with come:=e.come++s.data,rcv:=ZA e.rcv s.data.length,owes_answer:=e.owes_answer || decide (0<s.data.length) || bears s 1,early_fin:=if bears s 1=true then some (ZA e.rcv s.data.length) else none }:=by
  have w:∀i:Nat,i<s.data.length∨(i=s.data.length∧bears s 1=true)→inWin e (ZA e.rcv i)=true:=by
    intro i hi
    unfold inWin ZL
    rw [Zp1 (by omega)]
    have:(i:Int)<64-e.come.length:=by
      rcases hi with hi | ⟨rfl,hi⟩
      · omega
      · rw [if_pos hi] at hw; omega
    simp; omega
  have k1:Za5 e s.num 0 s.data={ e with early:=Zet e.rcv 0 s.data }:=by
    rw [hn,ZhL e.rcv s.data 0 e (by omega) (fun i _ hi=>⟨w i (.inl (by omega)),by rw [he]; rfl⟩),he]
    rfl
  have k2:ZaJ e s={ e with early:=Zet e.rcv 0 s.data,owes_answer:=e.owes_answer || decide (0<s.data.length) }:=by
    unfold ZaJ
    rw [k1]
    by_cases c:0<s.data.length
    · rw [if_pos c]; simp [c]
    · rw [if_neg c]; simp [c]
  obtain ⟨oa,hoa⟩:∃x,x=(e.owes_answer || decide (0<s.data.length)):=⟨_,rfl⟩
  rw [←hoa] at k2 ⊢
  have k3:ZbW (ZaJ e s) s={ e with early:=Zet e.rcv 0 s.data,owes_answer:=oa || bears s 1,early_fin:=if bears s 1=true then some (ZA e.rcv s.data.length) else none }:=by
    rw [k2]
    unfold ZbW
    by_cases c:bears s 1=true
    · have iw:inWin ({ e with early:=Zet e.rcv 0 s.data,owes_answer:=oa }) (ZA s.num s.data.length)=true:=by
        rw [hn]; exact w _ (.inr ⟨rfl,c⟩)
      rw [if_neg (by simp [c]),if_pos ⟨hf,iw⟩,hn]
      simp [c]
    · rw [if_pos (by simpa using c)]
      simp [c,hf]
  unfold ZbQ ZfW
  rw [k3]
  obtain ⟨bf,hbf⟩:∃x,x=bears s 1:=⟨_,rfl⟩
  rw [←hbf]
  rw [Zlw e.rcv s.data 0 200 _ (by omega) (by omega) (by simpa using (Znp hr).symm) rfl (by
    intro i _ hi
    simp only
    cases bf
    · simp
    · simp only [if_true,Option.some.injEq]
      rw [ZfC (by omega)]
      omega)]
  unfold Zhh
  simp only
  rw [Zm0 (by unfold ZL; simp only; split at hw<;>omega)]
  simp [he]
end
end My
set_option Elab.async false
set_option linter.all false
set_option maxRecDepth 100000
set_option maxHeartbeats 4000000
namespace My
open PySem L2 L2.MM
noncomputable section
@[simp] theorem ZAk {f:Int} (h0:0≤f) (h1:f≤31):bit f 1=f % 2:=(ZqU ⟨h0,h1⟩).1
@[simp] theorem Zv5 {f:Int} (h0:0≤f) (h1:f≤31):bit f 2=f/2 % 2:=(ZqU ⟨h0,h1⟩).2.1
@[simp] theorem ZAj {f:Int} (h0:0≤f) (h1:f≤31):bit f 4=f/4 % 2:=(ZqU ⟨h0,h1⟩).2.2.1
@[simp] theorem ZzE {f:Int} (h0:0≤f) (h1:f≤31):bit f 16=f/16 % 2:=(ZqU ⟨h0,h1⟩).2.2.2.2
@[simp] theorem Zv6 {a b c d f w m k:Int} {x:List Int}:bears ⟨a,b,c,d,f,w,m,x⟩ k=decide (bit f k=1):=rfl
@[simp] theorem Zwt {a b c d f w m:Int} {x:List Int}:ZnA ⟨a,b,c,d,f,w,m,x⟩=x.length+bit f 2+bit f 1:=rfl
def Zpw:Option Seg→List Int
  | none=>[]
  | some s=>putL s
@[simp] theorem ZtA:Zpw none=[]:=rfl
@[simp] theorem Ztz (s:Seg):Zpw (some s)=putL s:=rfl
theorem Zmv {base:Sto} {l:Nat} {e:Zs} {t:Int} {r:Option Seg} {e':Zs} (hl:l+3<base.length) (g:zR e t=(r,e')) (hp:∀s,r=some s→s.Put):Zcz [.ref l,.int t] (upE base l e)=.ok (il (Zpw r)) (upE base l e'):=by
  rw [Ztb hl (by rw [g]; exact hp),g]
  unfold Zi6
  rw [g]
  cases r<;>rfl
theorem Znm {base:Sto} {l:Nat} {e:Zs} {t:Int} {e':Zs} (hl:l+3<base.length) (g:zR e t=(none,e')):Zcz [.ref l,.int t] (upE base l e)=.ok (il []) (upE base l e'):=Zmv hl g (fun s h=>by cases h)
theorem Zis {base:Sto} {l:Nat} {e:Zs} {t:Int} {e':Zs} {s:Seg} (hl:l+3<base.length) (g:zR e t=(some s,e')) (hp:s.Ok):Zcz [.ref l,.int t] (upE base l e)=.ok (il (putL s)) (upE base l e'):=Zmv hl g (fun s h=>by cases h; exact hp.put)
theorem ZtD (s:Seg):putL s≠[]:=fun z=>by
  have:=Zmy (s:=s)
  rw [z] at this
  simp at this
  split at this<;>omega
def synE (a b f g W m:Int):Zs:={ newEnd a b f false with state:=.synCome,rcv:=ZA g 1,wnd:=W,told:=g,told_by:=0,most:=if m=0 then 12 else m }
def Zde (a b f g W m t:Int):Zs:={ synE a b f g W m with nxt:=ZA f 1,since:=t }
def Zdg (a b f g W m t:Int):Zs:={ newEnd a b f false with state:=.opn,una:=ZA f 1,nxt:=ZA f 1,rcv:=ZA g 1,wnd:=W,told:=ZA g 1,told_by:=ZA f 1,most:=if m=0 then 12 else m,since:=t }
section
variable {a b f g W m t t' x:Int} {ex:List Int} {fl:Int}
theorem ZvB (hf:fl=2∨fl=3):Zdl (newEnd a x f false) ⟨b,a,g,0,fl,W,m,ex⟩ t=synE a b f g W m:=by
  rcases hf with rfl | rfl<;>simp [Zdl,newEnd,Zbh,hearSyn,synE]
theorem ZvA:zR (synE a b f g W m) t=(some ⟨a,b,f,ZA g 1,18,64,16,[]⟩,Zde a b f g W m t):=by
  simp [zR,ZbX,zp,Zfn,newEnd,ZfF,zb,synE,Zde]
theorem Zvz:Zdl (Zde a b f g W m t) ⟨b,a,ZA g 1,ZA f 1,16,W,0,[]⟩ t'=Zdg a b f g W m t:=by
  have h2:¬ZA f 1=f:=ZrF (by omega)
  have ft:Zff (Zde a b f g W m t) ⟨b,a,ZA g 1,ZA f 1,16,W,0,[]⟩=true:=by
    simp [Zff,Zde,synE,newEnd]
  have go:ZaE (Zde a b f g W m t) ⟨b,a,ZA g 1,ZA f 1,16,W,0,[]⟩ t'=(true,Zdg a b f g W m t):=by
    simp [ZaE,ZaA,Zde,synE,newEnd,h2,Zdd,Zdg]
  have st:ZbQ (Zdg a b f g W m t) ⟨b,a,ZA g 1,ZA f 1,16,W,0,[]⟩=Zdg a b f g W m t:=by
    rw [ZgG (by simp) rfl (ZaU _ _) rfl rfl (by simp [Zdg,newEnd])]
    simp [Zdg,newEnd,Za2]
  have hs:Zbf (Zdg a b f g W m t) ⟨b,a,ZA g 1,ZA f 1,16,W,0,[]⟩ t'=Zdg a b f g W m t:=by
    unfold Zbf
    rw [st]
    simp [Zdg,newEnd]
  have:Zdl (Zde a b f g W m t) ⟨b,a,ZA g 1,ZA f 1,16,W,0,[]⟩ t'=ZaS (Zde a b f g W m t) ⟨b,a,ZA g 1,ZA f 1,16,W,0,[]⟩ t':=rfl
  rw [this]
  unfold ZaS
  rw [ft,go,hs]
  simp
end
section
variable {θ:Sto} {l:Nat} {e:Zs} {s:Seg} {now n:Int}
theorem ZlA (θ:Sto) (e e':Zs):upE (θ++cells θ.length e) θ.length e'=θ++cells θ.length e':=by
  have h0:∀(i:Nat) (c:Cell) (r:Sto),(θ++r).set (θ.length+i) c=θ++r.set i c:=by
    intro i c r
    rw [List.set_append_right _ _ (by omega)]
    congr 2
    omega
  have h1:∀(c:Cell) (r:Sto),(θ++r).set θ.length c=θ++r.set 0 c:=fun c r=>h0 0 c r
  unfold upE cells
  rw [h1,h0,h0,h0]
  rfl
theorem Zht {a b n k f w:Int} {x:List Int} (θ:Sto):ZcR [.tup [.int a,.int b],.int n,.int k,.int f,.int w,il x] θ=.ok (Seg.mk b a n k f w 0 x).d θ:=by
  simp [ZcR,Zg0,ZsI]
theorem ZeB {a b n k f w m:Int} {x:List Int} (ha:0≤a∧a≤65535) (hb:0≤b∧b≤65535) (hn:0≤n∧n≤4294967295) (hk:0≤k∧k≤4294967295) (hf:0≤f∧f≤31) (hw:0≤w∧w≤65535) (hm:m=0∨(4≤m∧m≤65535∧f/2 % 2=1)) (hx:(∀z∈x,0≤z∧z≤255)∧x.length≤16):(Seg.mk a b n k f w m x).Ok:=⟨ha,hb,hn,hk,hf,hw,hm,hx⟩
theorem Zdh:(∀z∈([]:List Int),0≤z∧z≤255)∧([]:List Int).length≤16:=⟨by simp,by simp⟩
theorem Zlt {n:Int} (h:0≤n∧n≤4294967295):0≤Zbm n∧Zbm n≤4294967295:=by
  unfold Zbm
  split<;>omega
theorem Znf {ns:List Int} {base W m:Int} (θ:Sto) (hW:0≤W∧W≤65535) (hm:m=0∨(4≤m∧m≤65535)) :
    Zc2 [.scr ns,.int base,.int W,.int m] θ=.ok (.tup [.ref θ.length,.tup [.int (mix ns base % 65536),.int (mix ns (base+1) % 65536)],.int (ZA (Zbm (mix ns (base+2))) 1),.int (ZA (Zbm (mix ns (base+3))) 1)])
      (θ++cells θ.length (Zdg (mix ns base % 65536) (mix ns (base+1) % 65536) (Zbm (mix ns (base+2))) (Zbm (mix ns (base+3))) W m 0)):=by
  obtain ⟨a,ha⟩:∃x,x=mix ns base % 65536:=⟨_,rfl⟩
  obtain ⟨b,hb⟩:∃x,x=mix ns (base+1) % 65536:=⟨_,rfl⟩
  obtain ⟨f,hf⟩:∃x,x=Zbm (mix ns (base+2)):=⟨_,rfl⟩
  obtain ⟨g,hg⟩:∃x,x=Zbm (mix ns (base+3)):=⟨_,rfl⟩
  have ra:0≤a∧a≤65535:=by omega
  have rb:0≤b∧b≤65535:=by omega
  have rf:0≤f∧f≤4294967295:=by rw [hf]; exact Zlt (by have:=ZlY ns (base+2); omega)
  have rg:0≤g∧g≤4294967295:=by rw [hg]; exact Zlt (by have:=ZlY ns (base+3); omega)
  rw [←ha,←hb,←hf,←hg]
  have k1:(Seg.mk b a g 0 2 W m []).Ok:=ZeB rb ra rg (by omega) (by omega) hW (hm.imp id fun h=>⟨h.1,h.2,by decide⟩) Zdh
  have k2:(Seg.mk a b f (ZA g 1) 18 64 16 []).Ok:=ZeB ra rb rf (ZaU _ _) (by omega) (by omega) (.inr (by decide)) Zdh
  have k3:(Seg.mk b a (ZA g 1) (ZA f 1) 16 W 0 []).Ok:=ZeB rb ra (ZaU _ _) (ZaU _ _) (by omega) hW (.inl rfl) Zdh
  have hl:θ.length+3<(θ++cells θ.length (newEnd a 7 f false)).length:=by simp [cells]
  have q1:=Zpo (a:=a) (b:=7) (c:=f) (act:=false) θ
  have q2:=ZcK (e:=newEnd a 7 f false) (now:=0) hl (by simp [newEnd]) k1 (by simp [ZeF,newEnd]) (by simp [newEnd])
  have q3:=Zis hl (ZvA (a:=a) (b:=b) (f:=f) (g:=g) (W:=W) (m:=m) (t:=0)) k2
  have q4:=ZcK (e:=Zde a b f g W m 0) (now:=0) hl (by simp [Zde,synE,newEnd]) k3 (by simp [ZeF,newEnd,Zde,synE]) (by simp [newEnd,Zde,synE])
  rw [ZvB (.inl rfl)] at q2
  rw [Zvz] at q4
  rw [ZlA,ZlA] at q2 q3 q4
  have b1:=fun θ=>Zfx k1 θ
  have b3:=fun θ=>Zfx k3 θ
  obtain ⟨e1,he1⟩:∃x,x=newEnd a 7 f false:=⟨_,rfl⟩
  obtain ⟨e2,he2⟩:∃x,x=synE a b f g W m:=⟨_,rfl⟩
  obtain ⟨e3,he3⟩:∃x,x=Zde a b f g W m 0:=⟨_,rfl⟩
  obtain ⟨e4,he4⟩:∃x,x=Zdg a b f g W m 0:=⟨_,rfl⟩
  rw [←he1] at q1 q2
  rw [←he2] at q2 q3
  rw [←he3] at q3 q4
  rw [←he4] at q4 ⊢
  simp [Zc2,Zh7,←ha,←hb,←hf,←hg,Zfm,b1,b3,q1,q2,q3,q4]
end
end
end My
set_option Elab.async false
set_option linter.all false
set_option maxRecDepth 100000
set_option maxHeartbeats 4000000
namespace My
open PySem L2 L2.MM
noncomputable section
theorem ZrS (x y z:Int) (θ:Sto):Zcg (.int x) (.tup [.int y,.int z]) θ=.ok (.bl (!decide (x=y∨x=z))) θ:=by
  have e:inD θ (.int x) (.tup [.int y,.int z])=some (decide (y=x) || (decide (z=x) || false)):=rfl
  have e2:(decide (y=x) || (decide (z=x) || false))=decide (x=y∨x=z):=by
    rw [Bool.eq_iff_iff]
    simp only [Bool.or_eq_true,decide_eq_true_eq,Bool.false_eq_true,or_false]
    constructor
    · rintro (h | h)
      · exact .inl h.symm
      · exact .inr h.symm
    · rintro (h | h)
      · exact .inl h.symm
      · exact .inr h.symm
  unfold Zcg
  rw [e,e2]
theorem Zrh {z:Int} (h:0≤z∧z≤255) (θ:Sto):Zgp [.int z] θ=.ok (.bl true) θ:=by
  have h1:ZgO [.int z,.ty "int"] θ=.ok (.bl true) θ:=rfl
  have h2:ZgO [.int z,.ty "bool"] θ=.ok (.bl false) θ:=rfl
  simp [Zgp,ZlI,h1,h2,h.1,h.2]
theorem Zsj {α:Type} (xs:List α):Zjp (xs.map fun _=>D.bl true)=some (List.replicate xs.length true):=by
  induction xs with
  | nil=>rfl
  | cons x xs ih=>rw [List.map_cons,Zjp,ih]; rfl
theorem ZqX (n:Nat):(List.replicate n true).all id=true:=by
  induction n with
  | zero=>rfl
  | succ n ih=>rw [List.replicate_succ,List.all_cons,ih]; rfl
theorem Zrg {a:List Int} (h:Byt a) (hr:Zaq a=true) (θ:Sto):Zgn [il a] θ=.ok (Zbq a).d θ:=by
  obtain ⟨l1,l2,l3,l4⟩:=ZgN hr
  have hr':=hr
  unfold Zaq at hr'
  simp only [Bool.and_eq_true,decide_eq_true_eq,Bool.or_eq_true] at hr'
  obtain ⟨r1,r2,r3,r4,r5,r6,r7⟩:=hr'
  have gg:∀i:Nat,i<a.length→0≤gt a i∧gt a i≤255:=fun i hi=>by
    unfold gt
    have:=h.1 a[i] (List.getElem_mem hi)
    rw [List.getD_eq_getElem?_getD,List.getElem?_eq_getElem hi]
    exact this
  have b13:=gg 13 (by omega)
  have b18:=gg 18 (by omega)
  have b19:=gg 19 (by omega)
  have ix:∀i:Nat,i<a.length→ixM (il a) (.int (i:Int)) θ=.ok (.int (gt a i)) θ:=fun i hi=>Zci (a:=a) (θ:=θ) (i:=(i:Int)) (by omega) (by omega)
  have i12:ixM (il a) (.int 12) θ=.ok (.int (gt a 12)) θ:=ix 12 (by omega)
  have i13:ixM (il a) (.int 13) θ=.ok (.int (gt a 13)) θ:=ix 13 (by omega)
  have i18:ixM (il a) (.int 18) θ=.ok (.int (gt a 18)) θ:=ix 18 (by omega)
  have i19:ixM (il a) (.int 19) θ=.ok (.int (gt a 19)) θ:=ix 19 (by omega)
  have z5:gt a 18+gt a 19=0:=by unfold at2 at r5; simp only [Nat.reduceAdd] at r5; omega
  have len20:¬(a.length:Int)<20:=by omega
  have R1:∀r,b_l_read_1 (.val (il a)::r) θ=.ok (.nx,.val (il a)::r) θ:=by
    intro r
    simp [b_l_read_1,isT,len20]
  have R2:∀r,b_l_read_2 (.val (il a)::r) θ=.ok (.nx,.val (il a)::r) θ:=by
    intro r
    have cp:=Zny (ρ:=.val (il a)::r) (θ:=θ) (fi:=mIn (Zd 0)) (src:=[]) (elt:=mCB Zgp (Zc (Zd 0) Zk)) (d:=il a) (xs:=a.map D.int) (θ':=θ) (fun _=>.bl true) (by simp) rfl (by have:=h.2; simp [BIG]; omega) (by
      intro x hx
      obtain ⟨z,hz,rfl⟩:=List.mem_map.mp hx
      simp [Zrh (h.1 z hz)])
    have al:ZqY [D.lst ((a.map D.int).map fun _=>D.bl true)] θ=.ok (.bl true) θ:=by
      rw [ZuX,Zsj]
      simp only [ZqX]
    obtain ⟨q,hq⟩:∃x,x=D.lst ((a.map D.int).map fun _=>D.bl true):=⟨_,rfl⟩
    rw [←hq] at cp al
    simp [b_l_read_2,cp,al]
  have hb:Zbg a=gt a 12/4:=by unfold Zbg; rcases r2 with e | e<;>rw [e]<;>rfl
  have q4:gt a 12/4≤a.length∧(a.length:Int)≤gt a 12/4+16:=by rw [←hb]; omega
  have R3:∀r,b_l_read_3 (.val (il a)::r) θ=.ok (.nx,.val (il a)::r) θ:=by
    intro r
    simp [b_l_read_3,i12,i13,i18,i19,ZrS,r2,z5,show ¬(31:Int)<gt a 13 by omega]
  have fo:=Zim h θ
  rw [r7] at fo
  have R4:∀r,b_l_read_4 (.val (il a)::.val (.int (gt a 12/4))::r) θ=.ok (.nx,.val (il a)::.val (.int (gt a 12/4))::r) θ:=by
    intro r
    simp [b_l_read_4,fo,q4.1,q4.2]
  obtain ⟨hd,hhd⟩:∃x,x=gt a 12/4:=⟨_,rfl⟩
  rw [←hhd] at R4 hb q4
  have R6:∀x y,b_l_read_6 [.val (il a),.val (.int hd),.val (.int 0),x,y] θ=.ok (.nx,[.val (il a),.val (.int hd),.val (.int (if Zbg a=24 then at2 a 22 else 0)),x,y]) θ:=by
    intro x y
    by_cases c:hd=24
    · have lo:=(l2.resolve_left (by rw [hb,c]; decide)).2
      have i20:gt a 20=2∧gt a 21=4∧gt a 13/2 % 2=1∧4≤at2 a 22:=by
        have:=lo.2
        unfold longOk at this
        simp only [Bool.and_eq_true,decide_eq_true_eq] at this
        obtain ⟨t1,t2,t3,t4⟩:=this
        rw [Zv5 (by omega) (by omega)] at t1
        exact ⟨t2,t3,t1,t4⟩
      obtain ⟨e20,e21,e13,e22⟩:=i20
      have i22:ixM (il a) (.int 22) θ=.ok (.int (gt a 22)) θ:=ix 22 (by omega)
      have i23:ixM (il a) (.int 23) θ=.ok (.int (gt a 23)) θ:=ix 23 (by omega)
      have cu:Za9 a (some 20) (some 22)=[2,4]:=by
        have:Za9 a (some 20) (some 22)=[gt a 20,gt a 21]:=by
          rw [ZmY _ (by decide) (by decide),show (20:Int).toNat=20 from rfl,show (22:Int).toNat-20=2 from rfl,List.drop_eq_getElem_cons (show 20<a.length by omega),List.drop_eq_getElem_cons (show 21<a.length by omega)]
          rw [List.take_succ_cons,List.take_succ_cons,List.take_zero]
          unfold gt
          rw [List.getD_eq_getElem?_getD,List.getD_eq_getElem?_getD,List.getElem?_eq_getElem (show 20<a.length by omega),List.getElem?_eq_getElem (show 21<a.length by omega)]
          rfl
        rw [this,e20,e21]
      have m22:gt a 22*256+gt a 23=at2 a 22:=by unfold at2; simp only [Nat.reduceAdd]; omega
      have mb:Zeq (gt a 22) 256:=.inr (by omega)
      rw [hb,if_pos c]
      simp [b_l_read_6,Zh6,c,i22,i23,i13,e13,cu,m22,mb,show ¬at2 a 22<4 by omega]
    · rw [hb,if_neg c]
      simp [b_l_read_6,c]
  have cp:=fun y z=>ZiG (ρ:=[.val (il a),.val (.int hd),.val (.int (if Zbg a=24 then at2 a 22 else 0)),y,z]) (θ:=θ) (fi:=ZdG (Zc (mC (.int 8)) Zk)) (src:=[0])
    (elt:=mOp ZX (mOp ZbT (mC (.int 256)) (mOp ixM (Zd 1) (mOp ZbT (mC (.int 2)) (Zd 0)))) (mOp ixM (Zd 1) (mOp ZX (mOp ZbT (mC (.int 2)) (Zd 0)) (mC (.int 1))))) (lo:=0) (n:=8) (θ':=θ) (fun k=>.int (256*gt a (2*k).toNat+gt a (2*k+1).toNat))
    (by simp) (by simp [BIG]) (by
      intro i hi
      have j1:=Zci (a:=a) (θ:=θ) (i:=2*(i:Int)) (by omega) (by omega)
      have j2:=Zci (a:=a) (θ:=θ) (i:=2*(i:Int)+1) (by omega) (by omega)
      simp [Zeq,j1,j2])
  have wl:(List.range 8).map (fun (i:Nat)=>D.int (256*gt a (2*((0:Int)+(i:Int))).toNat+gt a (2*((0:Int)+(i:Int))+1).toNat))=[.int (at2 a 0),.int (at2 a 2),.int (at2 a 4),.int (at2 a 6),.int (at2 a 8),.int (at2 a 10),.int (at2 a 12),.int (at2 a 14)]:=rfl
  have dr:Za9 a (some hd) none=a.drop hd.toNat:=ZbY a (by omega)
  have c4:at2 a 4*65536+at2 a 6=at4 a 4:=by unfold at4; simp only [Nat.reduceAdd]; omega
  have c8:at2 a 8*65536+at2 a 10=at4 a 8:=by unfold at4; simp only [Nat.reduceAdd]; omega
  obtain ⟨most,hmo⟩:∃x,x=if Zbg a=24 then at2 a 22 else 0:=⟨_,rfl⟩
  rw [←hmo] at R6 cp
  unfold Zbq
  rw [←hmo,hb]
  obtain ⟨W,hW⟩:∃x,x=(List.range 8).map (fun (i:Nat)=>D.int (256*gt a (2*((0:Int)+(i:Int))).toNat+gt a (2*((0:Int)+(i:Int))+1).toNat)):=⟨_,rfl⟩
  rw [←hW] at wl
  simp only [←hW] at cp
  have w0:ixM (.lst W) (.int 0) θ=.ok (.int (at2 a 0)) θ:=by rw [wl]; rfl
  have w1:ixM (.lst W) (.int 1) θ=.ok (.int (at2 a 2)) θ:=by rw [wl]; rfl
  have w2:ixM (.lst W) (.int 2) θ=.ok (.int (at2 a 4)) θ:=by rw [wl]; rfl
  have w3:ixM (.lst W) (.int 3) θ=.ok (.int (at2 a 6)) θ:=by rw [wl]; rfl
  have w4:ixM (.lst W) (.int 4) θ=.ok (.int (at2 a 8)) θ:=by rw [wl]; rfl
  have w5:ixM (.lst W) (.int 5) θ=.ok (.int (at2 a 10)) θ:=by rw [wl]; rfl
  have w7:ixM (.lst W) (.int 7) θ=.ok (.int (at2 a 14)) θ:=by rw [wl]; rfl
  obtain ⟨wd,hwd⟩:∃x,x=D.lst W:=⟨_,rfl⟩
  rw [←hwd] at w0 w1 w2 w3 w4 w5 w7
  simp only [←hwd] at cp
  have mb:∀x:Int,Zeq x 65536:=fun x=>.inr (by omega)
  simp [Zgn,ZlG,R1,R2,i12,R3,←hhd,R4,R6,cp,w0,w1,w2,w3,w4,w5,w7,mb,i13,dr,c4,c8,Seg.d]
end
end My
set_option Elab.async false
set_option linter.all false
set_option maxRecDepth 100000
set_option maxHeartbeats 4000000
namespace My
open PySem L2 L2.MM
noncomputable section
inductive Zi1 (t:Int):Zs→List Seg→Zs→Prop
  | nil {e e':Zs} (h:zR e t=(none,e')):Zi1 t e [] e'
  | cons {e e1 e':Zs} {s:Seg} {r:List Seg} (h:zR e t=(some s,e1)) (hs:s.Ok) (hr:Zi1 t e1 r e'):Zi1 t e (s::r) e'
section
variable {θ:Sto} {l:Nat} {t:Int}
abbrev Zue:SM:=Zp (ZS 4 (mCB Zcz (Zc (Zd 0) (Zc (Zd 1) Zk)))) (Zp Zdr (Zd5 2 (mCB Zgn (Zc (Zd 4) Zk))))
theorem Zto (h:l+3 < θ.length) {e e':Zs} (g:zR e t=(none,e')) (acc:List D) (x y:Sl):Zue [.val (.ref l),.val (.int t),.own acc,x,y] (upE θ l e)=.ok (.rt (.lst acc),[.val (.ref l),.val (.int t),.val (.lst acc),x,.val (il [])]) (upE θ l e'):=by
  simp [Znm h g,Zdr,ZcC]
theorem Ztn (h:l+3 < θ.length) {e e':Zs} {s:Seg} (g:zR e t=(some s,e')) (hs:s.Ok) (acc:List D) (ha:acc.length<BIG) (x y:Sl):Zue [.val (.ref l),.val (.int t),.own acc,x,y] (upE θ l e)=.ok (.nx,[.val (.ref l),.val (.int t),.own (acc++[s.d]),x,.val (il (putL s))]) (upE θ l e'):=by
  have lr:=Zrg (Zmz hs.put) (Ziu hs) (upE θ l e')
  rw [ZmW hs] at lr
  simp [Zis h g hs,Zdr,ZcC,ZtD,lr,ha]
theorem Ztm (h:l+3 < θ.length) {e e':Zs} {segs:List Seg} (g:Zi1 t e segs e'):∀(xs:List D) (acc:List D) (x y:Sl),segs.length<xs.length→acc.length+segs.length<1000→
    ∃ρ,ZdI (.rng 0 40) ((List.range 40).map fun (i:Nat)=>D.int (0+(i:Int))) (gNm 3) Zue xs [.val (.ref l),.val (.int t),.own acc,x,y] (upE θ l e)=.ok (.rt (.lst (acc++segs.map Seg.d)),ρ) (upE θ l e'):=by
  induction g with
  | nil g=>
    intro xs acc x y hx ha
    match xs,hx with
    | d::xs,_=>
      refine ⟨[.val (.ref l),.val (.int t),.val (.lst acc),.val d,.val (il [])],?_⟩
      simp only [ZdI,Ze2,if_true]
      have:gNm 3 d [.val (.ref l),.val (.int t),.own acc,x,y]=some [.val (.ref l),.val (.int t),.own acc,.val d,y]:=rfl
      rw [this]
      simp only
      rw [Zto h g]
      simp [Zfe,R.bind]
  | cons g hs _ ih=>
    intro xs acc x y hx ha
    match xs,hx with
    | d::xs,hx=>
      obtain ⟨ρ,q⟩:=ih xs (acc++[Seg.d _]) (.val d) (.val (il (putL _))) (by simpa using hx) (by simp at ha ⊢; omega)
      refine ⟨ρ,?_⟩
      simp only [ZdI,Ze2,if_true]
      have:gNm 3 d [.val (.ref l),.val (.int t),.own acc,x,y]=some [.val (.ref l),.val (.int t),.own acc,.val d,y]:=rfl
      rw [this]
      simp only
      rw [Ztn h g hs acc (by simp [BIG] at ha ⊢; omega)]
      simp only [R.bind,Zfe]
      rw [q]
      simp
theorem Zi3 (h:l+3 < θ.length) {e e':Zs} {segs:List Seg} (g:Zi1 t e segs e') (hl:segs.length<40):ZcM [.ref l,.int t] (upE θ l e)=.ok (.lst (segs.map Seg.d)) (upE θ l e'):=by
  obtain ⟨ρ,q⟩:=Ztm h g ((List.range 40).map fun (i:Nat)=>D.int (0+(i:Int))) [] .no .no (by simpa using hl) (by simp; omega)
  have q2:ZeX [.val (.ref l),.val (.int t),.own [],.no,.no] (upE θ l e)=.ok (.rt (.lst (segs.map Seg.d)),ρ) (upE θ l e'):=by
    rw [List.nil_append] at q
    rw [←q]
    simp [ZeX,Zgk]
  simp [ZcM,ZiZ,q2]
end
end
end My
set_option Elab.async false
set_option linter.all false
set_option maxRecDepth 100000
set_option maxHeartbeats 4000000
namespace My
open PySem L2 L2.MM
noncomputable section
theorem Zly {nE:EM} {src:List Nat} {elt:EM} {ρ:List Sl} {θ:Sto} {j:Int} (F:Nat→Int) (hn:nE ρ θ=.ok (.int j) θ) (h0:0≤j) (h1:j≤1000) (he:∀i:Nat,i<j.toNat→elt (ZeH src ρ (.int (i:Int))) θ=.ok (.int (F i)) θ) :
    Zdi (ZdG (Zc nE Zk)) src elt ρ θ=.ok (il ((List.range j.toNat).map F)) θ:=by
  have:=ZiG (ρ:=ρ) (θ:=θ) (fi:=ZdG (Zc nE Zk)) (src:=src) (elt:=elt) (lo:=0) (n:=j.toNat) (θ':=θ) (fun k=>.int (F k.toNat)) (by simp [hn]; omega) (by simp [BIG]; omega) (by
    intro i hi
    simpa using he i hi)
  rw [this]
  simp [il]
end
end My
set_option Elab.async false
set_option linter.all false
set_option maxRecDepth 100000
set_option maxHeartbeats 4000000
namespace My
open PySem L2 L2.MM
noncomputable section
structure Q where
  st:State
  una:Int
  nxt:Int
  beh:Int
  rcv:Int
  told:Int
  by_:Int
  wnd:Int
  most:Int
  written:List Int
  come:List Int
  fin:Option Int
  cl:Bool
  oa:Bool
  pr:Bool
  since:Int
  wait:Int
  tries:Int
def qE (a b f g:Int) (q:Q):Zs:=⟨a,b,q.st,.none,f,ZA f q.una,ZA f q.nxt,ZA g q.rcv,q.wnd,ZA g q.told,ZA f q.by_,q.most,q.written,q.come,[],q.fin.map (ZA g ·),q.cl,ZA f q.beh,none,false,q.oa,q.pr,q.since,q.wait,q.tries⟩
def q0 (W m:Int) (t:Int):Q:=⟨.opn,1,1,1,1,1,1,W,if m=0 then 12 else m,[],[],none,false,false,false,t,1000,0⟩
theorem Zzc {n j k:Int} (h1 : -2147483648≤j-k) (h2:j-k<2147483648):Z0 (ZA n j) (ZA n k)=j-k:=ZdE ⟨h1,h2⟩
theorem ZsO {n j k:Int} (h1 : -2147483648≤j-k) (h2:j-k<2147483648):Zbo (ZA n j) (ZA n k)=decide (0<j-k):=by
  unfold Zbo
  rw [Zzc h1 h2]
theorem ZrG (n:Nat) (xs:List Int):pls n (xs.map D.int)=true:=by
  induction xs with
  | nil=>simp [pls]
  | cons x r ih=>simp [pls,ih,pl]
theorem Zp9 (xs:List Int):Zep (xs.map D.int)=true:=by
  induction xs with
  | nil=>simp [Zep]
  | cons x r ih=>simp [Zep,ih,noB]
theorem ZtI (n:Nat) (s:Seg):pl (n+2) s.d=true:=by
  unfold Seg.d
  simp only [pl,pls,pl,Bool.true_and,Bool.and_true]
  unfold itp
  simp only [pl]
  exact ZrG _ _
theorem ZrT (s:Seg):noB s.d=true:=by
  unfold Seg.d
  simp only [noB,Zep,Bool.true_and,Bool.and_true]
  unfold itp
  simp only [noB]
  exact Zp9 _
theorem ZfD (n:Nat) (r:List Seg):pls (n+2) (r.map Seg.d)=true:=by
  induction r with
  | nil=>simp [pls]
  | cons s r ih=>simp [pls,ih,ZtI]
theorem Ze4 (r:List Seg):Zep (r.map Seg.d)=true:=by
  induction r with
  | nil=>simp [Zep]
  | cons s r ih=>simp [Zep,ih,ZrT]
theorem Zmw {s t:Seg} (h:s.d=t.d):s=t:=by
  obtain ⟨⟩:=s
  obtain ⟨⟩:=t
  unfold Seg.d itp at h
  simp only [D.tup.injEq,List.cons.injEq,D.int.injEq,and_true] at h
  obtain ⟨h1,h2,h3,h4,h5,h6,h7,h8⟩:=h
  have:∀xs ys:List Int,xs.map D.int=ys.map D.int→xs=ys:=by
    intro xs
    induction xs with
    | nil=>intro ys hy; cases ys with
      | nil=>rfl
      | cons _ _=>simp at hy
    | cons x xs ih=>intro ys hy; cases ys with
      | nil=>simp at hy
      | cons y ys=>
        simp only [List.map_cons,List.cons.injEq,D.int.injEq] at hy
        rw [hy.1,ih ys hy.2]
  have:=this _ _ h8
  subst h1 h2 h3 h4 h5 h6 h7 this
  rfl
open Classical in
theorem ZrU (x y:List Seg) (θ:Sto):neM (.lst (x.map Seg.d)) (.lst (y.map Seg.d)) θ=.ok (.bl (!decide (x=y))) θ:=by
  rw [Zgi (ZcD (by simpa [pl,look] using ZfD 6 x) (by simpa [pl,look] using ZfD 6 y) (by simpa [noB,look] using Ze4 x) (by simpa [noB,look] using Ze4 y))]
  congr 3
  simp only [look,D.lst.injEq]
  have:∀x y:List Seg,x.map Seg.d=y.map Seg.d↔x=y:=by
    intro x
    induction x with
    | nil=>intro y; cases y<;>simp
    | cons s x ih=>intro y; cases y with
      | nil=>simp
      | cons t y=>
        simp only [List.map_cons,List.cons.injEq,ih]
        exact ⟨fun h=>⟨Zmw h.1,h.2⟩,fun h=>⟨by rw [h.1],h.2⟩⟩
  exact decide_eq_decide.mpr (this x y)
open Classical in
theorem Zsb (x y:List Seg) (θ:Sto):eqM (.lst (x.map Seg.d)) (.lst (y.map Seg.d)) θ=.ok (.bl (decide (x=y))) θ:=by
  rw [Zgs (ZcD (by simpa [pl,look] using ZfD 6 x) (by simpa [pl,look] using ZfD 6 y) (by simpa [noB,look] using Ze4 x) (by simpa [noB,look] using Ze4 y))]
  congr 2
  simp only [look,D.lst.injEq]
  have:∀x y:List Seg,x.map Seg.d=y.map Seg.d↔x=y:=by
    intro x
    induction x with
    | nil=>intro y; cases y<;>simp
    | cons s x ih=>intro y; cases y with
      | nil=>simp
      | cons t y=>
        simp only [List.map_cons,List.cons.injEq,ih]
        exact ⟨fun h=>⟨Zmw h.1,h.2⟩,fun h=>⟨by rw [h.1],h.2⟩⟩
  exact decide_eq_decide.mpr (this x y)
end
end My
set_option Elab.async false
set_option linter.all false
set_option maxRecDepth 100000
set_option maxHeartbeats 4000000
namespace My
open PySem L2 L2.MM
noncomputable section
section
variable {e:Zs} {t:Int}
theorem ZiL (h1:e.owed_reset=none) (h2:e.state=.closed):zR e t=(none,e):=by
  simp [zR,h1,h2]
theorem Zlp {s:Seg} (h1:e.owed_reset=some s):zR e t=(some s,{ e with owed_reset:=none }):=by
  simp [zR,h1]
structure Calm (e:Zs) (t:Int):Prop where
  rst:e.owed_reset=none
  st:e.state∉[State.closed,.listen,.synSent,.synCome]
  tw:e.state=.timeWait→t-e.since<120000
  due:¬e.nxt=e.una→t-e.since<e.wait
theorem Calm.go (c:Calm e t):zR e t=ZbX e t:=by
  have hs:=c.st
  simp only [List.mem_cons,List.not_mem_nil,or_false,not_or] at hs
  have h1:¬(e.state=.timeWait∧120000≤t-e.since):=fun h=>by have:=c.tw h.1; omega
  have h2:¬(e.state=.closed∨e.state=.listen):=fun h=>h.elim hs.1 hs.2.1
  have h3:¬(¬e.nxt=e.una∧ZdH e t=true):=fun h=>by
    have:=c.due h.1
    have h2:=h.2
    unfold ZdH at h2
    simp at h2
    omega
  unfold zR
  rw [c.rst]
  simp only [if_neg h1]
  rw [if_neg h2,if_neg h3]
theorem Calm.notSyn (c:Calm e t):¬(e.state=.synSent∨e.state=.synCome):=by
  have hs:=c.st
  simp only [List.mem_cons,List.not_mem_nil,or_false,not_or] at hs
  exact fun h=>h.elim hs.2.2.1 hs.2.2.2
theorem Calm.quiet (c:Calm e t) (hm:ZaW e=false∨(¬e.nxt=e.una∧e.wnd-Z0 e.nxt e.una≤0)) (hp:e.probes=false):zR e t=z8 e:=by
  have a1:zp e t=(none,e):=by
    unfold zp
    rw [if_neg c.notSyn,if_pos (hm.elim .inr fun h=>.inl h.2)]
  have a2:zk e t=(none,e):=by
    unfold zk
    rw [if_pos (hm.elim (fun h=>.inr (.inr h)) fun h=>.inl h.1)]
    obtain ⟨⟩:=e
    simp only at hp
    subst hp
    rfl
  rw [c.go]
  unfold ZbX
  rw [a1]
  simp only [a2]
theorem Zlq (c:Calm e t) (hm:ZaW e=false∨(¬e.nxt=e.una∧e.wnd-Z0 e.nxt e.una≤0)) (hp:e.probes=false) (ho:e.owes_answer=false):zR e t=(none,e):=by
  rw [c.quiet hm hp]
  simp [z8,ho]
theorem ZiM (c:Calm e t) (hm:ZaW e=false∨(¬e.nxt=e.una∧e.wnd-Z0 e.nxt e.una≤0)) (hp:e.probes=false) (ho:e.owes_answer=true):zR e t=(some (ZcW e e.nxt 0 []),{ e with owes_answer:=false }):=by
  rw [c.quiet hm hp]
  simp [z8,ho]
theorem Zqw (c:Calm e t) (hw:0<e.wnd-Z0 e.nxt e.una) (hm:ZaW e=true):zR e t=(some (zY { (if e.nxt=e.una then zb e t else e) with owes_answer:=false } (e.wnd-Z0 e.nxt e.una)).1,(zY { (if e.nxt=e.una then zb e t else e) with owes_answer:=false } (e.wnd-Z0 e.nxt e.una)).2):=by
  have a1:zp e t=(some (zY { (if e.nxt=e.una then zb e t else e) with owes_answer:=false } (e.wnd-Z0 e.nxt e.una)).1,(zY { (if e.nxt=e.una then zb e t else e) with owes_answer:=false } (e.wnd-Z0 e.nxt e.una)).2):=by
    unfold zp
    rw [if_neg c.notSyn,if_neg (by rw [hm]; simp; omega)]
  rw [c.go]
  unfold ZbX
  rw [a1]
end
section
variable {e:Zs} {s:Seg} {t:Int}
theorem Zsh (hs:e.state∉[State.closed,.listen,.synSent]) (hf:Zff e s=true) (h4:bears s 4=false) (h2:bears s 2=false) (h16:bears s 16=true):Zdl e s t=if (ZaE e s t).1=true then Zbf (ZaE e s t).2 s t else (ZaE e s t).2:=by
  have:Zdl e s t=ZaS e s t:=by
    unfold Zdl
    simp only [List.mem_cons,List.not_mem_nil,or_false,not_or] at hs
    split
    · rename_i h; exact absurd h hs.1
    · rename_i h; exact absurd h hs.2.1
    · rename_i h; exact absurd h hs.2.2
    · rfl
  rw [this]
  unfold ZaS
  rw [hf,h4,h2,h16]
  simp
end
end
end My
set_option Elab.async false
set_option linter.all false
set_option maxRecDepth 100000
set_option maxHeartbeats 4000000
namespace My
open PySem L2 L2.MM
noncomputable section
section
variable {a b f g W m t:Int}
def qO (W m:Int) (t:Int):Q:=⟨.opn,1,1,1,1,1,1,W,m,[],[],none,false,false,false,t,1000,0⟩
def Zwa (a b f g:Int) (n r:Int) (fl:Int):Seg:=⟨a,b,ZA f n,ZA g r,fl,64,0,[]⟩
structure Still (q:Q) (t:Int):Prop where
  st:q.st∉[State.closed,.listen,.synSent,.synCome]
  tw:q.st=.timeWait→t-q.since<120000
  due:¬q.nxt=q.una→t-q.since<q.wait
  pr:q.pr=false
  un:q.beh≤q.nxt∧q.nxt-q.beh<1000∧0≤q.una∧q.una≤q.nxt∧q.nxt<1000
  fin:q.beh=q.nxt→q.st∉[State.waitOne,.closing,.lastAck]
theorem Still.calm {q:Q} (h:Still q t):Calm (qE a b f g q) t:=⟨rfl,h.st,h.tw,fun z=>h.due fun y=>z (by show ZA f q.nxt=ZA f q.una; rw [y])⟩
theorem Still.more {q:Q} (h:Still q t):ZaW (qE a b f g q)=false:=by
  have hu:=h.un
  have u:Zb9 (qE a b f g q)=q.beh-q.nxt:=ZdE (by omega)
  have d:Zah (qE a b f g q)=false:=by
    unfold Zah
    rw [u]
    simp; intro _; omega
  have n:hasNewFin (qE a b f g q)=false:=by
    unfold hasNewFin
    rw [u]
    by_cases c:q.beh=q.nxt
    · have:=h.fin c
      simp only [Bool.and_eq_false_iff,decide_eq_false_iff_not]
      exact .inl this
    · simp only [Bool.and_eq_false_iff,decide_eq_false_iff_not]
      right; omega
  unfold ZaW
  rw [d,n]; rfl
theorem Still.no {q:Q} (h:Still q t) (ho:q.oa=false):zR (qE a b f g q) t=(none,qE a b f g q):=Zlq h.calm (.inl h.more) h.pr ho
theorem Still.ack {q:Q} (h:Still q t) (ho:q.oa=true) (hc:q.come=[]):zR (qE a b f g q) t=(some (Zwa a b f g q.nxt q.rcv 16),qE a b f g { q with oa:=false }):=by
  rw [ZiM h.calm (.inl h.more) h.pr ho]
  simp [ZcW,Zwa,qE,ZL,hc]
end
end
end My
set_option Elab.async false
set_option linter.all false
set_option maxRecDepth 100000
set_option maxHeartbeats 4000000
namespace My
open PySem L2 L2.MM
noncomputable section
theorem Zqx {α:Type} {F:α→D} {fE:EM} {body:SM} {k:Nat} {ρ:List Sl} {θ θ0:Sto} (Inv:List α→List Sl→Sto→Prop) (Ret:D→Prop) (xs:List α) (hn:fE ρ θ0=.ok (.lst (xs.map F)) θ) (hi:Inv xs ρ θ)
    (step:∀x r ρ θ,Inv (x::r) ρ θ→(∃ρ' θ',body (ρ.set k (.val (F x))) θ=.ok (.nx,ρ') θ'∧Inv r ρ' θ')∨(∃d ρ' θ',body (ρ.set k (.val (F x))) θ=.ok (.rt d,ρ') θ'∧Ret d)) (hk:∀i ρ θ,Inv i ρ θ→k < ρ.length) :
    (∃ρ' θ',Zgk (mIn fE) (gNm k) body ρ θ0=.ok (.nx,ρ') θ'∧Inv [] ρ' θ')∨(∃d ρ' θ',Zgk (mIn fE) (gNm k) body ρ θ0=.ok (.rt d,ρ') θ'∧Ret d):=by
  have hm:Zgk (mIn fE) (gNm k) body ρ θ0=ZdI (.seq (.lst (xs.map F))) (xs.map F) (gNm k) body (xs.map F) ρ θ:=by
    unfold Zgk
    have:mIn fE ρ θ0=.ok (.seq (.lst (xs.map F))) θ:=by simp [hn]
    rw [this,R.bind_ok]
    rfl
  rw [hm]
  have key:∀(ys:List α) ρ θ,Inv ys ρ θ→(∃ρ' θ',ZdI (.seq (.lst (xs.map F))) (xs.map F) (gNm k) body (ys.map F) ρ θ=.ok (.nx,ρ') θ'∧Inv [] ρ' θ')∨(∃d ρ' θ',ZdI (.seq (.lst (xs.map F))) (xs.map F) (gNm k) body (ys.map F) ρ θ=.ok (.rt d,ρ') θ'∧Ret d):=by
    intro ys
    induction ys with
    | nil=>
      intro ρ θ hI
      left
      refine ⟨ρ,θ,?_,hI⟩
      have hit:(Src.seq (.lst (xs.map F))).items θ=some (xs.map F):=rfl
      simp [ZdI,hit]
    | cons y ys ih=>
      intro ρ θ hI
      have hg:gNm k (F y) ρ=some (ρ.set k (.val (F y))):=by
        have:=hk _ _ _ hI
        simp [gNm,this]
      have hit:(Src.seq (.lst (xs.map F))).items θ=some (xs.map F):=rfl
      rw [List.map_cons]
      simp only [ZdI,hit,if_true,hg]
      rcases step _ _ ρ θ hI with ⟨ρ',θ',h,hI'⟩ | ⟨d,ρ',θ',h,hR⟩
      · rw [h,R.bind_ok,Ze1]
        exact ih ρ' θ' hI'
      · right
        exact ⟨d,ρ',θ',by rw [h]; rfl,hR⟩
  exact key xs ρ θ hi
end
end My
set_option Elab.async false
set_option linter.all false
set_option maxRecDepth 100000
set_option maxHeartbeats 4000000
namespace My
open PySem L2 L2.MM
noncomputable section
def ZlX (q:Q):Int:=if 16<q.most then 16 else q.most
def room (q:Q):Int:=q.wnd-(q.nxt-q.una)
def Zb8 (q:Q):Prop:=q.st∈[State.opn,.waitOne,.closeWait,.closing,.lastAck]∧q.nxt<q.beh
def Zdb (q:Q):Prop:=q.st∈[State.waitOne,.closing,.lastAck]∧q.nxt=q.beh
instance (q:Q):Decidable (Zb8 q):=by unfold Zb8; infer_instance
instance (q:Q):Decidable (Zdb q):=by unfold Zdb; infer_instance
def Zbi (q:Q) (r:Int):Int:=mn3 (ZlX q) (q.beh-q.nxt) r
def sinceQ (q:Q) (t:Int):Q:=if q.nxt=q.una then { q with since:=t,wait:=1000,tries:=0 } else q
def Zek (a b f g:Int) (q:Q) (r:Int):Seg:=⟨a,b,ZA f q.nxt,ZA g q.rcv,if q.nxt+Zbi q r=q.beh then 24 else 16,64-q.come.length,0,(q.written.drop (q.nxt-q.una).toNat).take (Zbi q r).toNat⟩
def finS (a b f g:Int) (q:Q):Seg:=⟨a,b,ZA f q.nxt,ZA g q.rcv,17,64-q.come.length,0,[]⟩
def Zq1 (a b f g:Int) (q:Q):Seg:=⟨a,b,ZA f q.nxt,ZA g q.rcv,16,64-q.come.length,0,[]⟩
def ZeD (q:Q) (r:Int) (t:Int):Q:={ sinceQ q t with nxt:=q.nxt+Zbi q r,oa:=false,pr:=false }
def nextF (q:Q) (t:Int):Q:={ sinceQ q t with nxt:=q.nxt+1,oa:=false,pr:=false }
structure WF (q:Q):Prop where
  una:0≤q.una∧q.una≤q.nxt
  nxt:q.nxt≤q.beh+1∧q.beh<1000000
  wr:q.una≤q.beh→(q.written.length:Int)=q.beh-q.una
  wnd:0≤q.wnd∧q.wnd≤65535
  most:4≤q.most
  come:q.come.length≤64
  byt:∀z∈q.written,0≤z∧z≤255
structure CalmQ (q:Q) (t:Int):Prop where
  st:q.st∉[State.closed,.listen,.synSent,.synCome]
  tw:q.st=.timeWait→t-q.since<120000
  due:¬q.nxt=q.una→t-q.since<q.wait
section
variable {a b f g t:Int} {q:Q}
theorem CalmQ.on (h:CalmQ q t):Calm (qE a b f g q) t:=⟨rfl,h.st,h.tw,fun z=>h.due fun y=>z (by show ZA f q.nxt=ZA f q.una; rw [y])⟩
theorem WF.uns (w:WF q):Zb9 (qE a b f g q)=q.beh-q.nxt:=by
  obtain ⟨u,n,_⟩:=w
  exact ZdE (by omega)
theorem WF.off (w:WF q):Z0 (qE a b f g q).nxt (qE a b f g q).una=q.nxt-q.una:=by
  obtain ⟨u,n,_⟩:=w
  exact ZdE (by omega)
theorem WF.same (w:WF q):(qE a b f g q).nxt=(qE a b f g q).una↔q.nxt=q.una:=by
  obtain ⟨u,n,_⟩:=w
  exact ZfC (by omega)
theorem WF.newD (w:WF q):Zah (qE a b f g q)=decide (Zb8 q):=by
  unfold Zah
  rw [w.uns,Bool.eq_iff_iff,Bool.and_eq_true,decide_eq_true_iff,decide_eq_true_iff,decide_eq_true_iff]
  exact and_congr Iff.rfl (by omega)
theorem WF.newF (w:WF q):hasNewFin (qE a b f g q)=decide (Zdb q):=by
  unfold hasNewFin
  rw [w.uns,Bool.eq_iff_iff,Bool.and_eq_true,decide_eq_true_iff,decide_eq_true_iff,decide_eq_true_iff]
  exact and_congr Iff.rfl (by omega)
theorem WF.more (w:WF q):ZaW (qE a b f g q)=(decide (Zb8 q) || decide (Zdb q)):=by
  unfold ZaW
  rw [w.newD,w.newF]
theorem ZkY (w:WF q) (t:Int):(if (qE a b f g q).nxt=(qE a b f g q).una then zb (qE a b f g q) t else qE a b f g q)=qE a b f g (sinceQ q t):=by
  unfold sinceQ
  by_cases c:q.nxt=q.una
  · rw [if_pos (w.same.mpr c),if_pos c]; rfl
  · rw [if_neg fun z=>c (w.same.mp z),if_neg c]
theorem ZaB (q:Q) (t:Int):(sinceQ q t).nxt=q.nxt∧(sinceQ q t).una=q.una∧(sinceQ q t).beh=q.beh∧(sinceQ q t).rcv=q.rcv∧(sinceQ q t).st=q.st∧(sinceQ q t).most=q.most∧(sinceQ q t).written=q.written∧(sinceQ q t).come=q.come∧(sinceQ q t).wnd=q.wnd∧(sinceQ q t).told=q.told∧(sinceQ q t).by_=q.by_∧(sinceQ q t).fin=q.fin∧(sinceQ q t).cl=q.cl:=by
  unfold sinceQ
  split<;>exact ⟨rfl,rfl,rfl,rfl,rfl,rfl,rfl,rfl,rfl,rfl,rfl,rfl,rfl⟩
theorem Zgv (w:WF q) (hd:q.nxt<q.beh) {r:Int} (hr:0<r):0<Zbi q r∧Zbi q r≤q.beh-q.nxt∧Zbi q r≤r∧Zbi q r≤16:=by
  have:=w.most
  unfold Zbi mn3 ZlX
  split<;>split<;>split<;>omega
theorem ZlU (w:WF q) (hd:Zb8 q) {r:Int} (hr:0<r) (p0:Bool):zY (qE a b f g { q with oa:=false,pr:=p0 }) r=(Zek a b f g q r,qE a b f g { q with nxt:=q.nxt+Zbi q r,oa:=false,pr:=false }):=by
  obtain ⟨c1,c2,c3,c4⟩:=Zgv w hd.2 hr
  have hu:=w.una
  have hn:=w.nxt
  have wf2:WF { q with oa:=false,pr:=p0 }:=⟨w.una,w.nxt,w.wr,w.wnd,w.most,w.come,w.byt⟩
  unfold zY
  rw [if_pos (by rw [wf2.newD]; exact decide_eq_true hd)]
  have e0:({ qE a b f g { q with oa:=false,pr:=p0 } with probes:=false }:Zs)=qE a b f g { q with oa:=false,pr:=false }:=rfl
  rw [e0]
  have wf3:WF { q with oa:=false,pr:=false }:=⟨w.una,w.nxt,w.wr,w.wnd,w.most,w.come,w.byt⟩
  have nm:Ze5 (qE a b f g { q with oa:=false,pr:=false }) r=Zbi q r:=by
    unfold Ze5 Zbi
    rw [wf3.uns]
    rfl
  unfold Ze6
  simp only [nm]
  have e1:({ qE a b f g { q with oa:=false,pr:=false } with nxt:=ZA (qE a b f g { q with oa:=false,pr:=false }).nxt (Zbi q r) }:Zs)=qE a b f g { q with nxt:=q.nxt+Zbi q r,oa:=false,pr:=false }:=by
    have:ZA (ZA f q.nxt) (Zbi q r)=ZA f (q.nxt+Zbi q r):=Za2 _ _ _
    show ({ qE a b f g { q with oa:=false,pr:=false } with nxt:=ZA (ZA f q.nxt) (Zbi q r) }:Zs)=_
    rw [this]
    rfl
  rw [e1]
  have u1:Zb9 (qE a b f g { q with nxt:=q.nxt+Zbi q r,oa:=false,pr:=false })=q.beh-(q.nxt+Zbi q r):=ZdE (by show _∧_; simp only; omega)
  rw [u1,wf3.off]
  have cu:Za9 (qE a b f g { q with oa:=false,pr:=false }).written (some (q.nxt-q.una)) (some (q.nxt-q.una+Zbi q r))=(q.written.drop (q.nxt-q.una).toNat).take (Zbi q r).toNat:=by
    rw [ZmY _ (by omega) (by omega)]
    congr 1
    omega
  simp only [cu]
  refine Prod.ext ?_ rfl
  unfold ZcW Zek ZL
  by_cases c:q.nxt+Zbi q r=q.beh
  · rw [if_pos (by omega),if_pos c]; rfl
  · rw [if_neg (by omega),if_neg c]; rfl
theorem Znq (w:WF q) (hd:Zdb q) (r:Int) (p0:Bool):zY (qE a b f g { q with oa:=false,pr:=p0 }) r=(finS a b f g q,qE a b f g { q with nxt:=q.nxt+1,oa:=false,pr:=false }):=by
  have wf2:WF { q with oa:=false,pr:=p0 }:=⟨w.una,w.nxt,w.wr,w.wnd,w.most,w.come,w.byt⟩
  have nd:¬Zb8 { q with oa:=false,pr:=p0 }:=fun z=>by
    have h1:=z.2
    have h2:=hd.2
    simp only at h1
    omega
  unfold zY
  rw [if_neg (by rw [wf2.newD,decide_eq_false nd]; decide)]
  unfold ZhE
  refine Prod.ext rfl ?_
  show ({ qE a b f g { q with oa:=false,pr:=false } with nxt:=ZA (ZA f q.nxt) 1 }:Zs)=_
  rw [Za2]
  rfl
theorem Zr6 (c:CalmQ q t) (w:WF q) (hr:0<room q) (hd:Zb8 q):zR (qE a b f g q) t=(some (Zek a b f g q (room q)),qE a b f g (ZeD q (room q) t)):=by
  have o:=w.off (a:=a) (b:=b) (f:=f) (g:=g)
  have ro:(qE a b f g q).wnd-Z0 (qE a b f g q).nxt (qE a b f g q).una=room q:=by rw [o]; rfl
  rw [Zqw c.on (by rw [ro]; exact hr) (by rw [w.more,decide_eq_true hd]; rfl),ZkY w,ro]
  obtain ⟨s1,s2,s3,s4,s5,s6,s7,s8,s9,s10,s11,s12,s13⟩:=ZaB q t
  have wf':WF (sinceQ q t):=⟨by rw [s1,s2]; exact w.una,by rw [s1,s3]; exact w.nxt,by rw [s2,s3,s7]; exact w.wr,by rw [s9]; exact w.wnd,by rw [s6]; exact w.most,by rw [s8]; exact w.come,by rw [s7]; exact w.byt⟩
  have e0:({ qE a b f g (sinceQ q t) with owes_answer:=false }:Zs)=qE a b f g { sinceQ q t with oa:=false,pr:=(sinceQ q t).pr }:=rfl
  rw [e0,ZlU wf' (by unfold Zb8; rw [s5,s1,s3]; exact hd) hr]
  have cc:Zbi (sinceQ q t) (room q)=Zbi q (room q):=by unfold Zbi ZlX; rw [s1,s3,s6]
  have dd:Zek a b f g (sinceQ q t) (room q)=Zek a b f g q (room q):=by unfold Zek; rw [cc,s1,s2,s3,s4,s7,s8]
  rw [dd,cc,s1]
  rfl
theorem Zr5 (c:CalmQ q t) (w:WF q) (hr:0<room q) (hd:Zdb q):zR (qE a b f g q) t=(some (finS a b f g q),qE a b f g (nextF q t)):=by
  have o:=w.off (a:=a) (b:=b) (f:=f) (g:=g)
  have ro:(qE a b f g q).wnd-Z0 (qE a b f g q).nxt (qE a b f g q).una=room q:=by rw [o]; rfl
  rw [Zqw c.on (by rw [ro]; exact hr) (by rw [w.more,decide_eq_true hd]; simp),ZkY w,ro]
  obtain ⟨s1,s2,s3,s4,s5,s6,s7,s8,s9,s10,s11,s12,s13⟩:=ZaB q t
  have wf':WF (sinceQ q t):=⟨by rw [s1,s2]; exact w.una,by rw [s1,s3]; exact w.nxt,by rw [s2,s3,s7]; exact w.wr,by rw [s9]; exact w.wnd,by rw [s6]; exact w.most,by rw [s8]; exact w.come,by rw [s7]; exact w.byt⟩
  have e0:({ qE a b f g (sinceQ q t) with owes_answer:=false }:Zs)=qE a b f g { sinceQ q t with oa:=false,pr:=(sinceQ q t).pr }:=rfl
  rw [e0,Znq wf' (by unfold Zdb; rw [s5,s1,s3]; exact hd)]
  have dd:finS a b f g (sinceQ q t)=finS a b f g q:=by unfold finS; rw [s1,s4,s8]
  rw [dd,s1]
  rfl
theorem ZmV (c:CalmQ q t) (w:WF q) (hn:¬(Zb8 q∨Zdb q)∨(¬q.nxt=q.una∧room q≤0)) (hp:q.pr=false):zR (qE a b f g q) t=if q.oa=true then (some (Zq1 a b f g q),qE a b f g { q with oa:=false }) else (none,qE a b f g q):=by
  have o:=w.off (a:=a) (b:=b) (f:=f) (g:=g)
  have hm:ZaW (qE a b f g q)=false∨(¬(qE a b f g q).nxt=(qE a b f g q).una∧(qE a b f g q).wnd-Z0 (qE a b f g q).nxt (qE a b f g q).una≤0):=by
    rcases hn with h | ⟨h1,h2⟩
    · left
      rw [w.more,decide_eq_false fun z=>h (.inl z),decide_eq_false fun z=>h (.inr z)]; rfl
    · right
      exact ⟨fun z=>h1 (w.same.mp z),by rw [o]; exact h2⟩
  by_cases h:q.oa=true
  · rw [if_pos h,ZiM c.on hm hp h]; rfl
  · rw [if_neg h,Zlq c.on hm hp (by simpa [qE] using h)]
end
def Zcv (a b f g:Int) (t:Int):Nat→Q→List Seg×Q
  | 0,q=>([],q)
  | n+1,q=>
    if 0<room q∧Zb8 q then (Zek a b f g q (room q)::(Zcv a b f g t n (ZeD q (room q) t)).1,(Zcv a b f g t n (ZeD q (room q) t)).2)
    else if 0<room q∧Zdb q then (finS a b f g q::(Zcv a b f g t n (nextF q t)).1,(Zcv a b f g t n (nextF q t)).2)
    else if q.oa=true then ([Zq1 a b f g q],{ q with oa:=false }) else ([],q)
section
variable {a b f g t:Int}
theorem WF.next {q:Q} (w:WF q) (hr:0<room q) (hd:Zb8 q):WF (ZeD q (room q) t):=by
  obtain ⟨c1,c2,c3,c4⟩:=Zgv w hd.2 hr
  obtain ⟨s1,s2,s3,s4,s5,s6,s7,s8,s9,s10,s11,s12,s13⟩:=ZaB q t
  have h1:=w.una
  have h2:=w.nxt
  refine ⟨?_,?_,?_,?_,?_,?_,?_⟩
  · show 0≤(sinceQ q t).una∧(sinceQ q t).una≤q.nxt+Zbi q (room q); rw [s2]; omega
  · show q.nxt+Zbi q (room q)≤(sinceQ q t).beh+1∧(sinceQ q t).beh<1000000; rw [s3]; omega
  · show (sinceQ q t).una≤(sinceQ q t).beh→((sinceQ q t).written.length:Int)=(sinceQ q t).beh-(sinceQ q t).una; rw [s2,s3,s7]; exact w.wr
  · show 0≤(sinceQ q t).wnd∧(sinceQ q t).wnd≤65535; rw [s9]; exact w.wnd
  · show 4≤(sinceQ q t).most; rw [s6]; exact w.most
  · show (sinceQ q t).come.length≤64; rw [s8]; exact w.come
  · show ∀z∈(sinceQ q t).written,_; rw [s7]; exact w.byt
theorem WF.nextF {q:Q} (w:WF q) (hd:Zdb q):WF (My.nextF q t):=by
  obtain ⟨s1,s2,s3,s4,s5,s6,s7,s8,s9,s10,s11,s12,s13⟩:=ZaB q t
  have h1:=w.una
  have h2:=w.nxt
  have h3:=hd.2
  refine ⟨?_,?_,?_,?_,?_,?_,?_⟩
  · show 0≤(sinceQ q t).una∧(sinceQ q t).una≤q.nxt+1; rw [s2]; omega
  · show q.nxt+1≤(sinceQ q t).beh+1∧(sinceQ q t).beh<1000000; rw [s3]; omega
  · show (sinceQ q t).una≤(sinceQ q t).beh→((sinceQ q t).written.length:Int)=(sinceQ q t).beh-(sinceQ q t).una; rw [s2,s3,s7]; exact w.wr
  · show 0≤(sinceQ q t).wnd∧(sinceQ q t).wnd≤65535; rw [s9]; exact w.wnd
  · show 4≤(sinceQ q t).most; rw [s6]; exact w.most
  · show (sinceQ q t).come.length≤64; rw [s8]; exact w.come
  · show ∀z∈(sinceQ q t).written,_; rw [s7]; exact w.byt
theorem Zhy (q:Q) (t:Int) (c:CalmQ q t):t-(sinceQ q t).since<(sinceQ q t).wait∧((sinceQ q t).st=.timeWait→t-(sinceQ q t).since<120000):=by
  unfold sinceQ
  by_cases h:q.nxt=q.una
  · rw [if_pos h]; simp only; exact ⟨by omega,fun _=>by omega⟩
  · rw [if_neg h]; exact ⟨c.due h,c.tw⟩
theorem CalmQ.next {q:Q} {r:Int} (c:CalmQ q t):CalmQ (ZeD q r t) t:=by
  obtain ⟨w1,w2⟩:=Zhy q t c
  obtain ⟨s1,s2,s3,s4,s5,_⟩:=ZaB q t
  exact ⟨by show (sinceQ q t).st∉_; rw [s5]; exact c.st,w2,fun _=>w1⟩
theorem CalmQ.nextF {q:Q} (c:CalmQ q t):CalmQ (My.nextF q t) t:=by
  obtain ⟨w1,w2⟩:=Zhy q t c
  obtain ⟨s1,s2,s3,s4,s5,_⟩:=ZaB q t
  exact ⟨by show (sinceQ q t).st∉_; rw [s5]; exact c.st,w2,fun _=>w1⟩
theorem Zsg {q:Q} {r:Int} (w:WF q) (hr:0<r) (hd:Zb8 q) (ha:0≤a∧a≤65535) (hb:0≤b∧b≤65535):(Zek a b f g q r).Ok:=by
  obtain ⟨c1,c2,c3,c4⟩:=Zgv w hd.2 hr
  have:=w.come
  refine ZeB ha hb (ZaU _ _) (ZaU _ _) (by split<;>omega) (by omega) (.inl rfl) ⟨fun z hz=>w.byt z (List.mem_of_mem_drop (List.mem_of_mem_take hz)),?_⟩
  rw [List.length_take]
  omega
theorem Zug {q:Q} (w:WF q) (ha:0≤a∧a≤65535) (hb:0≤b∧b≤65535):(finS a b f g q).Ok:=by
  have:=w.come
  exact ZeB ha hb (ZaU _ _) (ZaU _ _) (by omega) (by omega) (.inl rfl) Zdh
theorem Zsq {q:Q} (w:WF q) (ha:0≤a∧a≤65535) (hb:0≤b∧b≤65535):(Zq1 a b f g q).Ok:=by
  have:=w.come
  exact ZeB ha hb (ZaU _ _) (ZaU _ _) (by omega) (by omega) (.inl rfl) Zdh
theorem Zjl (ha:0≤a∧a≤65535) (hb:0≤b∧b≤65535):∀(n:Nat) (q:Q),WF q→CalmQ q t→q.pr=false→(q.beh+1-q.nxt<n)→(¬q.nxt=q.una∨0<q.wnd∨¬(Zb8 q∨Zdb q))→Zi1 t (qE a b f g q) (Zcv a b f g t n q).1 (qE a b f g (Zcv a b f g t n q).2)
  | 0,q,w,_,_,hn,_=>by have:=w.nxt; omega
  | n+1,q,w,c,hp,hn,h0=>by
    unfold Zcv
    by_cases h1:0<room q∧Zb8 q
    · obtain ⟨c1,c2,c3,c4⟩:=Zgv w h1.2.2 h1.1
      have hu:=w.una
      rw [if_pos h1]
      refine .cons (Zr6 c w h1.1 h1.2) (Zsg w h1.1 h1.2 ha hb) (Zjl ha hb n _ (w.next h1.1 h1.2) c.next rfl ?_ (.inl ?_))
      · show (sinceQ q t).beh+1-(q.nxt+Zbi q (room q))<n
        rw [(ZaB q t).2.2.1]; omega
      · show ¬q.nxt+Zbi q (room q)=(sinceQ q t).una
        rw [(ZaB q t).2.1]; omega
    · rw [if_neg h1]
      by_cases h2:0<room q∧Zdb q
      · have hu:=w.una
        rw [if_pos h2]
        refine .cons (Zr5 c w h2.1 h2.2) (Zug w ha hb) (Zjl ha hb n _ (w.nextF h2.2) c.nextF rfl ?_ (.inl ?_))
        · show (sinceQ q t).beh+1-(q.nxt+1)<n
          rw [(ZaB q t).2.2.1]; omega
        · show ¬q.nxt+1=(sinceQ q t).una
          rw [(ZaB q t).2.1]; omega
      · rw [if_neg h2]
        have st:¬(Zb8 q∨Zdb q)∨(¬q.nxt=q.una∧room q≤0):=by
          by_cases hm:Zb8 q∨Zdb q
          · right
            have hr:room q≤0:=by
              rcases hm with hm | hm
              · exact Int.not_lt.mp fun z=>h1 ⟨z,hm⟩
              · exact Int.not_lt.mp fun z=>h2 ⟨z,hm⟩
            refine ⟨?_,hr⟩
            rcases h0 with h | h | h
            · exact h
            · intro z
              unfold room at hr
              omega
            · exact absurd hm h
          · exact .inl hm
        have gs:=ZmV (a:=a) (b:=b) (f:=f) (g:=g) c w st hp
        by_cases ho:q.oa=true
        · rw [if_pos ho] at gs ⊢
          refine .cons gs (Zsq w ha hb) (.nil ?_)
          have c':CalmQ { q with oa:=false } t:=⟨c.st,c.tw,c.due⟩
          have w':WF { q with oa:=false }:=⟨w.una,w.nxt,w.wr,w.wnd,w.most,w.come,w.byt⟩
          exact ZmV (a:=a) (b:=b) (f:=f) (g:=g) c' w' st hp
        · rw [if_neg ho] at gs ⊢
          exact .nil gs
end
end
end My
set_option Elab.async false
set_option linter.all false
set_option maxRecDepth 100000
set_option maxHeartbeats 4000000
namespace My
open PySem L2 L2.MM
noncomputable section
def ZgD:List Seg→Int
  | []=>0
  | s::r=>s.data.length+s.flags % 2+ZgD r
structure Kept (q q':Q):Prop where
  st:q'.st=q.st
  una:q'.una=q.una
  beh:q'.beh=q.beh
  rcv:q'.rcv=q.rcv
  told:q'.told=q.told
  by_:q'.by_=q.by_
  wnd:q'.wnd=q.wnd
  most:q'.most=q.most
  written:q'.written=q.written
  come:q'.come=q.come
  fin:q'.fin=q.fin
  cl:q'.cl=q.cl
theorem Kept.refl (q:Q):Kept q q:=⟨rfl,rfl,rfl,rfl,rfl,rfl,rfl,rfl,rfl,rfl,rfl,rfl⟩
theorem Kept.trans {q r s:Q} (h:Kept q r) (k:Kept r s):Kept q s:=⟨k.st.trans h.st,k.una.trans h.una,k.beh.trans h.beh,k.rcv.trans h.rcv,k.told.trans h.told,k.by_.trans h.by_,k.wnd.trans h.wnd,k.most.trans h.most,k.written.trans h.written,k.come.trans h.come,k.fin.trans h.fin,k.cl.trans h.cl⟩
theorem ZhK (q:Q) (t:Int):Kept q (sinceQ q t):=by
  unfold sinceQ
  split<;>exact ⟨rfl,rfl,rfl,rfl,rfl,rfl,rfl,rfl,rfl,rfl,rfl,rfl⟩
theorem Zl6 (q:Q) (r t:Int):Kept q (ZeD q r t):=
  have k:=ZhK q t
  ⟨k.st,k.una,k.beh,k.rcv,k.told,k.by_,k.wnd,k.most,k.written,k.come,k.fin,k.cl⟩
theorem Zl5 (q:Q) (t:Int):Kept q (nextF q t):=
  have k:=ZhK q t
  ⟨k.st,k.una,k.beh,k.rcv,k.told,k.by_,k.wnd,k.most,k.written,k.come,k.fin,k.cl⟩
section
variable {a b f g t:Int}
theorem ZqK {q:Q} {r:Int} (w:WF q) (hr:0<r) (hd:Zb8 q):((Zek a b f g q r).data.length:Int)=Zbi q r:=by
  obtain ⟨c1,c2,c3,c4⟩:=Zgv w hd.2 hr
  have h1:=w.una
  have h2:=hd.2
  have h3:=w.wr (by omega)
  show (((q.written.drop (q.nxt-q.una).toNat).take (Zbi q r).toNat).length:Int)=_
  rw [List.length_take,List.length_drop]
  omega
theorem ZhP:∀(n:Nat) (q:Q),WF q→Kept q (Zcv a b f g t n q).2∧(Zcv a b f g t n q).2.nxt=q.nxt+ZgD (Zcv a b f g t n q).1∧WF (Zcv a b f g t n q).2∧((Zcv a b f g t n q).1.length:Int)≤(if 0<room q then room q else 0)+1
  | 0,q,w=>⟨Kept.refl q,by simp [Zcv,ZgD],w,by simp [Zcv]; split<;>omega⟩
  | n+1,q,w=>by
    unfold Zcv
    by_cases h1:0<room q∧Zb8 q
    · obtain ⟨c1,c2,c3,c4⟩:=Zgv w h1.2.2 h1.1
      rw [if_pos h1]
      obtain ⟨k,a1,w1,l1⟩:=ZhP n (ZeD q (room q) t) (w.next h1.1 h1.2)
      have kd:=Zl6 q (room q) t
      refine ⟨kd.trans k,?_,w1,?_⟩
      · simp only
        rw [a1]
        show q.nxt+Zbi q (room q)+ZgD _=q.nxt+(((Zek a b f g q (room q)).data.length:Int)+(Zek a b f g q (room q)).flags % 2+ZgD _)
        rw [ZqK w h1.1 h1.2]
        have:(Zek a b f g q (room q)).flags % 2=0:=by
          show (if q.nxt+Zbi q (room q)=q.beh then 24 else 16:Int) % 2=0
          split<;>rfl
        omega
      · have rr:room (ZeD q (room q) t)=room q-Zbi q (room q):=by
          show (ZeD q (room q) t).wnd-((ZeD q (room q) t).nxt-(ZeD q (room q) t).una)=_
          rw [kd.wnd,kd.una]
          show q.wnd-(q.nxt+Zbi q (room q)-q.una)=q.wnd-(q.nxt-q.una)-Zbi q (room q)
          omega
        rw [rr] at l1
        rw [if_pos h1.1]
        simp only [List.length_cons]
        split at l1<;>omega
    · rw [if_neg h1]
      by_cases h2:0<room q∧Zdb q
      · rw [if_pos h2]
        obtain ⟨k,a1,w1,l1⟩:=ZhP n (nextF q t) (w.nextF h2.2)
        have kd:=Zl5 q t
        refine ⟨kd.trans k,?_,w1,?_⟩
        · simp only
          rw [a1]
          show q.nxt+1+ZgD _=q.nxt+(((finS a b f g q).data.length:Int)+(finS a b f g q).flags % 2+ZgD _)
          have e1:(finS a b f g q).data.length=0:=rfl
          have e2:(finS a b f g q).flags % 2=1:=rfl
          rw [e1,e2]
          omega
        · have rr:room (nextF q t)=room q-1:=by
            unfold room
            rw [kd.wnd,kd.una]
            show q.wnd-(q.nxt+1-q.una)=_
            omega
          rw [rr] at l1
          rw [if_pos h2.1]
          simp only [List.length_cons]
          split at l1<;>omega
      · rw [if_neg h2]
        split
        · refine ⟨⟨rfl,rfl,rfl,rfl,rfl,rfl,rfl,rfl,rfl,rfl,rfl,rfl⟩,?_,⟨w.una,w.nxt,w.wr,w.wnd,w.most,w.come,w.byt⟩,?_⟩
          · simp only [ZgD]
            have e1:(Zq1 a b f g q).data.length=0:=rfl
            have e2:(Zq1 a b f g q).flags % 2=0:=rfl
            rw [e1,e2]
            omega
          · simp only [List.length_cons,List.length_nil]
            split<;>omega
        · refine ⟨Kept.refl q,by simp [ZgD],w,?_⟩
          simp only [List.length_nil]
          split<;>omega
end
section
variable {a b f g t:Int}
def qIn (q:Q) (n:Int) (x:List Int) (fin:Bool):Q:={ q with come:=q.come++x,rcv:=n,oa:=q.oa || decide (0<x.length) || fin,fin:=if fin then some (q.rcv+x.length) else none }
theorem ZnK {q:Q} {fl:Int} {x:List Int} (w:WF q) (hst:q.st=.opn) (hf:fl=16∨fl=17) (hx:x.length≤16) (hc:q.come.length+x.length<64) (hfi:q.fin=none) (htold:q.told=q.rcv) (hby:q.by_=q.una) (hw:0<q.wnd) (hn:q.nxt≤q.beh) (hr:0≤q.rcv∧q.rcv<1000000) :
    Zdl (qE a b f g q) ⟨b,a,ZA g q.rcv,ZA f q.una,fl,q.wnd,0,x⟩ t=qE a b f g (if fl=17 then { qIn q (q.rcv+x.length+1) x true with st:=.closeWait } else qIn q (q.rcv+x.length) x false):=by
  have hu:=w.una
  have hb:=w.nxt
  obtain ⟨s,hs⟩:∃s:Seg,s=⟨b,a,ZA g q.rcv,ZA f q.una,fl,q.wnd,0,x⟩:=⟨_,rfl⟩
  have b4:bears s 4=false:=by rw [hs]; rcases hf with rfl | rfl<;>simp
  have b2:bears s 2=false:=by rw [hs]; rcases hf with rfl | rfl<;>simp
  have b16:bears s 16=true:=by rw [hs]; rcases hf with rfl | rfl<;>simp
  have b1:bears s 1=decide (fl=17):=by rw [hs]; rcases hf with rfl | rfl<;>simp
  obtain ⟨e,he⟩:∃e,e=qE a b f g q:=⟨_,rfl⟩
  have nr:s.num=e.rcv:=by rw [hs,he]; rfl
  have cm:e.come=q.come:=by rw [he]; rfl
  have ft:Zff e s=true:=by
    unfold Zff inWin ZL
    rw [nr,cm,Zp0]
    have:(q.come.length:Int)<64:=by omega
    simp [this]
  have pa:Zbo s.ans e.nxt=false:=by
    rw [hs,he]
    show Zbo (ZA f q.una) (ZA f q.nxt)=false
    rw [ZsO (by omega) (by omega)]
    simp; omega
  have an:s.ans=e.una:=by rw [hs,he]; rfl
  have ho:Zcm e s t=e:=by
    unfold Zcm
    rw [an,Zix]
    simp
  have tw:Zdd e s=e:=by
    rw [hs,he]
    unfold Zdd qE
    simp only [htold,hby]
  have wn:¬e.wnd=0:=by rw [he]; show ¬q.wnd=0; omega
  have ha:zX e s t=e:=by
    unfold zX
    simp only [ho,tw]
    rw [←an,Zix]
    simp [wn]
  have sf:Zfz e=false:=by
    rw [he]
    show Zbo (ZA f q.nxt) (ZA f q.beh)=false
    rw [ZsO (by omega) (by omega)]
    simp; omega
  have ea:ZaZ e t=e:=by
    unfold ZaZ
    rw [if_pos (.inl sf)]
  have so:e.state=.opn:=by rw [he]; exact hst
  have go:ZaE e s t=(true,e):=by
    unfold ZaE
    rw [if_neg (by rw [so]; decide),if_neg (by rw [pa]; decide),ha,ea,so]
    rfl
  have ri:0≤e.rcv∧e.rcv≤4294967295:=by rw [he]; exact ZaU _ _
  have sda:s.data=x:=by rw [hs]
  have stm:=ZgG (e:=e) (s:=s) (by rw [sda]; exact hx) nr ri (by rw [he]; rfl) (by rw [he]; show q.fin.map _=none; rw [hfi]; rfl) (by rw [cm,sda]; split<;>omega)
  rw [←hs,←he,Zsh (by rw [so]; decide) ft b4 b2 b16,go]
  simp only [if_true]
  unfold Zbf
  rw [if_pos (.inl so),stm,b1,cm,sda]
  have erv:e.rcv=ZA g q.rcv:=by rw [he]; rfl
  have eoa:e.owes_answer=q.oa:=by rw [he]; rfl
  rcases hf with rfl | rfl
  · simp only [show ¬(16:Int)=17 by decide,decide_false,Bool.or_false,if_false,Bool.false_eq_true,reduceCtorEq]
    rw [erv,eoa,Za2,he]
    unfold qE qIn
    simp [hst]
  · simp only [decide_true,if_true,Bool.or_true]
    unfold ZfV
    simp only [so,if_true]
    rw [erv,Za2,Za2,he]
    unfold qE qIn
    simp [Za2,Int.add_assoc]
end
end
end My
namespace PySem.W.Fast
def tw9624242631970155520:=0
def tw6863770707369260064:=0
def tw6137947124044815520:=0
def tw2739373501512478880:=0
def tw11971451702775300288:=0
def tw15640775636517050560:=0
def tw7976215269921167648:=0
def tw16599992889219292448:=0
def tw5562146880719105312:=0
def tw11432362346700852512:=0
def tw1924252917781185856:=0
def tw14352579658984378688:=0
def tw15977320071266933216:=0
def tw2671791172511612416:=0
def tw10214094412268038656:=0
def tw15085469834459536928:=0
def tw2744638073752840800:=0
def tw9065692469751089792:=0
def tw1127882063406534272:=0
def tw10992419434214566528:=0
def tw25873815603444352:=0
def tw5261984532492917408:=0
def tw8892860396268173984:=0
def tw16906850071949503168:=0
def tw15482264113029019360:=0
def tw17086999580490309376:=0
def tw4113012892100820768:=0
def tw1639624062599052096:=0
def tw91072623899372352:=0
def tw9480570335680586592:=0
def tw11974773841377014720:=0
def tw16580966853767061505:=0
def tw7083054093021447233:=0
def tw4225392942683741249:=0
def tw13133813639122846817:=0
def tw7751413874824662145:=0
def tw4114138277003459713:=0
def tw16309245731312833729:=0
def tw244756024992570721:=0
def tw10937126330711369249:=0
def tw12483847466730428993:=0
def tw10374553456317472417:=0
def tw15277654564458929825:=0
def tw16797788860490472129:=0
def tw4812628597944279777:=0
def tw12094200610932721409:=0
def tw5954251383787459329:=0
def tw7715910852420085505:=0
def tw3449569376167395073:=0
def tw18435225832569074465:=0
def tw6687558044258678625:=0
def tw2996616380003039105:=0
def tw16698380610618737569:=0
def tw13926846688445176769:=0
def tw9549855893227578305:=0
def tw5058724339778143234:=0
def tw15868150989251122210:=0
def tw366200532968204322:=0
def tw18333894278523354210:=0
def tw10280069764019083394:=0
def tw11184439143828786338:=0
def tw14099723872506749122:=0
def tw14979453198458525922:=0
def tw14493158899203919074:=0
def tw3962381017961076034:=0
def tw2268909798752019842:=0
def tw12236261468641062370:=0
def tw1477337354677325314:=0
def tw16874203893865615874:=0
def tw5850303852056994306:=0
def tw11664953134672712226:=0
def tw16379297941572736546:=0
def tw6049729881105563170:=0
def tw4177756062308487842:=0
def tw12389816338092954338:=0
def tw14550542013522630370:=0
def tw11223433245532559106:=0
def tw3465537598328448802:=0
def tw10606616227589420834:=0
def tw11080677014623128482:=0
def tw17906169873194637282:=0
def tw12658358295911946243:=0
def tw495270751708210179:=0
def tw14483790089208059971:=0
def tw17556739804333669507:=0
def tw17389660625865266339:=0
def tw15039229310339744963:=0
def tw4332676751344612643:=0
def tw8457729372508378435:=0
def tw15090963198204126595:=0
def tw14869177356897861059:=0
def tw17033421161546569155:=0
def tw12678009721546930627:=0
def tw15811234337187685891:=0
def tw6278611142988859939:=0
def tw17991756337336294947:=0
def tw5739229717528071747:=0
def tw14882076032867130947:=0
def tw6990293161355074243:=0
def tw6563886876630435555:=0
def tw10153347349113620227:=0
def tw6796982521571732227:=0
def tw6842445498506350371:=0
def tw1023876085362486051:=0
def tw4263540729570282371:=0
def tw11970068079803655075:=0
def tw3619599866678633411:=0
def tw4045394018244461539:=0
def tw9090592932286684196:=0
def tw8002372131880924228:=0
def tw12550634705123212356:=0
def tw4346524098695409796:=0
def tw12835047939550262500:=0
def tw17734944170081816868:=0
def tw6274123513064430916:=0
def tw11041352706961146212:=0
def tw7319425560191400292:=0
def tw10908637386857983396:=0
def tw4616882183366688196:=0
def tw9629223814060618244:=0
def tw12526595549596568068:=0
def tw11466230767409332772:=0
def tw16181886940015904356:=0
def tw11414298544022020740:=0
def tw8382127740028239556:=0
def tw7073642163601633988:=0
def tw10689216092024286980:=0
def tw18227049589508211556:=0
def tw2340853072158981988:=0
def tw4433637393721568132:=0
def tw9884346509364837316:=0
def tw17847410342515812324:=0
def tw1026314086666250245:=0
def tw2176678196559940677:=0
def tw14987452495787293765:=0
def tw6697523420674801765:=0
def tw3032413031883760741:=0
def tw8482871217792508037:=0
def tw2418861068212474085:=0
def tw15542085390149476581:=0
def tw16440606627983065413:=0
def tw10927340839924461893:=0
def tw13343213329910107525:=0
def tw17109529115355366789:=0
def tw1956222144689895909:=0
def tw18326967386629667301:=0
def tw13445440843816336869:=0
def tw16586237194560264773:=0
def tw7106403592210793125:=0
def tw8494538560418441029:=0
def tw13538216886596541317:=0
def tw11618183613900948389:=0
def tw16246170219187579813:=0
def tw15252825603696483301:=0
def tw15467888247455621126:=0
def tw326667003802313894:=0
def tw740100977160415398:=0
def tw16873804322405683398:=0
def tw10055206253464276166:=0
def tw13303201156029008166:=0
def tw14383260031197503942:=0
def tw10659095872112207462:=0
def tw3018766535612456646:=0
def tw3581802366907099878:=0
def tw15499497674152878854:=0
def tw9161710891392488198:=0
def tw17721958477994968902:=0
def tw13778082549546667878:=0
def tw3349107625148916614:=0
def tw17660071628068518854:=0
def tw9625391133182921735:=0
def tw5763385277607717959:=0
def tw12726977051333676135:=0
def tw16874431045088664711:=0
def tw15839046604707079431:=0
def tw15647827696534893831:=0
def tw13998687628281344263:=0
def tw17021731690919247271:=0
def tw13452914113563595303:=0
def tw12809641129039124071:=0
def tw12341227179310982791:=0
def tw15202951817442544359:=0
def tw11839665685524208423:=0
def tw9930425195296911143:=0
def tw12162156254560514855:=0
def tw2127904759869147975:=0
def tw13209173221993218951:=0
def tw13159049729777541031:=0
def tw9685952015248313255:=0
def tw14775339885727498248:=0
def tw8030359359119508488:=0
def tw2294204907808164904:=0
def tw15194035436006481960:=0
def tw13342120306545309864:=0
def tw18111479235869499560:=0
def tw3663786867310249192:=0
def tw11893114059794809096:=0
def tw5674506423623307528:=0
def tw5752768099060886824:=0
def tw6204151840804614504:=0
def tw3966563528969697672:=0
def tw4748783326256245288:=0
def tw10902992334726645320:=0
def tw8510839167538220712:=0
def tw14639889427491778216:=0
def tw3841297769794265832:=0
def tw18141120100600245032:=0
def tw1189141032624020360:=0
def tw15453482977198353320:=0
def tw17182068072137029544:=0
def tw2761221936419980361:=0
def tw5644067811022160009:=0
def tw5601104106874037417:=0
def tw6828033214987023561:=0
def tw8456338723099595977:=0
def tw1812617395728173289:=0
def tw14072148567968558345:=0
def tw7455777116351346953:=0
def tw9110460614148849961:=0
def tw3333193249144939849:=0
def tw6111759252089547081:=0
def tw9759931969927280969:=0
def tw13707787381082986921:=0
def tw18440773982700041641:=0
def tw11223298982814136777:=0
def tw7874094321439405545:=0
def tw9744978829332476457:=0
def tw7915951756717386409:=0
def tw15547462126147045065:=0
def tw9161789602016793289:=0
def tw4530922615820188361:=0
def tw3256604442851706601:=0
def tw18374928141503058665:=0
def tw6999089473374693129:=0
def tw10122261488604076841:=0
def tw13347679179674864521:=0
def tw848445192076841865:=0
def tw15179517425207316425:=0
def tw1069021475440562186:=0
def tw11109688981454910602:=0
def tw12143871983572760842:=0
def tw10233583872996329738:=0
def tw2813734223945123242:=0
def tw10287054621094662570:=0
def tw11225856346642928074:=0
def tw3048934140548479434:=0
def tw10854335314241270410:=0
def tw5749287879232557738:=0
def tw13520787223821852394:=0
def tw445205979889651434:=0
def tw11828585014524957578:=0
def tw7584099717583998890:=0
def tw518918833441188778:=0
def tw3704720140605573163:=0
def tw200178487906496555:=0
def tw15757444923694079051:=0
def tw3659068453731307659:=0
def tw11051359349173170411:=0
def tw6669551490725919979:=0
def tw4361265936307361131:=0
def tw4234921291964125579:=0
def tw12708653504380331:=0
def tw16409590097570782731:=0
def tw18216240463347181067:=0
def tw10479991657733555755:=0
def tw12744684479105117739:=0
def tw8700167731245415979:=0
def tw14143384779448906315:=0
def tw6653831887638469227:=0
def tw12267909366065876587:=0
def tw13961539393549686475:=0
def tw7187926651022288619:=0
def tw606369304949416683:=0
def tw7697800115310686091:=0
def tw3983666182757953451:=0
def tw12439478375532814251:=0
def tw3881431574670049388:=0
def tw4031634473212008588:=0
def tw6515914832625169580:=0
def tw12463087470713147596:=0
def tw3490655552753965260:=0
def tw7359357414221254892:=0
def tw10443965377807082828:=0
def tw3986576392442086828:=0
def tw12289344213193152972:=0
def tw9506940183833130572:=0
def tw11380246491068843628:=0
def tw11988390925903001196:=0
def tw8697998340187264716:=0
def tw459376674291461836:=0
def tw871562277298297548:=0
def tw9499781769797520140:=0
def tw3570012836871188268:=0
def tw17374649369882350380:=0
def tw11097188146397241164:=0
def tw1402977023405156172:=0
def tw1796468212173434700:=0
def tw10013503407209823084:=0
def tw4265634195432591212:=0
def tw11477579502534423436:=0
def tw15120479775038311340:=0
def tw6189992591106059309:=0
def tw6282479256993627181:=0
def tw8545551794268348493:=0
def tw831772096783726669:=0
def tw2092215047513012301:=0
def tw576410862448113741:=0
def tw9747514155746775149:=0
def tw12515873895959679085:=0
def tw17659712201915663533:=0
def tw11360343331925345453:=0
def tw8761597363114760461:=0
def tw8725142933475280173:=0
def tw16689243333848485165:=0
def tw3008287386308315501:=0
def tw8546060724044751213:=0
def tw5794091031057917325:=0
def tw1175676164955113933:=0
def tw16725840716116744653:=0
def tw2190605499923440109:=0
def tw7335667370599548461:=0
def tw2321945124888560205:=0
def tw4371338430980299437:=0
def tw7280456732570580749:=0
def tw15153583317808271245:=0
def tw3449244286425054125:=0
def tw15764377979825666989:=0
def tw17273699418603125709:=0
def tw10516981237352947726:=0
def tw4571692789207929902:=0
def tw17953749850942566478:=0
def tw11359123472010244174:=0
def tw2920639142572180622:=0
def tw4951087878548281518:=0
def tw11868552553243578574:=0
def tw4928536239752253678:=0
def tw15194103410250652046:=0
def tw18440144000797321614:=0
def tw3061869417268196750:=0
def tw10786603060407716270:=0
def tw6172185793551554990:=0
def tw12576517179126553070:=0
def tw11137577385373641262:=0
def tw15841171949846117966:=0
def tw11937288122969163374:=0
def tw6501313034735629966:=0
def tw6817350842883361454:=0
def tw13236598783098125998:=0
def tw8746471190193673966:=0
def tw15209346446031881006:=0
def tw7180353297156792110:=0
def tw18268157289383560014:=0
def tw13686797834341831566:=0
def tw15768932968101027758:=0
def tw3501389703389679631:=0
def tw681386968978244687:=0
def tw7463406978757529743:=0
def tw13622662185045663887:=0
def tw6121877335210814671:=0
def tw1146532801917726959:=0
def tw3125943433334251823:=0
def tw7409647593625846127:=0
def tw7234694608283013487:=0
def tw13705341423880183183:=0
def tw14326564177878928815:=0
def tw3673067164736669135:=0
def tw3126194418585596431:=0
def tw11993361774737940015:=0
def tw4569890711327772495:=0
def tw734491648645973871:=0
def tw7474724089097475983:=0
def tw5130265918607995823:=0
def tw15192668472710169776:=0
def tw6501835513794213072:=0
def tw10648897016129173712:=0
def tw14270168191363302608:=0
def tw10518678824184765680:=0
def tw17387315255511369040:=0
def tw12698818177868131792:=0
def tw2096552311590947312:=0
def tw14736511725489932816:=0
def tw16009930160482905648:=0
def tw16650531321885675088:=0
def tw6053166453289051728:=0
def tw4556473321761526384:=0
def tw13577113808446438128:=0
def tw16085965211527758608:=0
def tw559150453398351664:=0
def tw18425229273208867632:=0
def tw7848488819240760144:=0
def tw4101296818035393392:=0
def tw4263900016722589552:=0
def tw697731842189020016:=0
def tw7755574544398903152:=0
def tw16332461978135466896:=0
def tw11307839629085053840:=0
def tw101753170841165712:=0
def tw423138355283864528:=0
def tw534699334078541776:=0
def tw11551815992669582288:=0
def tw8184991404421242832:=0
def tw7222124441932829745:=0
def tw17283385418290105553:=0
def tw12805872363869011185:=0
def tw12279209489123534097:=0
def tw10005496662048766225:=0
def tw5184464486513871153:=0
def tw7086027063772956977:=0
def tw939069498834576753:=0
def tw11178878233137884593:=0
def tw3069242245528701361:=0
def tw8568366899825958449:=0
def tw17244501787595592337:=0
def tw17583018241834899121:=0
def tw10878209898394251953:=0
def tw18145064209784471313:=0
def tw11894530570957957969:=0
def tw15859290365938547569:=0
def tw3264932562384199762:=0
def tw4994636334823777426:=0
def tw4587656977531793554:=0
def tw991169480437660818:=0
def tw3285658616854383794:=0
def tw14091362382688794802:=0
def tw15216903861047774386:=0
def tw13822193651756632338:=0
def tw1936282942228040978:=0
def tw17987233189922917650:=0
def tw11785358629877049682:=0
def tw7286466676514638258:=0
def tw8787070767990182418:=0
def tw15867673071141328402:=0
def tw3244557980452668946:=0
def tw17977601525811981906:=0
def tw9374780661523333746:=0
def tw16535158302764714610:=0
def tw8812841758637914738:=0
def tw11619054070754084498:=0
def tw9475303156694425234:=0
def tw41583625012199090:=0
def tw8543142945289126578:=0
def tw2027215571419035346:=0
def tw2825728574160141074:=0
def tw16557094020459724594:=0
def tw17551230211644530578:=0
def tw3467779423468180531:=0
def tw13792831184906245171:=0
def tw6321323497313490003:=0
def tw4425596384675005651:=0
def tw11369789190147256595:=0
def tw4312644704634508595:=0
def tw2775501460969371955:=0
def tw5136802628615060787:=0
def tw8068499056799502739:=0
def tw5835220026269122995:=0
def tw9200617731113194995:=0
def tw13224168495990199827:=0
def tw10416161364703080979:=0
def tw17676245501414940243:=0
def tw8493381519286179443:=0
def tw1239946684256205459:=0
def tw13014693437432711859:=0
def tw3654264462162352819:=0
def tw9864204221946372819:=0
def tw3676616029425999667:=0
def tw14720172110074954547:=0
def tw5850551286281595699:=0
def tw13927905323097033555:=0
def tw6897947547773346643:=0
def tw16193302606983238515:=0
def tw8772159114672285555:=0
def tw10623312669360358387:=0
def tw15988187108539085811:=0
def tw7156236085778270228:=0
def tw16845394300910661652:=0
def tw15926430569882692692:=0
def tw6767193731422095476:=0
def tw14059006986944648308:=0
def tw15926401324945211572:=0
def tw4241534287281643700:=0
def tw12804849824709750996:=0
def tw15527163293345277140:=0
def tw18053484819335038196:=0
def tw14590243415005065492:=0
def tw1357625088158601524:=0
def tw385057529640703284:=0
def tw8470895963341892948:=0
def tw13359412141003822484:=0
def tw9637617236623557140:=0
def tw2495766546250636820:=0
def tw13614211581565771284:=0
def tw10242616043196890644:=0
def tw4669503335345701396:=0
def tw18083705776786703988:=0
def tw4377402817773090452:=0
def tw6308544519198484148:=0
def tw2454073861205875412:=0
def tw3740536059853779700:=0
def tw7456813723440363252:=0
def tw4209052719149146900:=0
def tw17573402697001169684:=0
def tw4252257173572129652:=0
def tw7019897794425679732:=0
def tw2293741390543547348:=0
def tw14981021189649380373:=0
def tw8142085101715357813:=0
def tw16441892500381390965:=0
def tw16154141892479453333:=0
def tw8087001049572745365:=0
def tw314734814240030901:=0
def tw8461307138916975829:=0
def tw6409534127587558613:=0
def tw221663351619770581:=0
def tw7297321969928105173:=0
def tw1308411635597087989:=0
def tw13549939454579874037:=0
def tw11752776090309143797:=0
def tw13498697980178184437:=0
def tw11415300931654522165:=0
def tw11371098521759324469:=0
def tw12367231260400274741:=0
def tw5646879906077896021:=0
def tw7618350201214100917:=0
def tw5127538815499484629:=0
def tw12185628168939275797:=0
def tw17344435278932009493:=0
def tw11985556506422237749:=0
def tw10863030562892931637:=0
def tw13952251875371378229:=0
def tw1736302148126321333:=0
def tw10233832068678596277:=0
def tw3320338696908125877:=0
def tw5631447986315152053:=0
def tw1205870728258854613:=0
def tw883407288783304501:=0
def tw5253730155752567669:=0
def tw6180013104280787861:=0
def tw16654014639820405653:=0
def tw2431560541525936053:=0
def tw10283209476430650293:=0
def tw9633120290172148693:=0
def tw6202971294439669846:=0
def tw16339024677164746838:=0
def tw15290736183667365974:=0
def tw15538913670170260598:=0
def tw10092892693953547446:=0
def tw6445088613357246774:=0
def tw9221404703805538646:=0
def tw3671771909391490422:=0
def tw2560934442541797750:=0
def tw10984283839636025750:=0
def tw15553206249689507318:=0
def tw10654883683743048214:=0
def tw14866462880402697750:=0
def tw515475640784595510:=0
def tw4821196410411005494:=0
def tw6750210824556138070:=0
def tw6081412285299716758:=0
def tw6333471142543624950:=0
def tw13110258487280784118:=0
def tw2293668289469202198:=0
def tw18407109103461460758:=0
def tw13071620644831994742:=0
def tw14885049533404758902:=0
def tw10515225464819971990:=0
def tw11361738591917197238:=0
def tw16054076686447806422:=0
def tw16157346470041040886:=0
def tw16487168111113136151:=0
def tw16435859420533122103:=0
def tw8698524469063356503:=0
def tw9690462105973154967:=0
def tw626966886687466647:=0
def tw302987046939399351:=0
def tw10721988962673488055:=0
def tw8038296519204398295:=0
def tw13962967000141675767:=0
def tw9624764425390600471:=0
def tw469245585161925943:=0
def tw10260050489909469495:=0
def tw18382074512027528535:=0
def tw9242037742825579895:=0
def tw4702890552474721719:=0
def tw16621758082630731223:=0
def tw4637110230959907319:=0
def tw10890703591172644439:=0
def tw6486135641141291639:=0
def tw5519252577570817719:=0
def tw5641138863209406199:=0
def tw5627681672456504087:=0
def tw15976464913361601399:=0
def tw16180493171688904567:=0
def tw12913659480802306967:=0
def tw5669999519878077335:=0
def tw14709770356514443223:=0
def tw1526051554864505847:=0
def tw571211424471396343:=0
def tw16486608080070848536:=0
def tw10553798783956026424:=0
def tw16202170633850807384:=0
def tw5251669809915795736:=0
def tw7129455774905140536:=0
def tw13167730334470927704:=0
def tw4174094579442615672:=0
def tw17671415194003295608:=0
def tw9541254012892216856:=0
def tw7938630084236523096:=0
def tw3283012915327291992:=0
def tw11221547252700878456:=0
def tw13855475676681425528:=0
def tw12514360211481370360:=0
def tw2150798786945080088:=0
def tw18095697338763259704:=0
def tw17315025629732741976:=0
def tw11319289577046481880:=0
def tw18390397411318726681:=0
def tw11416041406093138009:=0
def tw11038158853856218265:=0
def tw5259355951558051065:=0
def tw6208439473086665177:=0
def tw14927130863511550425:=0
def tw587648997824864761:=0
def tw9430401220498577977:=0
def tw9339887868443904601:=0
def tw7500542611568911961:=0
def tw251310942888072889:=0
def tw1128212794382001881:=0
def tw11641689554505049913:=0
def tw15229842276647578521:=0
def tw11703581911161114585:=0
def tw11584641418153866201:=0
def tw13670987359546492954:=0
def tw8977109463031221306:=0
def tw191193594234713146:=0
def tw17939554676693351514:=0
def tw17086956073644179642:=0
def tw6074465604372915418:=0
def tw1436051630719619322:=0
def tw12738346441149453594:=0
def tw2183549265142653210:=0
def tw625176397607701818:=0
def tw9959719669548955130:=0
def tw12119498542879162874:=0
def tw10600555020845142522:=0
def tw8192005245982887450:=0
def tw8854522716661706298:=0
def tw5560451167390100058:=0
def tw5912067398008172122:=0
def tw14187222294920780410:=0
def tw17396347079690327706:=0
def tw4953846628084163226:=0
def tw12557444729750580890:=0
def tw18051587103224242970:=0
def tw9714331669868329754:=0
def tw863602532144567130:=0
def tw10463617485738515354:=0
def tw15863088833553744858:=0
def tw10968721609063157754:=0
def tw14042554815253947451:=0
def tw1749392826527423579:=0
def tw4707720180145605723:=0
def tw16051061461732230363:=0
def tw12350804289094160667:=0
def tw12189699489956121883:=0
def tw5529667032359530811:=0
def tw8341376799575586171:=0
def tw11064511425832556955:=0
def tw16648450072611696027:=0
def tw9967317048770059707:=0
def tw1184498672380001787:=0
def tw12012410348690116123:=0
def tw16546819728009333339:=0
def tw8640190389282572891:=0
def tw11224720413426738811:=0
def tw8237036985387798171:=0
def tw2528433618696030011:=0
def tw3199101213357551483:=0
def tw4783257583583780763:=0
def tw14025413617559588892:=0
def tw7039301358845389852:=0
def tw10271783743388015708:=0
def tw3930694453481483388:=0
def tw16766405816061430940:=0
def tw2288385537216508156:=0
def tw4887398893890531644:=0
def tw5384057854512370012:=0
def tw9436265788385559932:=0
def tw3547664077484227964:=0
def tw16538211724649039356:=0
def tw18210426560561919516:=0
def tw2283110205549827612:=0
def tw2250141135626976860:=0
def tw16406433100972379772:=0
def tw15547151366365137596:=0
def tw17236239689258818268:=0
def tw14761525082578542332:=0
def tw12652891882055502620:=0
def tw14865443046463594332:=0
def tw5091655559786665884:=0
def tw17879031023678211996:=0
def tw2228442446552753052:=0
def tw823147194161773500:=0
def tw3944867622987498460:=0
def tw11191194499765854301:=0
def tw5644392599923555421:=0
def tw2090425394042627197:=0
def tw6709137984118286461:=0
def tw15352607530368183453:=0
def tw12572836618024103165:=0
def tw16673762306910412061:=0
def tw4019769697056541021:=0
def tw2734364849208922525:=0
def tw10976861912453413309:=0
def tw8529629394226871773:=0
def tw677902197165744637:=0
def tw6701107922331862589:=0
def tw10801049173107751485:=0
def tw531970278445120093:=0
def tw13054211594193696381:=0
def tw17862892676310537885:=0
def tw11096751757118446333:=0
def tw8635145105411229469:=0
def tw9706019583132032829:=0
def tw17876631149098107741:=0
def tw17139324223262388093:=0
def tw7012802502822468509:=0
def tw5384154408979360669:=0
def tw9161720825746308029:=0
def tw12222605329820610557:=0
def tw12864497271054452766:=0
def tw2525965272764944446:=0
def tw7172585017050558590:=0
def tw4018963389647397054:=0
def tw13531701943034716414:=0
def tw6040404797227744574:=0
def tw2699067674806076734:=0
def tw16642345951749800286:=0
def tw180106970521777502:=0
def tw8732329206034657630:=0
def tw12469108216595623294:=0
def tw14682775689342429630:=0
def tw9445658037551319518:=0
def tw18024954189863113182:=0
def tw11173063486586519038:=0
def tw1860505044978292254:=0
def tw4437920731524628030:=0
def tw1344774709540112990:=0
def tw10399872055063415454:=0
def tw2205305554127778654:=0
def tw9230375726515166110:=0
def tw1201377698239537054:=0
def tw13039536266778237886:=0
def tw1471298006204697566:=0
def tw17333041542963378271:=0
def tw4566713850651103327:=0
def tw6987250278074296447:=0
def tw3953409240481450143:=0
def tw14879725793954127039:=0
def tw3279793611037305023:=0
def tw14605071839571908895:=0
def tw5137783413882304831:=0
def tw15157278032786939199:=0
def tw12981698920665475391:=0
def tw16449929379378654687:=0
def tw675105292058008063:=0
def tw2737846778892442175:=0
def tw10545481859831641695:=0
def tw13541147258691995295:=0
def tw13538475747502465727:=0
def tw8398633272530479807:=0
def tw15510249705464897247:=0
def tw3306774206138862303:=0
def tw16324880236324593407:=0
def tw4530273670637484799:=0
def tw13299414221699055455:=0
def tw8187443906905330591:=0
def tw5810559174342385599:=0
def tw10472923779846106005:=0
end PySem.W.Fast
set_option Elab.async false
set_option linter.all false
set_option maxRecDepth 100000
set_option maxHeartbeats 4000000
namespace My
open PySem L2 L2.MM
noncomputable section
def ZdQ:SM:=(mIf (ZF (mOp eqM (mOp Zaa (mCB zZ (Zc (Zd 0) (Zc (mC (.int 15)) Zk))) (mC (.int 2))) (mC (.int 0)))) (zw (mCB ZdY (Zc (Zd 2) Zk))) ZK)
def ZiY:SM:=(Zgk (mIn (mCB ZcM (Zc (Zd 2) (Zc (mC (.int 5)) Zk)))) (gNm 8) (ZS 7 (mOp ZX (mOp ZX (Zd 7) (mCB Zdc (Zc (mOp ixM (Zd 8) (mC (.int 7))) Zk))) (mOp Zaa (mOp ixM (Zd 8) (mC (.int 4))) (mC (.int 2))))))
def Zfb:SM:=(mIf (ZF (mOp gtM (mOp Zaa (mCB zZ (Zc (Zd 0) (Zc (mC (.int 16)) Zk))) (mC (.int 3))) (mC (.int 0)))) ZiY ZK)
def ZgB:SM:=(mIf (mOr (ZF (mOp Zd6 (mCB Ze3 (Zc (Zd 2) Zk)) (mC (.bl true)))) (mOr (ZF (mOp neM (mCB ZfG (Zc (Zd 2) Zk)) (mC (.str "closed")))) (mOr (ZF (mOp neM (mCB ZfI (Zc (Zd 2) Zk)) (mC (.str "")))) (ZF (mOp Zd6 (mCB Ze3 (Zc (Zd 2) Zk)) (mC (.bl false))))))) (ZJ (mC (.bl false))) ZK)
def ZgA:SM:=(mIf (mOr (ZF (mOp neM (mCB ZcM (Zc (Zd 2) (Zc (mC (.int 6)) Zk))) (Zcr (Zc (Zd 9) Zk)))) (mOr (ZF (mOp neM (mCB Zbz (Zc (Zd 2) (Zc (Zcr (Zc (mC (.int 1)) Zk)) Zk))) (mC (.int 0)))) (ZF (mOp Zd6 (mCB ZdY (Zc (Zd 2) Zk)) (mC (.bl false)))))) (ZJ (mC (.bl false))) ZK)
def Zgz:SM:=(mIf (mOr (ZF (mOp neM (mCB ZdW (Zc (Zd 2) (Zc (mC (.int 100)) Zk))) (Zd 5))) (ZF (mOp neM (mCB ZdW (Zc (Zd 2) (Zc (mC (.int 100)) Zk))) (Zcr Zk)))) (ZJ (mC (.bl false))) ZK)
def Zgy:SM:=(mIf (ZF (mOp Zd6 (mCB zQ (Zc (Zd 2) (Zc (mCB ZbV (Zc (Zd 6) Zk)) (Zc (mC (.int 7)) Zk)))) (mC (.bl true)))) (ZJ (mC (.bl false))) ZK)
def ZdP:SM:=(mIf (ZF (mOp eqM (mOp ixM (Zd 6) (mC (.int 4))) (mC (.int 0)))) (ZS 12 (zM (Zc (mOp ixM (Zd 3) (mC (.int 0))) (Zc (Zd 10) (Zc (mC (.int 0)) (Zc (mCB ZcB (Zc (mOp ixM (Zd 6) (mC (.int 2))) (Zc (mCB Zdc (Zc (mOp ixM (Zd 6) (mC (.int 7))) Zk)) Zk))) (Zc (mC (.int 20)) (Zc (mC (.int 0)) (Zc (mC (.int 0)) (Zc (zM Zk) Zk)))))))))) ZK)
def Zna:SM:=(Zp (ZS 1 (mCB Zc2 (Zc (Zd 0) (Zc (mC (.int 0)) (Zc (mC (.int 20)) (Zc (mC (.int 16)) Zk))))))
  (Zp (ZS 2 (mOp ixM (Zd 1) (mC (.int 0))))
  (Zp (ZS 3 (mOp ixM (Zd 1) (mC (.int 1))))
  (Zp (ZS 4 (Zdi (ZdG (Zc (mOp Zaa (mCB zZ (Zc (Zd 0) (Zc (mC (.int 11)) Zk))) (mC (.int 40))) Zk)) [0] (mOp Zaa (mCB zZ (Zc (Zd 1) (Zc (mOp ZX (mC (.int 10)) (Zd 0)) Zk))) (mC (.int 256)))))
  (Zp (ZS 5 (Zdi (ZdG (Zc (mOp Zaa (mCB zZ (Zc (Zd 0) (Zc (mC (.int 13)) Zk))) (mC (.int 17))) Zk)) [0] (mOp Zaa (mCB zZ (Zc (Zd 1) (Zc (mOp ZX (mC (.int 12)) (Zd 0)) Zk))) (mC (.int 256)))))
  (Zp (zw (mCB Zbz (Zc (Zd 2) (Zc (Zd 4) Zk))))
  (Zp (ZS 6 (mCB ZcR (Zc (Zd 3) (Zc (mOp ixM (Zd 1) (mC (.int 3))) (Zc (mOp ixM (Zd 1) (mC (.int 2))) (Zc (mOp ZX (mC (.int 16)) (mOp Zaa (mCB zZ (Zc (Zd 0) (Zc (mC (.int 14)) Zk))) (mC (.int 2)))) (Zc (mC (.int 20)) (Zc (Zd 5) Zk))))))))
  (Zp (zw (mCB zQ (Zc (Zd 2) (Zc (mCB ZbV (Zc (Zd 6) Zk)) (Zc (mC (.int 5)) Zk)))))
  (Zp ZdQ
  (Zp (ZS 7 (mC (.int 0)))
  (Zp Zfb
  (Zp ZgB
  (Zp (ZS 9 (zM (Zc (mOp ixM (Zd 3) (mC (.int 0))) (Zc (mOp ixM (Zd 3) (mC (.int 1))) (Zc (mCB ZcB (Zc (mOp ixM (Zd 1) (mC (.int 2))) (Zc (Zd 7) Zk))) (Zc (mC (.int 0)) (Zc (mC (.int 4)) (Zc (mC (.int 0)) (Zc (mC (.int 0)) (Zc (zM Zk) Zk))))))))))
  (Zp ZgA
  (Zp Zgz
  (Zp (ZS 10 (mOp Zaa (mCB zZ (Zc (Zd 0) (Zc (mC (.int 17)) Zk))) (mC (.int 65536))))
  (Zp (ZS 11 (mOp ZbT (zM (Zc (mC (.int 1)) Zk)) (mOp Zaa (mCB zZ (Zc (Zd 0) (Zc (mC (.int 20)) Zk))) (mC (.int 3)))))
  (Zp (ZS 6 (zM (Zc (Zd 10) (Zc (mOp ixM (Zd 3) (mC (.int 0))) (Zc (mCB zZ (Zc (Zd 0) (Zc (mC (.int 18)) Zk))) (Zc (mC (.int 77)) (Zc (mOp ZbT (mOp Zaa (mCB zZ (Zc (Zd 0) (Zc (mC (.int 19)) Zk))) (mC (.int 2))) (mC (.int 16))) (Zc (mC (.int 5)) (Zc (mC (.int 0)) (Zc (Zd 11) Zk))))))))))
  (Zp Zgy
  (Zp (ZS 12 (zM (Zc (mOp ixM (Zd 3) (mC (.int 0))) (Zc (Zd 10) (Zc (mC (.int 77)) (Zc (mC (.int 0)) (Zc (mC (.int 4)) (Zc (mC (.int 0)) (Zc (mC (.int 0)) (Zc (zM Zk) Zk))))))))))
  (Zp ZdP
  (ZJ (mOp eqM (mCB ZcM (Zc (Zd 2) (Zc (mC (.int 7)) Zk))) (Zcr (Zc (Zd 12) Zk)))))))))))))))))))))))))
def Zli:GM:=ZM 1 13 Zna
theorem ZmN {n:Nat} {F:Nat→Int} (h:∀i,0≤F i∧F i≤255):∀z∈(List.range n).map F,0≤z∧z≤255:=by
  intro z hz
  obtain ⟨i,_,rfl⟩:=List.mem_map.mp hz
  exact h i
abbrev ZgI (a b f g:Int):D:=.tup [.ref 0,.tup [.int a,.int b],.int (ZA f 1),.int (ZA g 1)]
def q1 (dat:List Int):Q:={ qO 20 16 0 with written:=dat,beh:=1+dat.length }
def q2 (dat gv:List Int) (fl:Int):Q:=if fl=17 then { qIn (q1 dat) (1+gv.length+1) gv true with st:=.closeWait } else qIn (q1 dat) (1+gv.length) gv false
def q3 (dat gv:List Int) (fl:Int) (c:Bool):Q:=if c=true then { q2 dat gv fl with st:=if fl=17 then .lastAck else .waitOne,cl:=true } else q2 dat gv fl
section
variable {a b f g:Int} {ns:List Int} {B:Sto} {dat gv:List Int} {fl:Int}
theorem wf1 (hd:(∀z∈dat,0≤z∧z≤255)∧dat.length≤40):WF (q1 dat):=⟨by simp [q1,qO],by simp [q1,qO]; omega,by simp [q1,qO]; omega,by simp [q1,qO],by simp [q1,qO],by simp [q1,qO],hd.1⟩
theorem Zk3 (hg:gv.length≤16) (hf:fl=16∨fl=17):(q2 dat gv fl).come=gv∧(q2 dat gv fl).cl=false∧(q2 dat gv fl).st=(if fl=17 then .closeWait else .opn)∧(q2 dat gv fl).una=1∧(q2 dat gv fl).nxt=1∧(q2 dat gv fl).beh=1+dat.length∧(q2 dat gv fl).written=dat∧(q2 dat gv fl).wnd=20∧(q2 dat gv fl).most=16∧(q2 dat gv fl).pr=false:=by
  unfold q2
  rcases hf with rfl | rfl
  · simp [qIn,q1,qO]
  · simp [qIn,q1,qO]
theorem ZpB (c:Bool) (hg:gv.length≤16) (hf:fl=16∨fl=17):(q3 dat gv fl c).come=gv∧(q3 dat gv fl c).st∈[State.opn,.waitOne,.closeWait,.lastAck]∧(q3 dat gv fl c).una=1∧(q3 dat gv fl c).nxt=1∧(q3 dat gv fl c).beh=1+dat.length∧(q3 dat gv fl c).written=dat∧(q3 dat gv fl c).wnd=20∧(q3 dat gv fl c).most=16∧(q3 dat gv fl c).pr=false:=by
  obtain ⟨h1,h2,h3,h4,h5,h6,h7,h8,h9,h10⟩:=Zk3 (dat:=dat) (gv:=gv) (fl:=fl) hg hf
  unfold q3
  cases c
  · refine ⟨h1,?_,h4,h5,h6,h7,h8,h9,h10⟩
    show (q2 dat gv fl).st∈_
    rw [h3]
    rcases hf with rfl | rfl<;>simp
  · refine ⟨h1,?_,h4,h5,h6,h7,h8,h9,h10⟩
    rcases hf with rfl | rfl<;>simp
theorem Zsi (c:Bool) (hg:gv.length≤16) (hf:fl=16∨fl=17):ZeK (qE a b f g (q2 dat gv fl))=(true,qE a b f g (q3 dat gv fl true)):=by
  obtain ⟨h1,h2,h3,_⟩:=Zk3 (dat:=dat) (gv:=gv) (fl:=fl) hg hf
  have hs:(qE a b f g (q2 dat gv fl)).state=if fl=17 then .closeWait else .opn:=h3
  have hc:(qE a b f g (q2 dat gv fl)).has_closed=false:=h2
  unfold ZeK
  rw [hs,hc]
  rcases hf with rfl | rfl
  · simp [q3,qE]
  · simp [q3,qE]
end
def Zpx:SM:=Zp ZgB
  (Zp (ZS 9 (zM (Zc (mOp ixM (Zd 3) (mC (.int 0))) (Zc (mOp ixM (Zd 3) (mC (.int 1))) (Zc (mCB ZcB (Zc (mOp ixM (Zd 1) (mC (.int 2))) (Zc (Zd 7) Zk))) (Zc (mC (.int 0)) (Zc (mC (.int 4)) (Zc (mC (.int 0)) (Zc (mC (.int 0)) (Zc (zM Zk) Zk))))))))))
  (Zp ZgA
  (Zp Zgz
  (Zp (ZS 10 (mOp Zaa (mCB zZ (Zc (Zd 0) (Zc (mC (.int 17)) Zk))) (mC (.int 65536))))
  (Zp (ZS 11 (mOp ZbT (zM (Zc (mC (.int 1)) Zk)) (mOp Zaa (mCB zZ (Zc (Zd 0) (Zc (mC (.int 20)) Zk))) (mC (.int 3)))))
  (Zp (ZS 6 (zM (Zc (Zd 10) (Zc (mOp ixM (Zd 3) (mC (.int 0))) (Zc (mCB zZ (Zc (Zd 0) (Zc (mC (.int 18)) Zk))) (Zc (mC (.int 77)) (Zc (mOp ZbT (mOp Zaa (mCB zZ (Zc (Zd 0) (Zc (mC (.int 19)) Zk))) (mC (.int 2))) (mC (.int 16))) (Zc (mC (.int 5)) (Zc (mC (.int 0)) (Zc (Zd 11) Zk))))))))))
  (Zp Zgy
  (Zp (ZS 12 (zM (Zc (mOp ixM (Zd 3) (mC (.int 0))) (Zc (Zd 10) (Zc (mC (.int 77)) (Zc (mC (.int 0)) (Zc (mC (.int 4)) (Zc (mC (.int 0)) (Zc (mC (.int 0)) (Zc (zM Zk) Zk))))))))))
  (Zp ZdP
  (ZJ (mOp eqM (mCB ZcM (Zc (Zd 2) (Zc (mC (.int 7)) Zk))) (Zcr (Zc (Zd 12) Zk)))))))))))))
theorem Zpy {a b f g:Int} {ns:List Int} {B:Sto} {gv:List Int} {q:Q} {sent:Int} {x1 x4 x6 x8:Sl} (hl:0+3<B.length) (ra:0≤a∧a≤65535) (rb:0≤b∧b≤65535) (hg:gv.length≤16) (hc:q.come=gv) (hs:q.st∈[State.opn,.waitOne,.closeWait,.lastAck]) (hn:q.nxt=1+sent) :
    ∃ρ θ',Zpx
  [.val (.scr ns),.val (ZgI a b f g),.val (.ref 0),.val (.tup [.int a,.int b]),x4,.val (il gv),x6,.val (.int sent),x8,.no,.no,.no,.no] (upE B 0 (qE a b f g q))=.ok (.rt (.bl true),ρ) θ':=by
  have hnc:¬q.st=.closed:=by intro z; rw [z] at hs; simp at hs
  have ab1:Zfu (qE a b f g q)=(true,{ qE a b f g q with owed_reset:=some ⟨a,b,ZA f q.nxt,0,4,0,0,[]⟩,state:=.closed }):=by
    have hst:(qE a b f g q).state=q.st:=rfl
    unfold Zfu
    rw [hst,if_neg hnc,if_neg (by intro z; rcases z with z | z | z<;>(rw [z] at hs; simp at hs))]
    rfl
  obtain ⟨e1,he1⟩:∃e:Zs,e={ qE a b f g q with owed_reset:=some ⟨a,b,ZA f q.nxt,0,4,0,0,[]⟩,state:=.closed }:=⟨_,rfl⟩
  have t1:=Zmq (θ:=B) (l:=0) (e:=qE a b f g q) hl
  rw [ab1,←he1] at t1
  have s1:e1.state=.closed:=by rw [he1]
  have r1:e1.error=.none:=by rw [he1]; rfl
  have o1:e1.owed_reset=some ⟨a,b,ZA f q.nxt,0,4,0,0,[]⟩:=by rw [he1]
  have t2:=Zmq (θ:=B) (l:=0) (e:=e1) hl
  rw [show Zfu e1=(false,e1) by unfold Zfu; rw [if_pos s1]] at t2
  obtain ⟨e2,he2⟩:∃e:Zs,e={ e1 with owed_reset:=none }:=⟨_,rfl⟩
  have s2:e2.state=.closed:=by rw [he2]; exact s1
  have o2:e2.owed_reset=none:=by rw [he2]
  have c2:e2.come=gv:=by rw [he2,he1]; exact hc
  have rk:(Seg.mk a b (ZA f q.nxt) 0 4 0 0 []).Ok:=ZeB ra rb (ZaU _ _) (by omega) (by omega) (by omega) (.inl rfl) Zdh
  have go1:zR e1 6=(some ⟨a,b,ZA f q.nxt,0,4,0,0,[]⟩,e2):=by rw [he2]; exact Zlp o1
  have g1:=Zi3 (θ:=B) (l:=0) (t:=6) hl (.cons go1 rk (.nil (ZiL o2 s2))) (by simp)
  have nn:∀θ,neM (.lst ([Seg.mk a b (ZA f q.nxt) 0 4 0 0 []].map Seg.d)) (.lst ([Seg.mk a b (ZA f q.nxt) 0 4 0 0 []].map Seg.d)) θ=.ok (.bl false) θ:=fun θ=>by rw [ZrU]; simp
  simp only [List.map_cons,List.map_nil] at nn g1
  have cw:Zc3 e2=false:=by unfold Zc3; rw [s2]; simp
  have w2:e2.written.length≤64∨True:=.inr trivial
  have tw:Zbz [.ref 0,il [1]] (upE B 0 e2)=.ok (.int 0) (upE B 0 e2):=by
    by_cases h:e2.has_closed=true
    · simp [Zbz,ZcS,ZbL,hl,h]
    · simp [Zbz,ZcS,ZbL,hl,h,s2]
  have t3:=Zmp (θ:=B) (l:=0) (e:=e2) hl
  rw [show ZeK e2=(false,e2) by unfold ZeK; by_cases h:e2.has_closed=true<;>simp [h,s2]] at t3
  have t4:=Zpn (θ:=B) (l:=0) (e:=e2) (n:=100) hl
  obtain ⟨e3,he3⟩:∃e:Zs,e=Zhz e2 100:=⟨_,rfl⟩
  have re:Zhz e2 100={ e2 with come:=[] }:=by
    have hd:e2.come.drop (100:Int).toNat=[]:=by rw [c2]; exact List.drop_eq_nil_of_le (by omega)
    unfold Zhz
    rw [hd,if_neg (by intro z; have:=z.1; unfold ZL at this; rw [c2] at this; omega)]
  have tk:e2.come.take (100:Int).toNat=gv:=by rw [c2]; exact List.take_of_length_le (by omega)
  rw [tk,←he3] at t4
  rw [re] at he3
  have s3:e3.state=.closed:=by rw [he3]; exact s2
  have o3:e3.owed_reset=none:=by rw [he3]; exact o2
  have c3:e3.come=[]:=by rw [he3]
  have u3:e3.ours=a:=by rw [he3,he2,he1]; rfl
  have y3:e3.early=[]:=by rw [he3,he2,he1]; rfl
  have t5:=Zpn (θ:=B) (l:=0) (e:=e3) (n:=100) hl
  have re3:Zhz e3 100=e3:=by
    unfold Zhz
    rw [if_neg (by intro z; have:=z.1; unfold ZL at this; rw [c3] at this; simp at this)]
    obtain ⟨⟩:=e3
    simp only at c3
    subst c3
    rfl
  rw [re3,c3] at t5
  simp only [List.take_nil] at t5
  obtain ⟨port,hport⟩:∃x,x=mix ns 17 % 65536:=⟨_,rfl⟩
  obtain ⟨nm,hnm⟩:∃x,x=mix ns 18:=⟨_,rfl⟩
  obtain ⟨k19,hk19⟩:∃x,x=mix ns 19 % 2:=⟨_,rfl⟩
  obtain ⟨k20,hk20⟩:∃x,x=mix ns 20 % 3:=⟨_,rfl⟩
  have rp:0≤port∧port≤65535:=by omega
  have rn:0≤nm∧nm≤4294967295:=by have:=ZlY ns 18; omega
  obtain ⟨on,hon⟩:∃x,x=List.replicate k20.toNat (1:Int):=⟨_,rfl⟩
  have ron:(∀z∈on,0≤z∧z≤255)∧on.length≤16:=by
    rw [hon]
    exact ⟨fun z hz=>by have:=List.eq_of_mem_replicate hz; omega,by simp; omega⟩
  have fl2:(List.replicate k20.toNat [(1:Int)]).flatten=on:=by rw [Zpz,hon]
  have rep:D.tup [.int 1]=itp [1]:=rfl
  have ks:(Seg.mk port a nm 77 (k19*16) 5 0 on).Ok:=ZeB rp ra rn (by omega) (by omega) (by omega) (.inl rfl) ron
  have bs:=fun θ=>Zfx ks θ
  obtain ⟨s,hs0⟩:∃s:Seg,s=⟨port,a,nm,77,k19*16,5,0,on⟩:=⟨_,rfl⟩
  have ar:=ZcK (θ:=B) (l:=0) (e:=e3) (s:=s) (now:=7) hl (by rw [c3]; simp) (hs0 ▸ ks) (by unfold ZeF; rw [s3,u3,hs0]; simp) (by rw [y3]; simp)
  have b4:bears s 4=false:=by
    rw [hs0]
    have:k19=0∨k19=1:=by omega
    rcases this with h | h<;>rw [h]<;>simp
  have cm:Zdl e3 s 7={ e3 with owed_reset:=some (ZbR s) }:=by
    have c0:Zdl e3 s 7=ZaH e3 s:=by unfold Zdl; rw [s3]
    rw [c0]
    unfold ZaH
    rw [if_neg (by rw [b4]; decide)]
  obtain ⟨e4,he4⟩:∃e:Zs,e={ e3 with owed_reset:=some (ZbR s) }:=⟨_,rfl⟩
  rw [cm,←he4] at ar
  have o4:e4.owed_reset=some (ZbR s):=by rw [he4]
  obtain ⟨due,hdue⟩:∃d:Seg,d=if k19=0 then ⟨a,port,0,ZA nm on.length,20,0,0,[]⟩ else ⟨a,port,77,0,4,0,0,[]⟩:=⟨_,rfl⟩
  have rs:ZbR s=due:=by
    rw [hdue]
    unfold ZbR
    have:k19=0∨k19=1:=by omega
    rcases this with h | h
    · rw [hs0,h]; simp
    · rw [hs0,h]; simp
  have dk:due.Ok:=by
    rw [hdue]
    split
    · exact ZeB ra rp (by omega) (ZaU _ _) (by omega) (by omega) (.inl rfl) Zdh
    · exact ZeB ra rp (by omega) (by omega) (by omega) (by omega) (.inl rfl) Zdh
  have go4:zR e4 7=(some due,e3):=by
    rw [Zlp o4,rs,he4]
    congr 1
    obtain ⟨⟩:=e3
    simp only at o3
    subst o3
    rfl
  have g4:=Zi3 (θ:=B) (l:=0) (t:=7) hl (.cons go4 dk (.nil (ZiL o3 s3))) (by simp)
  have ee:∀θ,eqM (.lst ([due].map Seg.d)) (.lst ([due].map Seg.d)) θ=.ok (.bl true) θ:=fun θ=>by rw [Zsb]; simp
  simp only [List.map_cons,List.map_nil] at ee g4
  have pn:ZA (ZA f 1) sent=ZA f q.nxt:=by rw [Za2,hn]
  have m2:∀θ:Sto,ixM (ZgI a b f g) (.int 2) θ=.ok (.int (ZA f 1)) θ:=fun θ=>rfl
  have seg8:D.tup [.int port,.int a,.int nm,.int 77,.int (k19*16),.int 5,.int 0,itp on]=s.d:=by rw [hs0]; rfl
  rw [←hs0] at bs
  have mb:Zeq k19 16:=.inr (by omega)
  have sn:s.num=nm:=by rw [hs0]
  have sd:s.data=on:=by rw [hs0]
  have sf:s.flags=k19*16:=by rw [hs0]
  have L8:∀(x0 x1 x2 x4 x5 x7 x8 x9 x11:Sl) θ,ZdP [x0,x1,x2,.val (.tup [.int a,.int b]),x4,x5,.val s.d,x7,x8,x9,.val (.int port),x11,.val (Seg.mk a port 77 0 4 0 0 []).d] θ=.ok (.nx,[x0,x1,x2,.val (.tup [.int a,.int b]),x4,x5,.val s.d,x7,x8,x9,.val (.int port),x11,.val due.d]) θ:=by
    intros
    rw [hdue]
    have:k19=0∨k19=1:=by omega
    rcases this with h | h
    · simp [ZdP,sf,h,sn,sd,Zfm]
    · simp [ZdP,sf,h]
  obtain ⟨md,hmd⟩:∃x,x=ZgI a b f g:=⟨_,rfl⟩
  rw [←hmd]
  simp only [←hmd] at m2
  refine ⟨[.val (.scr ns),.val md,.val (.ref 0),.val (.tup [.int a,.int b]),x4,.val (il gv),.val s.d,.val (.int sent),x8,.val (Seg.mk a b (ZA f q.nxt) 0 4 0 0 []).d,.val (.int port),.val (itp on),.val due.d],upE B 0 e3,?_⟩
  simp [Zpx,ZgB,hl,t1,s1,r1,t2,m2,pn,Zfm,ZgA,g1,nn,tw,t3,Zgz,t4,t5,ZcC,←hport,←hk20,←hnm,←hk19,rep,fl2,show k20<1000 by omega,show k20≤1000 by omega,show 0≤k20 by omega,mb,seg8,Zgy,bs,ar,L8,g4,ee]
theorem law_true (ns:List Int) (hn:ns.length≤63):∃θ',Zli [.scr ns] []=.ok (.bl true) θ':=by
  obtain ⟨a,ha⟩:∃x,x=mix ns 0 % 65536:=⟨_,rfl⟩
  obtain ⟨b,hb⟩:∃x,x=mix ns 1 % 65536:=⟨_,rfl⟩
  obtain ⟨f,hf⟩:∃x,x=Zbm (mix ns 2):=⟨_,rfl⟩
  obtain ⟨g,hg⟩:∃x,x=Zbm (mix ns 3):=⟨_,rfl⟩
  have ra:0≤a∧a≤65535:=by omega
  have rb:0≤b∧b≤65535:=by omega
  have lo:=Znf (ns:=ns) (base:=0) (W:=20) (m:=16) [] (by omega) (.inr (by omega))
  simp only [Int.zero_add,←ha,←hb,←hf,←hg,List.length_nil,List.nil_append] at lo
  have eo:Zdg a b f g 20 16 0=qE a b f g (qO 20 16 0):=by simp [Zdg,qE,qO,newEnd]
  rw [eo] at lo
  obtain ⟨B,hB⟩:∃y,y=cells 0 (qE a b f g (qO 20 16 0)):=⟨_,rfl⟩
  have hl:0+3<B.length:=by rw [hB]; simp [cells]
  have up:B=upE B 0 (qE a b f g (qO 20 16 0)):=by rw [hB]; exact ZqN _
  rw [←hB,up] at lo
  obtain ⟨dat,hdat⟩:∃x,x=(List.range (mix ns 11 % 40).toNat).map fun (k:Nat)=>mix ns (10+(k:Int)) % 256:=⟨_,rfl⟩
  obtain ⟨gv,hgv⟩:∃x,x=(List.range (mix ns 13 % 17).toNat).map fun (k:Nat)=>mix ns (12+(k:Int)) % 256:=⟨_,rfl⟩
  obtain ⟨fl,hfl⟩:∃x,x=16+mix ns 14 % 2:=⟨_,rfl⟩
  have rd:(∀z∈dat,0≤z∧z≤255)∧dat.length≤40:=by rw [hdat]; exact ⟨ZmN fun i=>by omega,by simp; omega⟩
  have rgv:(∀z∈gv,0≤z∧z≤255)∧gv.length≤16:=by rw [hgv]; exact ⟨ZmN fun i=>by omega,by simp; omega⟩
  have rfl':fl=16∨fl=17:=by omega
  have cd:=fun ρ (h0:ρ[0]?=some (Sl.val (D.scr ns))) θ=>Zly (nE:=mOp Zaa (mCB zZ (Zc (Zd 0) (Zc (mC (.int 11)) Zk))) (mC (.int 40))) (src:=[0]) (elt:=mOp Zaa (mCB zZ (Zc (Zd 1) (Zc (mOp ZX (mC (.int 10)) (Zd 0)) Zk))) (mC (.int 256))) (ρ:=ρ) (θ:=θ) (j:=mix ns 11 % 40) (fun k=>mix ns (10+(k:Int)) % 256) (by simp [h0]) (by omega) (by omega) (by intro i hi; simp [h0])
  have cg:=fun ρ (h0:ρ[0]?=some (Sl.val (D.scr ns))) θ=>Zly (nE:=mOp Zaa (mCB zZ (Zc (Zd 0) (Zc (mC (.int 13)) Zk))) (mC (.int 17))) (src:=[0]) (elt:=mOp Zaa (mCB zZ (Zc (Zd 1) (Zc (mOp ZX (mC (.int 12)) (Zd 0)) Zk))) (mC (.int 256))) (ρ:=ρ) (θ:=θ) (j:=mix ns 13 % 17) (fun k=>mix ns (12+(k:Int)) % 256) (by simp [h0]) (by omega) (by omega) (by intro i hi; simp [h0])
  simp only [←hdat] at cd
  simp only [←hgv] at cg
  have wr:=Zrb (θ:=B) (l:=0) (e:=qE a b f g (qO 20 16 0)) hl (by simp [qE,qO]) dat
  have cw:Zc3 (qE a b f g (qO 20 16 0))=true:=by simp [Zc3,qE,qO]
  have wo:Zik (qE a b f g (qO 20 16 0)) dat=dat:=by
    unfold Zik
    exact Zm0 (by simp [qE,qO]; omega)
  have we:Zi2 (qE a b f g (qO 20 16 0)) dat=qE a b f g (q1 dat):=by
    unfold Zi2
    rw [cw,wo]
    simp [qE,qO,q1,Za2]
  rw [we,cw,wo] at wr
  simp only [if_true] at wr
  have w1:=wf1 rd
  have ks:(Seg.mk b a (ZA g 1) (ZA f 1) fl 20 0 gv).Ok:=ZeB rb ra (ZaU _ _) (ZaU _ _) (by omega) (by omega) (.inl rfl) rgv
  have bs:=fun θ=>Zfx ks θ
  have ar:=ZcK (θ:=B) (l:=0) (e:=qE a b f g (q1 dat)) (now:=5) hl (by simp [qE,q1,qO]) ks (by simp [ZeF,qE,q1,qO]) (by simp [qE])
  have cm:Zdl (qE a b f g (q1 dat)) ⟨b,a,ZA g 1,ZA f 1,fl,20,0,gv⟩ 5=qE a b f g (q2 dat gv fl):=by
    have:=ZnK (a:=a) (b:=b) (f:=f) (g:=g) (t:=5) (q:=q1 dat) (fl:=fl) (x:=gv) w1 rfl rfl' rgv.2 (by simp [q1,qO]; omega) rfl rfl rfl (by simp [q1,qO]) (by simp [q1,qO]; omega) (by simp [q1,qO])
    exact this
  rw [cm] at ar
  have m2:∀θ:Sto,ixM (ZgI a b f g) (.int 2) θ=.ok (.int (ZA f 1)) θ:=fun θ=>rfl
  have m3:∀θ:Sto,ixM (ZgI a b f g) (.int 3) θ=.ok (.int (ZA g 1)) θ:=fun θ=>rfl
  have m0:∀θ:Sto,ixM (ZgI a b f g) (.int 0) θ=.ok (.ref 0) θ:=fun θ=>rfl
  have m1:∀θ:Sto,ixM (ZgI a b f g) (.int 1) θ=.ok (.tup [.int a,.int b]) θ:=fun θ=>rfl
  obtain ⟨c,hc⟩:∃c,c=decide (mix ns 15 % 2=0):=⟨_,rfl⟩
  have tc:=Zmp (θ:=B) (l:=0) (e:=qE a b f g (q2 dat gv fl)) hl
  rw [Zsi true rgv.2 rfl'] at tc
  have L1:∀(x1 x3 x4 x5 x6 x7 x8 x9 x10 x11 x12:Sl),ZdQ [.val (.scr ns),x1,.val (.ref 0),x3,x4,x5,x6,x7,x8,x9,x10,x11,x12] (upE B 0 (qE a b f g (q2 dat gv fl)))=.ok (.nx,[.val (.scr ns),x1,.val (.ref 0),x3,x4,x5,x6,x7,x8,x9,x10,x11,x12]) (upE B 0 (qE a b f g (q3 dat gv fl c))):=by
    intros
    by_cases h:mix ns 15 % 2=0
    · rw [show c=true by rw [hc]; simp [h]]
      simp [ZdQ,h,tc]
    · rw [show c=false by rw [hc]; simp [h]]
      simp [ZdQ,h]
      rfl
  obtain ⟨f1,f2,f3,f4,f5,f6,f7,f8,f9⟩:=ZpB (dat:=dat) (gv:=gv) (fl:=fl) c rgv.2 rfl'
  obtain ⟨q,hq⟩:∃q,q=q3 dat gv fl c:=⟨_,rfl⟩
  rw [←hq] at f1 f2 f3 f4 f5 f6 f7 f8 f9
  simp only [←hq] at L1
  have wq:WF q:=⟨by omega,by omega,by rw [f6]; omega,by omega,by omega,by rw [f1]; omega,by rw [f6]; exact rd.1⟩
  have cq:CalmQ q 5:=⟨by intro z; simp only [List.mem_cons,List.not_mem_nil,or_false] at f2 z; rcases f2 with h | h | h | h<;>rw [h] at z<;>simp at z,fun z=>by rw [z] at f2; simp at f2,fun z=>absurd (f4.trans f3.symm) z⟩
  have gv5:=Zjl (t:=5) (a:=a) (b:=b) (f:=f) (g:=g) ra rb 60 q wq cq f9 (by omega) (.inr (.inl (by omega)))
  obtain ⟨kp,adv,wq',ln⟩:=ZhP (a:=a) (b:=b) (f:=f) (g:=g) (t:=5) 60 q wq
  obtain ⟨segs,hsegs⟩:∃x,x=(Zcv a b f g 5 60 q).1:=⟨_,rfl⟩
  obtain ⟨q',hq'⟩:∃x,x=(Zcv a b f g 5 60 q).2:=⟨_,rfl⟩
  rw [←hsegs,←hq'] at gv5
  rw [←hsegs] at ln adv
  rw [←hq'] at kp adv
  have rq:room q=20:=by unfold room; omega
  rw [rq] at ln
  simp only [Int.reduceLT,if_true,Int.reduceAdd] at ln
  have tg:=Zi3 (θ:=B) (l:=0) hl gv5 (by omega)
  obtain ⟨md,hmd⟩:∃x,x=ZgI a b f g:=⟨_,rfl⟩
  obtain ⟨X1,hX1⟩:∃x,x=Sl.val (Seg.mk b a (ZA g 1) (ZA f 1) fl 20 0 gv).d:=⟨_,rfl⟩
  have loop:=Zqx (F:=Seg.d) (fE:=mCB ZcM (Zc (Zd 2) (Zc (mC (.int 5)) Zk))) (body:=ZS 7 (mOp ZX (mOp ZX (Zd 7) (mCB Zdc (Zc (mOp ixM (Zd 8) (mC (.int 7))) Zk))) (mOp Zaa (mOp ixM (Zd 8) (mC (.int 4))) (mC (.int 2))))) (k:=8)
    (ρ:=[.val (.scr ns),.val md,.val (.ref 0),.val (.tup [.int a,.int b]),.val (il dat),.val (il gv),X1,.val (.int 0),.no,.no,.no,.no,.no]) (θ0:=upE B 0 (qE a b f g q)) (θ:=upE B 0 (qE a b f g q'))
    (fun r ρ θ=>∃s x,ρ=[.val (.scr ns),.val md,.val (.ref 0),.val (.tup [.int a,.int b]),.val (il dat),.val (il gv),X1,.val (.int s),x,.no,.no,.no,.no]∧s+ZgD r=ZgD segs∧θ=upE B 0 (qE a b f g q')) (fun _=>False) segs (by simp [tg]) ⟨0,_,rfl,by omega,rfl⟩
    (by
      rintro s r ρ θ ⟨n,x,rfl,hs,rfl⟩
      left
      refine ⟨_,_,?_,n+s.data.length+s.flags % 2,.val s.d,rfl,?_,rfl⟩
      · simp
      · simp only [ZgD] at hs
        omega)
    (by rintro i ρ θ ⟨n,x,rfl,_,_⟩; simp)
  rcases loop with ⟨ρ',θ',hlp,n,x,rfl,hadv,rfl⟩ | ⟨_,_,_,_,hF⟩
  · have hlp':ZiY [.val (.scr ns),.val md,.val (.ref 0),.val (.tup [.int a,.int b]),.val (il dat),.val (il gv),X1,.val (.int 0),.no,.no,.no,.no,.no] (upE B 0 (qE a b f g q))=_:=hlp
    simp only [ZgD,Int.add_zero] at hadv
    have R1:=Zpy (a:=a) (b:=b) (f:=f) (g:=g) (ns:=ns) (B:=B) (gv:=gv) (q:=q') (sent:=n) (x1:=.no) (x4:=.val (il dat)) (x6:=X1) (x8:=x) hl ra rb rgv.2 (by rw [kp.come]; exact f1) (by rw [kp.st]; exact f2) (by rw [adv,f4,hadv])
    have R0:=Zpy (a:=a) (b:=b) (f:=f) (g:=g) (ns:=ns) (B:=B) (gv:=gv) (q:=q) (sent:=0) (x1:=.no) (x4:=.val (il dat)) (x6:=X1) (x8:=.no) hl ra rb rgv.2 f1 f2 (by rw [f4]; rfl)
    have hbb:Zna=(Zp (ZS 1 (mCB Zc2 (Zc (Zd 0) (Zc (mC (.int 0)) (Zc (mC (.int 20)) (Zc (mC (.int 16)) Zk))))))
      (Zp (ZS 2 (mOp ixM (Zd 1) (mC (.int 0))))
      (Zp (ZS 3 (mOp ixM (Zd 1) (mC (.int 1))))
      (Zp (ZS 4 (Zdi (ZdG (Zc (mOp Zaa (mCB zZ (Zc (Zd 0) (Zc (mC (.int 11)) Zk))) (mC (.int 40))) Zk)) [0] (mOp Zaa (mCB zZ (Zc (Zd 1) (Zc (mOp ZX (mC (.int 10)) (Zd 0)) Zk))) (mC (.int 256)))))
      (Zp (ZS 5 (Zdi (ZdG (Zc (mOp Zaa (mCB zZ (Zc (Zd 0) (Zc (mC (.int 13)) Zk))) (mC (.int 17))) Zk)) [0] (mOp Zaa (mCB zZ (Zc (Zd 1) (Zc (mOp ZX (mC (.int 12)) (Zd 0)) Zk))) (mC (.int 256)))))
      (Zp (zw (mCB Zbz (Zc (Zd 2) (Zc (Zd 4) Zk))))
      (Zp (ZS 6 (mCB ZcR (Zc (Zd 3) (Zc (mOp ixM (Zd 1) (mC (.int 3))) (Zc (mOp ixM (Zd 1) (mC (.int 2))) (Zc (mOp ZX (mC (.int 16)) (mOp Zaa (mCB zZ (Zc (Zd 0) (Zc (mC (.int 14)) Zk))) (mC (.int 2)))) (Zc (mC (.int 20)) (Zc (Zd 5) Zk))))))))
      (Zp (zw (mCB zQ (Zc (Zd 2) (Zc (mCB ZbV (Zc (Zd 6) Zk)) (Zc (mC (.int 5)) Zk)))))
      (Zp ZdQ
      (Zp (ZS 7 (mC (.int 0)))
      (Zp Zfb
      Zpx))))))))))):=rfl
    rw [←hmd] at R0 R1
    rw [hX1] at hlp' R0 R1
    simp only [←hmd] at m0 m1 m2 m3
    have lo':Zc2 [.scr ns,.int 0,.int 20,.int 16] []=.ok md (upE B 0 (qE a b f g (qO 20 16 0))):=by rw [hmd]; exact lo
    by_cases h:0<mix ns 16 % 3
    · obtain ⟨ρ,θ',R⟩:=R1
      refine ⟨θ',?_⟩
      simp [Zli,hbb,lo',m0,m1,m2,m3,cd,cg,wr,←hfl,Zht,bs,ar,L1,Zfb,h,hlp',R]
    · obtain ⟨ρ,θ',R⟩:=R0
      refine ⟨θ',?_⟩
      simp [Zli,hbb,lo',m0,m1,m2,m3,cd,cg,wr,←hfl,Zht,bs,ar,L1,Zfb,h,R]
  · exact hF.elim
end
def top (i:Nat):Stmt:=PySem.Challenge.pw_wirestream_k25_aborted.main.body.getD i (.Pass ⟨0,0,0,0⟩)
abbrev zs0:Stmt:=ZmT (top 2) 0
abbrev zs1:Stmt:=top 3
abbrev zs2:Stmt:=top 4
abbrev zs3:Stmt:=top 5
abbrev zs4:Stmt:=top 9
abbrev zs5:Stmt:=top 10
abbrev zs6:Stmt:=top 11
abbrev zs7:Stmt:=ZmT (top 30) 0
abbrev zs8:Stmt:=top 31
abbrev zs9:Stmt:=top 32
abbrev ZkN:Stmt:=top 33
abbrev ZkM:Stmt:=top 34
abbrev ZkL:Stmt:=top 35
abbrev ZkK:Stmt:=top 42
abbrev ZkJ:Stmt:=top 43
abbrev ZkI:Stmt:=top 64
abbrev ZkH:Stmt:=top 65
abbrev ZkG:Stmt:=top 66
abbrev ZkF:Stmt:=top 67
abbrev ZkE:Stmt:=top 68
abbrev ZkD:Stmt:=top 69
abbrev ZkC:Stmt:=top 70
abbrev ZkB:Stmt:=top 71
abbrev ZkA:Stmt:=top 72
abbrev Zkz:Stmt:=top 73
abbrev Zky:Stmt:=top 74
abbrev Zkx:Stmt:=top 75
abbrev Zkw:Stmt:=top 76
abbrev Zkv:Stmt:=top 77
abbrev Zku:Stmt:=top 78
abbrev Zkt:Stmt:=top 80
abbrev Zks:Stmt:=top 81
abbrev Zkr:Stmt:=top 82
abbrev Zkq:Stmt:=top 83
abbrev Zkp:Stmt:=top 84
abbrev Zko:Stmt:=top 86
abbrev Zkn:Stmt:=top 87
abbrev Zkm:Stmt:=top 88
abbrev Zkl:Stmt:=top 89
abbrev Zkk:Stmt:=top 90
abbrev Zkj:Stmt:=top 91
abbrev Zki:Stmt:=top 92
abbrev Zkh:Stmt:=top 93
abbrev Zkg:Stmt:=top 94
abbrev Zkf:Stmt:=top 96
abbrev Zke:Stmt:=top 97
abbrev Zkd:Stmt:=top 98
abbrev Zkc:Stmt:=top 99
abbrev Zkb:Stmt:=top 100
abbrev Zka:Stmt:=top 101
abbrev Zj9:Stmt:=top 102
abbrev Zj8:Stmt:=top 103
abbrev Zj7:Stmt:=top 104
abbrev Zj6:Stmt:=top 105
abbrev Zj5:Stmt:=top 106
abbrev Zj4:Stmt:=top 107
abbrev Zj3:Stmt:=top 108
abbrev Zj2:Stmt:=top 109
abbrev Zj1:Stmt:=top 110
abbrev Zj0:Stmt:=top 111
abbrev ZjZ:Stmt:=top 112
abbrev ZjY:Stmt:=top 113
abbrev ZjX:Stmt:=top 118
abbrev ZjW:Stmt:=top 119
abbrev ZjV:Stmt:=top 120
abbrev ZjU:Stmt:=top 121
abbrev ZjT:Stmt:=top 122
abbrev ZjS:Stmt:=top 123
abbrev ZjR:Stmt:=top 124
abbrev ZjQ:Stmt:=top 125
abbrev ZjP:Stmt:=top 126
abbrev ZjO:Stmt:=top 127
abbrev ZjN:Stmt:=top 128
abbrev ZjM:Stmt:=top 129
abbrev ZjL:Stmt:=top 130
abbrev ZjK:Stmt:=top 131
abbrev ZjJ:Stmt:=top 132
abbrev ZjI:Stmt:=top 133
abbrev ZjH:Stmt:=top 134
abbrev ZjG:Stmt:=top 135
abbrev ZjF:Stmt:=top 136
abbrev ZjE:Stmt:=top 138
abbrev ZjD:Stmt:=top 139
abbrev ZjC:Stmt:=top 142
abbrev ZjB:Stmt:=top 143
abbrev ZjA:Stmt:=top 144
abbrev Zib:Stmt:=top 145
abbrev Zjz:Stmt:=top 146
abbrev Zjy:Stmt:=top 147
abbrev Zjx:Stmt:=top 148
abbrev Zjw:Stmt:=top 149
abbrev Zjv:Stmt:=top 150
abbrev Zju:Stmt:=top 151
abbrev Zf8:Stmt:=top 152
abbrev zP0:List Str:=["self"]
theorem zc0:Zo ["self"] zP0 (Zg zs0):=⟨rfl,rfl,rfl,by decide +kernel,rfl,by decide +kernel,by decide +kernel⟩
abbrev zP1:List Str:=["pile"]
theorem zc1:Zo ["pile"] zP1 (Zg zs1):=⟨rfl,rfl,rfl,by decide +kernel,rfl,by decide +kernel,by decide +kernel⟩
abbrev zP2:List Str:=["pile","row"]
theorem zc2:Zo ["pile","row","laid"] zP2 (Zg zs2):=⟨rfl,rfl,rfl,by decide +kernel,rfl,by decide +kernel,by decide +kernel⟩
abbrev zP3:List Str:=["pile","many"]
theorem zc3:Zo ["pile","many","size","taken"] zP3 (Zg zs3):=⟨rfl,rfl,rfl,by decide +kernel,rfl,by decide +kernel,by decide +kernel⟩
abbrev zP4:List Str:=["number","step"]
theorem zc4:Zo ["number","step"] zP4 (Zg zs4):=⟨rfl,rfl,rfl,by decide +kernel,rfl,by decide +kernel,by decide +kernel⟩
abbrev zP5:List Str:=["number","base"]
theorem zc5:Zo ["number","base"] zP5 (Zg zs5):=⟨rfl,rfl,rfl,by decide +kernel,rfl,by decide +kernel,by decide +kernel⟩
abbrev zP6:List Str:=["number","base"]
theorem zc6:Zo ["number","base"] zP6 (Zg zs6):=⟨rfl,rfl,rfl,by decide +kernel,rfl,by decide +kernel,by decide +kernel⟩
abbrev zP7:List Str:=["self","ours","theirs","first","active"]
theorem zc7:Zo ["self","ours","theirs","first","active"] zP7 (Zg zs7):=⟨rfl,rfl,rfl,by decide +kernel,rfl,by decide +kernel,by decide +kernel⟩
abbrev zP8:List Str:=["end","now"]
theorem zc8:Zo ["end","now"] zP8 (Zg zs8):=⟨rfl,rfl,rfl,by decide +kernel,rfl,by decide +kernel,by decide +kernel⟩
abbrev zP9:List Str:=["end"]
theorem zc9:Zo ["end"] zP9 (Zg zs9):=⟨rfl,rfl,rfl,by decide +kernel,rfl,by decide +kernel,by decide +kernel⟩
abbrev Zpd:List Str:=["end"]
theorem zc10:Zo ["end"] Zpd (Zg ZkN):=⟨rfl,rfl,rfl,by decide +kernel,rfl,by decide +kernel,by decide +kernel⟩
abbrev Zpc:List Str:=["end"]
theorem zc11:Zo ["end"] Zpc (Zg ZkM):=⟨rfl,rfl,rfl,by decide +kernel,rfl,by decide +kernel,by decide +kernel⟩
abbrev Zpb:List Str:=["end"]
theorem zc12:Zo ["end"] Zpb (Zg ZkL):=⟨rfl,rfl,rfl,by decide +kernel,rfl,by decide +kernel,by decide +kernel⟩
abbrev Zpa:List Str:=["row"]
theorem zc13:Zo ["row","total"] Zpa (Zg ZkK):=⟨rfl,rfl,rfl,by decide +kernel,rfl,by decide +kernel,by decide +kernel⟩
abbrev Zo9:List Str:=["row"]
theorem zc14:Zo ["row"] Zo9 (Zg ZkJ):=⟨rfl,rfl,rfl,by decide +kernel,rfl,by decide +kernel,by decide +kernel⟩
abbrev Zo8:List Str:=["segment"]
theorem zc15:Zo ["segment","flags"] Zo8 (Zg ZkI):=⟨rfl,rfl,rfl,by decide +kernel,rfl,by decide +kernel,by decide +kernel⟩
abbrev Zo7:List Str:=["flags","flag"]
theorem zc16:Zo ["flags","flag"] Zo7 (Zg ZkH):=⟨rfl,rfl,rfl,by decide +kernel,rfl,by decide +kernel,by decide +kernel⟩
abbrev Zo6:List Str:=["segment","flag"]
theorem zc17:Zo ["segment","flag"] Zo6 (Zg ZkG):=⟨rfl,rfl,rfl,by decide +kernel,rfl,by decide +kernel,by decide +kernel⟩
abbrev Zo5:List Str:=["segment"]
theorem zc18:Zo ["segment","ahead","behind"] Zo5 (Zg ZkF):=⟨rfl,rfl,rfl,by decide +kernel,rfl,by decide +kernel,by decide +kernel⟩
abbrev Zo4:List Str:=["segment"]
theorem zc19:Zo ["segment","ports","numbers","head"] Zo4 (Zg ZkE):=⟨rfl,rfl,rfl,by decide +kernel,rfl,by decide +kernel,by decide +kernel⟩
abbrev Zo3:List Str:=["head"]
theorem zc20:Zo ["head"] Zo3 (Zg ZkD):=⟨rfl,rfl,rfl,by decide +kernel,rfl,by decide +kernel,by decide +kernel⟩
abbrev Zo2:List Str:=["most"]
theorem zc21:Zo ["most"] Zo2 (Zg ZkC):=⟨rfl,rfl,rfl,by decide +kernel,rfl,by decide +kernel,by decide +kernel⟩
abbrev Zo1:List Str:=["number"]
theorem zc22:Zo ["number"] Zo1 (Zg ZkB):=⟨rfl,rfl,rfl,by decide +kernel,rfl,by decide +kernel,by decide +kernel⟩
abbrev Zo0:List Str:=["number"]
theorem zc23:Zo ["number"] Zo0 (Zg ZkA):=⟨rfl,rfl,rfl,by decide +kernel,rfl,by decide +kernel,by decide +kernel⟩
abbrev ZoZ:List Str:=["row"]
theorem zc24:Zo ["row"] ZoZ (Zg Zkz):=⟨rfl,rfl,rfl,by decide +kernel,rfl,by decide +kernel,by decide +kernel⟩
abbrev ZoY:List Str:=["row"]
theorem zc25:Zo ["row"] ZoY (Zg Zky):=⟨rfl,rfl,rfl,by decide +kernel,rfl,by decide +kernel,by decide +kernel⟩
abbrev ZoX:List Str:=["row"]
theorem zc26:Zo ["row"] ZoX (Zg Zkx):=⟨rfl,rfl,rfl,by decide +kernel,rfl,by decide +kernel,by decide +kernel⟩
abbrev ZoW:List Str:=["row"]
theorem zc27:Zo ["row","head","most","ports","numbers"] ZoW (Zg Zkw):=⟨rfl,rfl,rfl,by decide +kernel,rfl,by decide +kernel,by decide +kernel⟩
abbrev ZoV:List Str:=["row","place"]
theorem zc28:Zo ["row","place"] ZoV (Zg Zkv):=⟨rfl,rfl,rfl,by decide +kernel,rfl,by decide +kernel,by decide +kernel⟩
abbrev ZoU:List Str:=["row","place"]
theorem zc29:Zo ["row","place"] ZoU (Zg Zku):=⟨rfl,rfl,rfl,by decide +kernel,rfl,by decide +kernel,by decide +kernel⟩
abbrev ZoT:List Str:=["ours","theirs","first","active"]
theorem zc30:Zo ["ours","theirs","first","active"] ZoT (Zg Zkt):=⟨rfl,rfl,rfl,by decide +kernel,rfl,by decide +kernel,by decide +kernel⟩
abbrev ZoS:List Str:=["end","row"]
theorem zc31:Zo ["end","row","taken"] ZoS (Zg Zks):=⟨rfl,rfl,rfl,by decide +kernel,rfl,by decide +kernel,by decide +kernel⟩
abbrev ZoR:List Str:=["end","many"]
theorem zc32:Zo ["end","many","was_shut","row"] ZoR (Zg Zkr):=⟨rfl,rfl,rfl,by decide +kernel,rfl,by decide +kernel,by decide +kernel⟩
abbrev ZoQ:List Str:=["end"]
theorem zc33:Zo ["end"] ZoQ (Zg Zkq):=⟨rfl,rfl,rfl,by decide +kernel,rfl,by decide +kernel,by decide +kernel⟩
abbrev ZoP:List Str:=["end"]
theorem zc34:Zo ["end"] ZoP (Zg Zkp):=⟨rfl,rfl,rfl,by decide +kernel,rfl,by decide +kernel,by decide +kernel⟩
abbrev ZoO:List Str:=["segment"]
theorem zc35:Zo ["segment","ports"] ZoO (Zg Zko):=⟨rfl,rfl,rfl,by decide +kernel,rfl,by decide +kernel,by decide +kernel⟩
abbrev ZoN:List Str:=["end","segment"]
theorem zc36:Zo ["end","segment"] ZoN (Zg Zkn):=⟨rfl,rfl,rfl,by decide +kernel,rfl,by decide +kernel,by decide +kernel⟩
abbrev ZoM:List Str:=["end","segment"]
theorem zc37:Zo ["end","segment"] ZoM (Zg Zkm):=⟨rfl,rfl,rfl,by decide +kernel,rfl,by decide +kernel,by decide +kernel⟩
abbrev ZoL:List Str:=["end","segment"]
theorem zc38:Zo ["end","segment"] ZoL (Zg Zkl):=⟨rfl,rfl,rfl,by decide +kernel,rfl,by decide +kernel,by decide +kernel⟩
abbrev ZoK:List Str:=["end","segment"]
theorem zc39:Zo ["end","segment"] ZoK (Zg Zkk):=⟨rfl,rfl,rfl,by decide +kernel,rfl,by decide +kernel,by decide +kernel⟩
abbrev ZoJ:List Str:=["end","segment","now"]
theorem zc40:Zo ["end","segment","now"] ZoJ (Zg Zkj):=⟨rfl,rfl,rfl,by decide +kernel,rfl,by decide +kernel,by decide +kernel⟩
abbrev ZoI:List Str:=["end","segment"]
theorem zc41:Zo ["end","segment"] ZoI (Zg Zki):=⟨rfl,rfl,rfl,by decide +kernel,rfl,by decide +kernel,by decide +kernel⟩
abbrev ZoH:List Str:=["end","segment"]
theorem zc42:Zo ["end","segment"] ZoH (Zg Zkh):=⟨rfl,rfl,rfl,by decide +kernel,rfl,by decide +kernel,by decide +kernel⟩
abbrev ZoG:List Str:=["end","segment","now"]
theorem zc43:Zo ["end","segment","now"] ZoG (Zg Zkg):=⟨rfl,rfl,rfl,by decide +kernel,rfl,by decide +kernel,by decide +kernel⟩
abbrev ZoF:List Str:=["end","row","now"]
theorem zc44:Zo ["end","row","now","segment"] ZoF (Zg Zkf):=⟨rfl,rfl,rfl,by decide +kernel,rfl,by decide +kernel,by decide +kernel⟩
abbrev ZoE:List Str:=["end","segment"]
theorem Zyt:Zo ["end","segment"] ZoE (Zg Zke):=⟨rfl,rfl,rfl,by decide +kernel,rfl,by decide +kernel,by decide +kernel⟩
abbrev ZoD:List Str:=["end","segment","now"]
theorem Zys:Zo ["end","segment","now"] ZoD (Zg Zkd):=⟨rfl,rfl,rfl,by decide +kernel,rfl,by decide +kernel,by decide +kernel⟩
abbrev ZoC:List Str:=["end","segment"]
theorem zc47:Zo ["end","segment","size","last"] ZoC (Zg Zkc):=⟨rfl,rfl,rfl,by decide +kernel,rfl,by decide +kernel,by decide +kernel⟩
abbrev ZoB:List Str:=["end","number"]
theorem Zyr:Zo ["end","number"] ZoB (Zg Zkb):=⟨rfl,rfl,rfl,by decide +kernel,rfl,by decide +kernel,by decide +kernel⟩
abbrev ZoA:List Str:=["end","segment","now"]
theorem Zyq:Zo ["end","segment","now"] ZoA (Zg Zka):=⟨rfl,rfl,rfl,by decide +kernel,rfl,by decide +kernel,by decide +kernel⟩
abbrev Zoz:List Str:=["end","segment"]
theorem Zyp:Zo ["end","segment"] Zoz (Zg Zj9):=⟨rfl,rfl,rfl,by decide +kernel,rfl,by decide +kernel,by decide +kernel⟩
abbrev Zoy:List Str:=["end","segment","now"]
theorem Zyo:Zo ["end","segment","now"] Zoy (Zg Zj8):=⟨rfl,rfl,rfl,by decide +kernel,rfl,by decide +kernel,by decide +kernel⟩
abbrev Zox:List Str:=["end","segment"]
theorem Zyn:Zo ["end","segment"] Zox (Zg Zj7):=⟨rfl,rfl,rfl,by decide +kernel,rfl,by decide +kernel,by decide +kernel⟩
abbrev Zow:List Str:=["end","segment"]
theorem Zym:Zo ["end","segment"] Zow (Zg Zj6):=⟨rfl,rfl,rfl,by decide +kernel,rfl,by decide +kernel,by decide +kernel⟩
abbrev Zov:List Str:=["end","segment","now"]
theorem zc54:Zo ["end","segment","now","answer","has_gone_on","was_shut"] Zov (Zg Zj5):=⟨rfl,rfl,rfl,by decide +kernel,rfl,by decide +kernel,by decide +kernel⟩
abbrev Zou:List Str:=["end","segment"]
theorem Zyl:Zo ["end","segment"] Zou (Zg Zj4):=⟨rfl,rfl,rfl,by decide +kernel,rfl,by decide +kernel,by decide +kernel⟩
abbrev Zot:List Str:=["end","now"]
theorem Zyk:Zo ["end","now"] Zot (Zg Zj3):=⟨rfl,rfl,rfl,by decide +kernel,rfl,by decide +kernel,by decide +kernel⟩
abbrev Zos:List Str:=["end","segment","now"]
theorem Zyj:Zo ["end","segment","now"] Zos (Zg Zj2):=⟨rfl,rfl,rfl,by decide +kernel,rfl,by decide +kernel,by decide +kernel⟩
abbrev Zor:List Str:=["end","segment"]
theorem zc58:Zo ["end","segment","place","byte","number"] Zor (Zg Zj1):=⟨rfl,rfl,rfl,by decide +kernel,rfl,by decide +kernel,by decide +kernel⟩
abbrev Zoq:List Str:=["end","segment"]
theorem zc59:Zo ["end","segment","number"] Zoq (Zg Zj0):=⟨rfl,rfl,rfl,by decide +kernel,rfl,by decide +kernel,by decide +kernel⟩
abbrev Zop:List Str:=["end"]
theorem zc60:Zo ["end","row"] Zop (Zg ZjZ):=⟨rfl,rfl,rfl,by decide +kernel,rfl,by decide +kernel,by decide +kernel⟩
abbrev Zoo:List Str:=["end","now"]
theorem Zyi:Zo ["end","now"] Zoo (Zg ZjY):=⟨rfl,rfl,rfl,by decide +kernel,rfl,by decide +kernel,by decide +kernel⟩
abbrev Zon:List Str:=["end","now"]
theorem zc62:Zo ["end","now","segment"] Zon (Zg ZjX):=⟨rfl,rfl,rfl,by decide +kernel,rfl,by decide +kernel,by decide +kernel⟩
abbrev Zom:List Str:=["end","now"]
theorem zc63:Zo ["end","now","segment"] Zom (Zg ZjW):=⟨rfl,rfl,rfl,by decide +kernel,rfl,by decide +kernel,by decide +kernel⟩
abbrev Zol:List Str:=["end"]
theorem zc64:Zo ["end","segment"] Zol (Zg ZjV):=⟨rfl,rfl,rfl,by decide +kernel,rfl,by decide +kernel,by decide +kernel⟩
abbrev Zok:List Str:=["end","now"]
theorem Zyh:Zo ["end","now"] Zok (Zg ZjU):=⟨rfl,rfl,rfl,by decide +kernel,rfl,by decide +kernel,by decide +kernel⟩
abbrev Zoj:List Str:=["end","now"]
theorem zc66:Zo ["end","now","data"] Zoj (Zg ZjT):=⟨rfl,rfl,rfl,by decide +kernel,rfl,by decide +kernel,by decide +kernel⟩
abbrev Zoi:List Str:=["end"]
theorem Zyg:Zo ["end"] Zoi (Zg ZjS):=⟨rfl,rfl,rfl,by decide +kernel,rfl,by decide +kernel,by decide +kernel⟩
abbrev Zoh:List Str:=["end"]
theorem Zyf:Zo ["end"] Zoh (Zg ZjR):=⟨rfl,rfl,rfl,by decide +kernel,rfl,by decide +kernel,by decide +kernel⟩
abbrev Zog:List Str:=["end","number","flags","data"]
theorem Zye:Zo ["end","number","flags","data"] Zog (Zg ZjQ):=⟨rfl,rfl,rfl,by decide +kernel,rfl,by decide +kernel,by decide +kernel⟩
abbrev Zof:List Str:=["end","now"]
theorem zc70:Zo ["end","now","room"] Zof (Zg ZjP):=⟨rfl,rfl,rfl,by decide +kernel,rfl,by decide +kernel,by decide +kernel⟩
abbrev Zoe:List Str:=["end","now"]
theorem Zyd:Zo ["end","now"] Zoe (Zg ZjO):=⟨rfl,rfl,rfl,by decide +kernel,rfl,by decide +kernel,by decide +kernel⟩
abbrev Zod:List Str:=["end"]
theorem Zyc:Zo ["end"] Zod (Zg ZjN):=⟨rfl,rfl,rfl,by decide +kernel,rfl,by decide +kernel,by decide +kernel⟩
abbrev Zoc:List Str:=["end"]
theorem Zyb:Zo ["end"] Zoc (Zg ZjM):=⟨rfl,rfl,rfl,by decide +kernel,rfl,by decide +kernel,by decide +kernel⟩
abbrev Zob:List Str:=["end"]
theorem Zya:Zo ["end"] Zob (Zg ZjL):=⟨rfl,rfl,rfl,by decide +kernel,rfl,by decide +kernel,by decide +kernel⟩
abbrev Zoa:List Str:=["end"]
theorem Zx9:Zo ["end"] Zoa (Zg ZjK):=⟨rfl,rfl,rfl,by decide +kernel,rfl,by decide +kernel,by decide +kernel⟩
abbrev Zn9:List Str:=["end","room"]
theorem Zx8:Zo ["end","room"] Zn9 (Zg ZjJ):=⟨rfl,rfl,rfl,by decide +kernel,rfl,by decide +kernel,by decide +kernel⟩
abbrev Zn8:List Str:=["end","room"]
theorem zc77:Zo ["end","room","number","many","place"] Zn8 (Zg ZjI):=⟨rfl,rfl,rfl,by decide +kernel,rfl,by decide +kernel,by decide +kernel⟩
abbrev Zn7:List Str:=["end"]
theorem zc78:Zo ["end","number"] Zn7 (Zg ZjH):=⟨rfl,rfl,rfl,by decide +kernel,rfl,by decide +kernel,by decide +kernel⟩
abbrev Zn6:List Str:=["end","now"]
theorem Zx7:Zo ["end","now"] Zn6 (Zg ZjG):=⟨rfl,rfl,rfl,by decide +kernel,rfl,by decide +kernel,by decide +kernel⟩
abbrev Zn5:List Str:=["end"]
theorem Zx6:Zo ["end"] Zn5 (Zg ZjF):=⟨rfl,rfl,rfl,by decide +kernel,rfl,by decide +kernel,by decide +kernel⟩
abbrev Zn4:List Str:=["_law_script","_law_k"]
theorem Zx5:Zo ["_law_script","_law_k"] Zn4 (Zg ZjE):=⟨rfl,rfl,rfl,by decide +kernel,rfl,by decide +kernel,by decide +kernel⟩
abbrev Zn3:List Str:=["_law_script","_law_k"]
theorem zc82:Zo ["_law_script","_law_k","_law_number"] Zn3 (Zg ZjD):=⟨rfl,rfl,rfl,by decide +kernel,rfl,by decide +kernel,by decide +kernel⟩
abbrev Zn2:List Str:=["_law_number"]
theorem Zx4:Zo ["_law_number"] Zn2 (Zg ZjC):=⟨rfl,rfl,rfl,by decide +kernel,rfl,by decide +kernel,by decide +kernel⟩
abbrev Zn1:List Str:=["_law_row"]
theorem zc84:Zo ["_law_row","_law_total","_law_k"] Zn1 (Zg ZjB):=⟨rfl,rfl,rfl,by decide +kernel,rfl,by decide +kernel,by decide +kernel⟩
abbrev Zn0:List Str:=["_law_segment_here"]
theorem zc85:Zo ["_law_segment_here","_law_row","_law_number"] Zn0 (Zg ZjA):=⟨rfl,rfl,rfl,by decide +kernel,rfl,by decide +kernel,by decide +kernel⟩
abbrev ZnZ:List Str:=["_law_row"]
theorem zc86:Zo ["_law_row","_law_head","_law_most","_law_words","_law_found"] ZnZ (Zg Zib):=⟨rfl,rfl,rfl,by decide +kernel,rfl,by decide +kernel,by decide +kernel⟩
abbrev ZnY:List Str:=["_law_byte_here"]
theorem Zx3:Zo ["_law_byte_here"] ZnY (Zg Zjz):=⟨rfl,rfl,rfl,by decide +kernel,rfl,by decide +kernel,by decide +kernel⟩
abbrev ZnX:List Str:=["_law_number","_law_step"]
theorem Zx2:Zo ["_law_number","_law_step"] ZnX (Zg Zjy):=⟨rfl,rfl,rfl,by decide +kernel,rfl,by decide +kernel,by decide +kernel⟩
abbrev ZnW:List Str:=["_law_number"]
theorem Zx1:Zo ["_law_number"] ZnW (Zg Zjx):=⟨rfl,rfl,rfl,by decide +kernel,rfl,by decide +kernel,by decide +kernel⟩
abbrev ZnV:List Str:=["_law_talk","_law_number","_law_answer","_law_flags","_law_window","_law_data"]
theorem Zx0:Zo ["_law_talk","_law_number","_law_answer","_law_flags","_law_window","_law_data"] ZnV (Zg Zjw):=⟨rfl,rfl,rfl,by decide +kernel,rfl,by decide +kernel,by decide +kernel⟩
abbrev ZnU:List Str:=["_law_end","_law_now"]
theorem zc91:Zo ["_law_end","_law_now","_law_found","_law_k","_law_row"] ZnU (Zg Zjv):=⟨rfl,rfl,rfl,by decide +kernel,rfl,by decide +kernel,by decide +kernel⟩
abbrev ZnT:List Str:=["_law_script","_law_base","_law_window","_law_most"]
theorem zc92:Zo ["_law_script","_law_base","_law_window","_law_most","_law_talk","_law_mine","_law_theirs","_law_end"] ZnT (Zg Zju):=⟨rfl,rfl,rfl,by decide +kernel,rfl,by decide +kernel,by decide +kernel⟩
abbrev ZnS:List Str:=["_law_script"]
theorem zc93:Zo ["_law_script","_law_made_here","_law_end","_law_talk","_law_data","_law_given_here","_law_row","_law_sent","_law_segment_here","_law_reset","_law_port","_law_ones","_law_due"] ZnS (Zg Zf8):=⟨rfl,rfl,rfl,by decide +kernel,rfl,by decide +kernel,by decide +kernel⟩
structure Glb (K:PySem.W.Frag) (mg:Str→Option Value):Prop where
  zc0:∃t,mg "ACK"=some (.int 16 t)
  zc1:∃t,mg "ANSWER"=some (.int 3 t)
  zc2:∃t,mg "CLOSED"=some (.str "closed" t)
  zc3:∃t,mg "CLOSE_WAIT"=some (.str "close wait" t)
  zc4:∃t,mg "CLOSING"=some (.str "closing" t)
  zc5:∃t,mg "DATA"=some (.int 7 t)
  zc6:∃t,mg "FIN"=some (.int 1 t)
  zc7:∃t,mg "FIRST_WAIT"=some (.int 1000 t)
  zc8:∃t,mg "FLAGS"=some (.int 4 t)
  zc9:∃t,mg "GOAL"=some (.int 1 t)
  zc10:∃t,mg "GREATEST_DATA"=some (.int 16 t)
  zc11:∃t,mg "GREATEST_FLAGS"=some (.int 31 t)
  zc12:∃t,mg "GREATEST_WORD"=some (.int 65535 t)
  zc13:∃t,mg "HALF_ROUND"=some (.int 2147483648 t)
  zc14:∃t,mg "LAST_ACK"=some (.str "last ack" t)
  zc15:∃t,mg "LAST_WAIT"=some (.int 120000 t)
  zc16:∃t,mg "LEAST_MOST"=some (.int 4 t)
  zc17:∃t,mg "LISTEN"=some (.str "listen" t)
  zc18:∃t,mg "LONGEST_WAIT"=some (.int 16000 t)
  zc19:∃t,mg "LONG_HEAD"=some (.int 24 t)
  zc20:∃t,mg "MOST"=some (.int 6 t)
  zc21:∃t,mg "MOST_TRIES"=some (.int 6 t)
  zc22:∃t,mg "MOST_UNTOLD"=some (.int 12 t)
  zc23:∃t,mg "NO_ERROR"=some (.str "" t)
  zc24:∃t,mg "NUMBER"=some (.int 2 t)
  zc25:∃t,mg "OPEN"=some (.str "open" t)
  zc26:∃t,mg "PSH"=some (.int 8 t)
  zc27:∃t,mg "REFUSED"=some (.str "refused" t)
  zc28:∃t,mg "RESET"=some (.str "reset" t)
  zc29:∃t,mg "RIGHT_SUM"=some (.int 65535 t)
  zc30:∃t,mg "ROOM"=some (.int 64 t)
  zc31:∃t,mg "ROUND"=some (.int 4294967296 t)
  zc32:∃t,mg "RST"=some (.int 4 t)
  zc33:∃t,mg "SHORT_HEAD"=some (.int 20 t)
  zc34:∃t,mg "SOURCE"=some (.int 0 t)
  zc35:∃t,mg "SYN"=some (.int 2 t)
  zc36:∃t,mg "SYN_COME"=some (.str "syn come" t)
  zc37:∃t,mg "SYN_SENT"=some (.str "syn sent" t)
  zc38:∃t,mg "TIME"=some (.str "time" t)
  zc39:∃t,mg "TIME_WAIT"=some (.str "time wait" t)
  zc40:∃t,mg "WAIT_ONE"=some (.str "wait one" t)
  zc41:∃t,mg "WAIT_TWO"=some (.str "wait two" t)
  zc42:∃t,mg "WINDOW"=some (.int 5 t)
  zc43:∃t,mg "WORDS"=some (.int 65536 t)
  b_all:mg "all"=none
  b_bool:mg "bool"=none
  b_enumerate:mg "enumerate"=none
  b_int:mg "int"=none
  b_isinstance:mg "isinstance"=none
  b_len:mg "len"=none
  b_list:mg "list"=none
  b_max:mg "max"=none
  b_min:mg "min"=none
  b_range:mg "range"=none
  b_sum:mg "sum"=none
  b_tuple:mg "tuple"=none
  k_End:Cls K (z0 mg "End")
  k_Pile:Cls K (z0 mg "Pile")
  zn0:NoAttr K (z0 mg "End") "behind"
  zn1:NoAttr K (z0 mg "End") "come"
  zn2:NoAttr K (z0 mg "End") "early"
  zn3:NoAttr K (z0 mg "End") "early_fin"
  zn4:NoAttr K (z0 mg "End") "error"
  zn5:NoAttr K (z0 mg "End") "first"
  zn6:NoAttr K (z0 mg "End") "has_closed"
  zn7:NoAttr K (z0 mg "End") "most"
  zn8:NoAttr K (z0 mg "End") "nxt"
  zn9:NoAttr K (z0 mg "End") "ours"
  zn10:NoAttr K (z0 mg "End") "owed_reset"
  zn11:NoAttr K (z0 mg "End") "owes_answer"
  zn12:NoAttr K (z0 mg "End") "owes_syn"
  zn13:NoAttr K (z0 mg "End") "probes"
  zn14:NoAttr K (z0 mg "End") "rcv"
  zn15:NoAttr K (z0 mg "End") "since"
  zn16:NoAttr K (z0 mg "End") "state"
  zn17:NoAttr K (z0 mg "End") "theirs"
  zn18:NoAttr K (z0 mg "End") "told"
  zn19:NoAttr K (z0 mg "End") "told_by"
  zn20:NoAttr K (z0 mg "End") "tries"
  zn21:NoAttr K (z0 mg "End") "una"
  zn22:NoAttr K (z0 mg "End") "wait"
  zn23:NoAttr K (z0 mg "End") "wnd"
  zn24:NoAttr K (z0 mg "End") "written"
  zn25:NoAttr K (z0 mg "Pile") "row"
section
variable {P:Program} {w:World} {K:PySem.W.Frag} {mg:Str→Option Value} {base:Heap}
theorem zo0 (D:Mk0 K mg "Pile" "Pile.__init__" zs0 zP0) (g:Glb K mg) :MMk P w K mg base 1 "Pile" ZbK:=
  mk0 D zc0 1 1 rfl rfl fun f cdv A outer s H E hr=>(Zj (Zv (Zr ⟨g.k_Pile,g.zn25⟩) (Zb 0) (Zak Ze)))
theorem zo1 (D:Def0 K mg "room" zs1 zP1) (g:Glb K mg) :MDef P w K mg base 1 "room" ZdV:=
  ZV D zc1 1 1 rfl rfl fun f cdv A outer s H E hr=>(Zj (Zt (Zu ZeC (Zm g.zc30) (Z7 Zdm g.b_len PySem.boot_len (Za (Zl (Zr ⟨g.k_Pile,g.zn25⟩) (Zb 0)) Ze)))))
theorem zo2 (D:Def0 K mg "lay" zs2 zP2) (g:Glb K mg) (zd1:MDef P w K mg base 1 "room" ZdV):MDef P w K mg base 2 "lay" ZfH:=
  ZV D zc2 2 3 rfl rfl fun f cdv A outer s H E hr=>(Zf (ZH 2 zc2.nd (Zbe (Zb 1) ZbU (Zao (Zi zd1 hr (by decide) (Za (Zb 0) Ze)))))
  (Zf (Zv (Zr ⟨g.k_Pile,g.zn25⟩) (Zb 0) (Zu ZN (Zl (Zr ⟨g.k_Pile,g.zn25⟩) (Zb 0)) (Zb 2)))
  (Zj (Zt (Z7 Zdm g.b_len PySem.boot_len (Za (Zb 2) Ze))))))
theorem zo3 (D:Def0 K mg "take" zs3 zP3) (g:Glb K mg) :MDef P w K mg base 1 "take" Zca:=
  ZV D zc3 2 4 rfl rfl fun f cdv A outer s H E hr=>(Zf (ZH 2 zc3.nd (Z7 Zv2 g.b_max PyProof.Rows.boot_max (Za (Zb 1) (Za Zh Ze))))
  (Zf (ZH 3 zc3.nd (Zbe (Zl (Zr ⟨g.k_Pile,g.zn25⟩) (Zb 0)) ZbU (Zao (Zb 2))))
  (Zf (Zv (Zr ⟨g.k_Pile,g.zn25⟩) (Zb 0) (Zbe (Zl (Zr ⟨g.k_Pile,g.zn25⟩) (Zb 0)) (Zao (Zb 2)) ZbU))
  (Zj (Zt (Zb 3))))))
theorem zo4 (D:Def0 K mg "plus" zs4 zP4) (g:Glb K mg) :MDef P w K mg base 1 "plus" zn:=
  ZV D zc4 2 2 rfl rfl fun f cdv A outer s H E hr=>(Zj (Zt (Zu Zaf (Zu ZN (Zb 0) (Zb 1)) (Zm g.zc31))))
theorem zo5 (D:Def0 K mg "offset" zs5 zP5) (g:Glb K mg) :MDef P w K mg base 1 "offset" zA:=
  ZV D zc5 2 2 rfl rfl fun f cdv A outer s H E hr=>(Zj (Zt (Zu ZeC (Zu Zaf (Zu ZN (Zu ZeC (Zb 0) (Zb 1)) (Zm g.zc13)) (Zm g.zc31)) (Zm g.zc13))))
theorem zo6 (D:Def0 K mg "past" zs6 zP6) (g:Glb K mg) (zd5:MDef P w K mg base 1 "offset" zA):MDef P w K mg base 2 "past" Zcb:=
  ZV D zc6 2 2 rfl rfl fun f cdv A outer s H E hr=>(Zj (Zt (zI Zg9 (Zi zd5 hr (by decide) (Za (Zb 0) (Za (Zb 1) Ze))) Zh)))
theorem zo7 (D:Mk0 K mg "End" "End.__init__" zs7 zP7) (g:Glb K mg) (zd0:MMk P w K mg base 1 "Pile" ZbK) (zd4:MDef P w K mg base 1 "plus" zn):MMk P w K mg base 3 "End" Zcf:=
  mk0 D zc7 5 5 rfl rfl fun f cdv A outer s H E hr=>(Zf (Zv (Zr ⟨g.k_End,g.zn9⟩) (Zb 0) (Zb 1))
  (Zf (Zv (Zr ⟨g.k_End,g.zn17⟩) (Zb 0) (Zb 2))
  (Zf (Zv (Zr ⟨g.k_End,g.zn16⟩) (Zb 0) (ZcA (ZE (Zb 4)) (Zw g.zc37) (Zw g.zc17)))
  (Zf (Zv (Zr ⟨g.k_End,g.zn4⟩) (Zb 0) (Zw g.zc23))
  (Zf (Zv (Zr ⟨g.k_End,g.zn5⟩) (Zb 0) (Zb 3))
  (Zf (Zv (Zr ⟨g.k_End,g.zn21⟩) (Zb 0) (Zb 3))
  (Zf (Zv (Zr ⟨g.k_End,g.zn8⟩) (Zb 0) (Zb 3))
  (Zf (Zv (Zr ⟨g.k_End,g.zn14⟩) (Zb 0) Zh)
  (Zf (Zv (Zr ⟨g.k_End,g.zn23⟩) (Zb 0) Zh)
  (Zf (Zv (Zr ⟨g.k_End,g.zn18⟩) (Zb 0) Zh)
  (Zf (Zv (Zr ⟨g.k_End,g.zn19⟩) (Zb 0) Zh)
  (Zf (Zv (Zr ⟨g.k_End,g.zn7⟩) (Zb 0) (Zm g.zc22))
  (Zf (Zv (Zr ⟨g.k_End,g.zn24⟩) (Zb 0) (Zlf zd0 hr (by decide)))
  (Zf (Zv (Zr ⟨g.k_End,g.zn1⟩) (Zb 0) (Zlf zd0 hr (by decide)))
  (Zf (Zv (Zr ⟨g.k_End,g.zn2⟩) (Zb 0) Zqi)
  (Zf (Zv (Zr ⟨g.k_End,g.zn3⟩) (Zb 0) ZaI)
  (Zf (Zv (Zr ⟨g.k_End,g.zn6⟩) (Zb 0) zm)
  (Zf (Zv (Zr ⟨g.k_End,g.zn0⟩) (Zb 0) (Zi zd4 hr (by decide) (Za (Zb 3) (Za Zh Ze))))
  (Zf (Zv (Zr ⟨g.k_End,g.zn10⟩) (Zb 0) ZaI)
  (Zf (Zv (Zr ⟨g.k_End,g.zn12⟩) (Zb 0) zm)
  (Zf (Zv (Zr ⟨g.k_End,g.zn11⟩) (Zb 0) zm)
  (Zf (Zv (Zr ⟨g.k_End,g.zn13⟩) (Zb 0) zm)
  (Zf (Zv (Zr ⟨g.k_End,g.zn15⟩) (Zb 0) Zh)
  (Zf (Zv (Zr ⟨g.k_End,g.zn22⟩) (Zb 0) (Zm g.zc7))
  (Zj (Zv (Zr ⟨g.k_End,g.zn20⟩) (Zb 0) Zh))))))))))))))))))))))))))
theorem zo8 (D:Def0 K mg "start_timer" zs8 zP8) (g:Glb K mg) :MDef P w K mg base 1 "start_timer" Z8:=
  ZV D zc8 2 2 rfl rfl fun f cdv A outer s H E hr=>(Zf (Zv (Zr ⟨g.k_End,g.zn15⟩) (Zb 0) (Zb 1))
  (Zf (Zv (Zr ⟨g.k_End,g.zn22⟩) (Zb 0) (Zm g.zc7))
  (Zj (Zv (Zr ⟨g.k_End,g.zn20⟩) (Zb 0) Zh))))
theorem zo9 (D:Def0 K mg "state" zs9 zP9) (g:Glb K mg) :MDef P w K mg base 1 "state" ZfG:=
  ZV D zc9 1 1 rfl rfl fun f cdv A outer s H E hr=>(Zj (Zt (Zl (Zr ⟨g.k_End,g.zn16⟩) (Zb 0))))
theorem ZxZ (D:Def0 K mg "error" ZkN Zpd) (g:Glb K mg) :MDef P w K mg base 1 "error" ZfI:=
  ZV D zc10 1 1 rfl rfl fun f cdv A outer s H E hr=>(Zj (Zt (Zl (Zr ⟨g.k_End,g.zn4⟩) (Zb 0))))
theorem ZxY (D:Def0 K mg "our_window" ZkM Zpc) (g:Glb K mg) (zd1:MDef P w K mg base 1 "room" ZdV):MDef P w K mg base 2 "our_window" zK:=
  ZV D zc11 1 1 rfl rfl fun f cdv A outer s H E hr=>(Zj (Zt (Zi zd1 hr (by decide) (Za (Zl (Zr ⟨g.k_End,g.zn1⟩) (Zb 0)) Ze))))
theorem ZxX (D:Def0 K mg "has_sent_fin" ZkL Zpb) (g:Glb K mg) (zd6:MDef P w K mg base 2 "past" Zcb):MDef P w K mg base 3 "has_sent_fin" Zbb:=
  ZV D zc12 1 1 rfl rfl fun f cdv A outer s H E hr=>(Zj (Zt (Zi zd6 hr (by decide) (Za (Zl (Zr ⟨g.k_End,g.zn8⟩) (Zb 0)) (Za (Zl (Zr ⟨g.k_End,g.zn0⟩) (Zb 0)) Ze)))))
theorem ZxW (D:Def0 K mg "folded" ZkK Zpa) (g:Glb K mg) :MDef P w K mg base 1 "folded" Zc0:=
  ZV D zc13 1 2 rfl rfl fun f cdv A outer s H E hr=>(Zf (ZH 1 zc13.nd (Zu ZN (Zu Zb7 Zh (Z7 ZsZ g.b_sum PyProof.Rows.boot_sum (Za (ZiF (Zb 0) ZbU ZbU (Zao Zh)) Ze))) (Z7 ZsZ g.b_sum PyProof.Rows.boot_sum (Za (ZiF (Zb 0) (Zao Zh) ZbU (Zao Zh)) Ze))))
  (Zf (ZhF 200 PassesOwn.never (Zz Zg9 (Zb 1) (Zm g.zc12)) (Zj (ZH 1 zc13.nd (Zu ZN (Zu Zaf (Zb 1) (Zm g.zc43)) (Zu Zeh (Zb 1) (Zm g.zc43))))))
  (Zj (Zt (Zb 1)))))
theorem ZxV (D:Def0 K mg "sum_of" ZkJ Zo9) (g:Glb K mg) (zd13:MDef P w K mg base 1 "folded" Zc0):MDef P w K mg base 2 "sum_of" Zew:=
  ZV D zc14 1 1 rfl rfl fun f cdv A outer s H E hr=>(Zj (Zt (Zu ZeC (Zm g.zc12) (Zi zd13 hr (by decide) (Za (Zb 0) Ze)))))
theorem ZxT (D:Def0 K mg "has" ZkH Zo7) (g:Glb K mg) :MDef P w K mg base 1 "has" Zfc:=
  ZV D zc16 2 2 rfl rfl fun f cdv A outer s H E hr=>(Zj (Zt (ZcA (Zz (ZdZ hr.units) (Zu ZvG (Zb 0) (Zb 1)) Zh) Zh Zh)))
theorem ZxU (D:Def0 K mg "length" ZkI Zo8) (g:Glb K mg) (zd16:MDef P w K mg base 1 "has" Zfc):MDef P w K mg base 2 "length" Zcq:=
  ZV D zc15 1 2 rfl rfl fun f cdv A outer s H E hr=>(Zf (ZH 1 zc15.nd (ZB ZC (Zb 0) (Zm g.zc8)))
  (Zj (Zt (Zu ZN (Zu ZN (Z7 Zdm g.b_len PySem.boot_len (Za (ZB ZC (Zb 0) (Zm g.zc5)) Ze)) (Zi zd16 hr (by decide) (Za (Zb 1) (Za (Zm g.zc35) Ze)))) (Zi zd16 hr (by decide) (Za (Zb 1) (Za (Zm g.zc6) Ze)))))))
theorem ZxS (D:Def0 K mg "bears" ZkG Zo6) (g:Glb K mg) (zd16:MDef P w K mg base 1 "has" Zfc):MDef P w K mg base 2 "bears" Z3:=
  ZV D zc17 2 2 rfl rfl fun f cdv A outer s H E hr=>(Zj (Zt (zI (zV hr.units) (Zi zd16 hr (by decide) (Za (ZB ZC (Zb 0) (Zm g.zc8)) (Za (Zb 1) Ze))) Zh)))
theorem ZxP (D:Def0 K mg "byte_of_head" ZkD Zo3) (g:Glb K mg) :MDef P w K mg base 1 "byte_of_head" zP:=
  ZV D zc20 1 1 rfl rfl fun f cdv A outer s H E hr=>(Zj (Zt (Zu Zb7 Zh (Zu Zeh (Zb 0) Zh))))
theorem ZxN (D:Def0 K mg "two_bytes" ZkB Zo1) (g:Glb K mg) :MDef P w K mg base 1 "two_bytes" zi:=
  ZV D zc22 1 1 rfl rfl fun f cdv A outer s H E hr=>(Zj (Zt (Zak (Za (Zu Zaf (Zu Zeh (Zb 0) Zh) Zh) (Za (Zu Zaf (Zb 0) Zh) Ze)))))
theorem ZxM (D:Def0 K mg "four_bytes" ZkA Zo0) (g:Glb K mg) (zd22:MDef P w K mg base 1 "two_bytes" zi):MDef P w K mg base 2 "four_bytes" Zbl:=
  ZV D zc23 1 1 rfl rfl fun f cdv A outer s H E hr=>(Zj (Zt (Zu ZN (Zi zd22 hr (by decide) (Za (Zu Zeh (Zb 0) Zh) Ze)) (Zi zd22 hr (by decide) (Za (Zb 0) Ze)))))
theorem ZxQ (D:Def0 K mg "bytes_ahead_of_sum" ZkE Zo4) (g:Glb K mg) (zd20:MDef P w K mg base 1 "byte_of_head" zP) (zd23:MDef P w K mg base 2 "four_bytes" Zbl) (zd22:MDef P w K mg base 1 "two_bytes" zi):MDef P w K mg base 3 "bytes_ahead_of_sum" zO:=
  ZV D zc19 1 4 rfl rfl fun f cdv A outer s H E hr=>(Zf (ZH 1 zc19.nd (Zu ZN (Zi zd22 hr (by decide) (Za (ZB ZC (Zb 0) (Zm g.zc34)) Ze)) (Zi zd22 hr (by decide) (Za (ZB ZC (Zb 0) (Zm g.zc9)) Ze))))
  (Zf (ZH 2 zc19.nd (Zu ZN (Zi zd23 hr (by decide) (Za (ZB ZC (Zb 0) (Zm g.zc24)) Ze)) (Zi zd23 hr (by decide) (Za (ZB ZC (Zb 0) (Zm g.zc1)) Ze))))
  (Zf (ZH 3 zc19.nd (ZcA (Zz (zV hr.units) (ZB ZC (Zb 0) (Zm g.zc20)) Zh) (Zm g.zc33) (Zm g.zc19)))
  (Zj (Zt (Zu ZN (Zu ZN (Zu ZN (Zb 1) (Zb 2)) (Zak (Za (Zi zd20 hr (by decide) (Za (Zb 3) Ze)) (Za (ZB ZC (Zb 0) (Zm g.zc8)) Ze)))) (Zi zd22 hr (by decide) (Za (ZB ZC (Zb 0) (Zm g.zc42)) Ze))))))))
theorem ZxO (D:Def0 K mg "bytes_of_most" ZkC Zo2) (g:Glb K mg) (zd22:MDef P w K mg base 1 "two_bytes" zi):MDef P w K mg base 2 "bytes_of_most" ZaY:=
  ZV D zc21 1 1 rfl rfl fun f cdv A outer s H E hr=>(Zj (Zt (ZcA (Zz (zV hr.units) (Zb 0) Zh) (Zak Ze) (Zu ZN (Zak (Za Zh (Za Zh Ze))) (Zi zd22 hr (by decide) (Za (Zb 0) Ze))))))
theorem ZxR (D:Def0 K mg "put" ZkF Zo5) (g:Glb K mg) (zd19:MDef P w K mg base 3 "bytes_ahead_of_sum" zO) (zd21:MDef P w K mg base 2 "bytes_of_most" ZaY) (zd14:MDef P w K mg base 2 "sum_of" Zew) (zd22:MDef P w K mg base 1 "two_bytes" zi):MDef P w K mg base 4 "put" Zk6:=
  ZV D zc18 1 3 rfl rfl fun f cdv A outer s H E hr=>(Zf (ZH 1 zc18.nd (Zi zd19 hr (by decide) (Za (Zb 0) Ze)))
  (Zf (ZH 2 zc18.nd (Zu ZN (Zu ZN (Zak (Za Zh (Za Zh Ze))) (Zi zd21 hr (by decide) (Za (ZB ZC (Zb 0) (Zm g.zc20)) Ze))) (Zch ZqR g.b_list PyProof.Rows.boot_list (Za (ZB ZC (Zb 0) (Zm g.zc5)) Ze))))
  (Zj (Zt (Zu ZN (Zu ZN (Zb 1) (Zi zd22 hr (by decide) (Za (Zi zd14 hr (by decide) (Za (Zu ZN (Zu ZN (Zb 1) (Zak (Za Zh (Za Zh Ze)))) (Zb 2)) Ze)) Ze))) (Zb 2))))))
theorem ZxK (D:Def0 K mg "head_of" Zky ZoY) (g:Glb K mg) :MDef P w K mg base 1 "head_of" Zbk:=
  ZV D zc25 1 1 rfl rfl fun f cdv A outer s H E hr=>(Zj (Zt (Zu Zb7 (Zu Zeh (ZB ZC (Zb 0) Zh) Zh) Zh)))
theorem ZxH (D:Def0 K mg "two_at" Zkv ZoV) (g:Glb K mg) :MDef P w K mg base 1 "two_at" Zab:=
  ZV D zc28 2 2 rfl rfl fun f cdv A outer s H E hr=>(Zj (Zt (Zu ZN (Zu Zb7 Zh (ZB ZC (Zb 0) (Zb 1))) (ZB ZC (Zb 0) (Zu ZN (Zb 1) Zh)))))
theorem ZxJ (D:Def0 K mg "is_right_long_head" Zkx ZoX) (g:Glb K mg) (zd16:MDef P w K mg base 1 "has" Zfc) (zd28:MDef P w K mg base 1 "two_at" Zab):MDef P w K mg base 2 "is_right_long_head" zN:=
  ZV D zc26 1 1 rfl rfl fun f cdv A outer s H E hr=>(Zj (Zt (ZbG (zI (zV hr.units) (Zi zd16 hr (by decide) (Za (ZB ZC (Zb 0) Zh) (Za (Zm g.zc35) Ze))) Zh) (ZbG (zI (zV hr.units) (ZB ZC (Zb 0) Zh) Zh) (ZbG (zI (zV hr.units) (ZB ZC (Zb 0) Zh) Zh) (Zc1 (zI ZrR (Zi zd28 hr (by decide) (Za (Zb 0) (Za Zh Ze))) (Zm g.zc16))))))))
theorem ZxL (D:Def0 K mg "is_right" Zkz ZoZ) (g:Glb K mg) (zd20:MDef P w K mg base 1 "byte_of_head" zP) (zd13:MDef P w K mg base 1 "folded" Zc0) (zd25:MDef P w K mg base 1 "head_of" Zbk) (zd26:MDef P w K mg base 2 "is_right_long_head" zN) (zd28:MDef P w K mg base 1 "two_at" Zab):MDef P w K mg base 3 "is_right" Zad:=
  ZV D zc24 1 1 rfl rfl fun f cdv A outer s H E hr=>(Zj (Zt (ZbG (zI ZrR (Z7 Zdm g.b_len PySem.boot_len (Za (Zb 0) Ze)) (Zm g.zc33)) (ZbG (zI Zjc (ZB ZC (Zb 0) Zh) (ZU (Za (Zi zd20 hr (by decide) (Za (Zm g.zc33) Ze)) (Za (Zi zd20 hr (by decide) (Za (Zm g.zc19) Ze)) Ze))) (by with_unfolding_all rfl)) (ZbG (zI ZhC (ZB ZC (Zb 0) Zh) (Zm g.zc11)) (ZbG (ZfP ZhC ZhC Zh (Zu ZeC (Z7 Zdm g.b_len PySem.boot_len (Za (Zb 0) Ze)) (Zi zd25 hr (by decide) (Za (Zb 0) Ze))) (Zm g.zc10)) (ZbG (zI (zV hr.units) (Zi zd28 hr (by decide) (Za (Zb 0) (Za Zh Ze))) Zh) (ZbG (ZmO (zI (zV hr.units) (Zi zd25 hr (by decide) (Za (Zb 0) Ze)) (Zm g.zc33)) (Zc1 (Zi zd26 hr (by decide) (Za (Zb 0) Ze)))) (Zc1 (zI (zV hr.units) (Zi zd13 hr (by decide) (Za (Zb 0) Ze)) (Zm g.zc29)))))))))))
theorem ZxG (D:Def0 K mg "four_at" Zku ZoU) (g:Glb K mg) (zd28:MDef P w K mg base 1 "two_at" Zab):MDef P w K mg base 2 "four_at" ZcQ:=
  ZV D zc29 2 2 rfl rfl fun f cdv A outer s H E hr=>(Zj (Zt (Zu ZN (Zu Zb7 Zh (Zi zd28 hr (by decide) (Za (Zb 0) (Za (Zb 1) Ze)))) (Zi zd28 hr (by decide) (Za (Zb 0) (Za (Zu ZN (Zb 1) Zh) Ze))))))
theorem ZxI (D:Def0 K mg "get" Zkw ZoW) (g:Glb K mg) (zd29:MDef P w K mg base 2 "four_at" ZcQ) (zd25:MDef P w K mg base 1 "head_of" Zbk) (zd24:MDef P w K mg base 3 "is_right" Zad) (zd28:MDef P w K mg base 1 "two_at" Zab):MDef P w K mg base 4 "get" Ziy:=
  ZV D zc27 1 5 rfl rfl fun f cdv A outer s H E hr=>(Zf (ZI (Zbd (ZE (Zi zd24 hr (by decide) (Za (Zb 0) Ze)))) (Zj Zqd) Zy)
  (Zf (ZH 1 zc27.nd (Zi zd25 hr (by decide) (Za (Zb 0) Ze)))
  (Zf (ZH 2 zc27.nd (ZcA (Zz (zV hr.units) (Zb 1) (Zm g.zc19)) (Zi zd28 hr (by decide) (Za (Zb 0) (Za Zh Ze))) Zh))
  (Zf (ZH 3 zc27.nd (ZU (Za (Zi zd28 hr (by decide) (Za (Zb 0) (Za Zh Ze))) (Za (Zi zd28 hr (by decide) (Za (Zb 0) (Za Zh Ze))) Ze))))
  (Zf (ZH 4 zc27.nd (ZU (Za (Zi zd29 hr (by decide) (Za (Zb 0) (Za Zh Ze))) (Za (Zi zd29 hr (by decide) (Za (Zb 0) (Za Zh Ze))) Ze))))
  (Zj (Zt (Zu ZN (Zu ZN (Zb 3) (Zb 4)) (ZU (Za (ZB ZC (Zb 0) Zh) (Za (Zi zd28 hr (by decide) (Za (Zb 0) (Za Zh Ze))) (Za (Zb 2) (Za (Zch Zhj g.b_tuple PyProof.Rows.boot_tuple (Za (Zbe (Zb 0) (Zao (Zb 1)) ZbU) Ze)) Ze)))))))))))))
theorem ZxF (D:Def0 K mg "opened" Zkt ZoT) (g:Glb K mg) (zd7:MMk P w K mg base 3 "End" Zcf):MDef P w K mg base 5 "opened" Zey:=
  ZV D zc30 4 4 rfl rfl fun f cdv A outer s H E hr=>(Zj (Zt (ZrX zd7 hr (by decide) (Za (Zb 0) (Za (Zb 1) (Za (Zb 2) (Za (Zb 3) Ze)))))))
theorem ZxE (D:Def0 K mg "write" Zks ZoS) (g:Glb K mg) (zd2:MDef P w K mg base 2 "lay" ZfH) (zd4:MDef P w K mg base 1 "plus" zn):MDef P w K mg base 3 "write" Zbz:=
  ZV D zc31 2 3 rfl rfl fun f cdv A outer s H E hr=>(Zf (ZI (MW.mt (Zbx (ZE (Zl (Zr ⟨g.k_End,g.zn6⟩) (Zb 0))) (zG (Zz ZfK (Zl (Zr ⟨g.k_End,g.zn16⟩) (Zb 0)) (ZU (Za (Zw g.zc37) (Za (Zw g.zc36) (Za (Zw g.zc25) (Za (Zw g.zc3) Ze))))) (by with_unfolding_all rfl))))) (Zj (Zt Zh)) Zy)
  (Zf (ZH 2 zc31.nd (Zi zd2 hr (by decide) (Za (Zl (Zr ⟨g.k_End,g.zn24⟩) (Zb 0)) (Za (Zb 1) Ze))))
  (Zf (Zv (Zr ⟨g.k_End,g.zn0⟩) (Zb 0) (Zi zd4 hr (by decide) (Za (Zl (Zr ⟨g.k_End,g.zn0⟩) (Zb 0)) (Za (Zb 2) Ze))))
  (Zj (Zt (Zb 2))))))
theorem ZxD (D:Def0 K mg "read" Zkr ZoR) (g:Glb K mg) (zd11:MDef P w K mg base 2 "our_window" zK) (zd3:MDef P w K mg base 1 "take" Zca):MDef P w K mg base 3 "read" ZdW:=
  ZV D zc32 2 4 rfl rfl fun f cdv A outer s H E hr=>(Zf (ZH 2 zc32.nd (zI (zV hr.units) (Zi zd11 hr (by decide) (Za (Zb 0) Ze)) Zh))
  (Zf (ZH 3 zc32.nd (Zi zd3 hr (by decide) (Za (Zl (Zr ⟨g.k_End,g.zn1⟩) (Zb 0)) (Za (Zb 1) Ze))))
  (Zf (ZI (MW.mt (Zds (ZE (Zb 2)) (Zds (Zz Zg9 (Zi zd11 hr (by decide) (Za (Zb 0) Ze)) Zh) (Zbc (Zz Zjc (Zl (Zr ⟨g.k_End,g.zn16⟩) (Zb 0)) (ZU (Za (Zw g.zc25) (Za (Zw g.zc40) (Za (Zw g.zc41) Ze)))) (by with_unfolding_all rfl)))))) (Zj (Zv (Zr ⟨g.k_End,g.zn11⟩) (Zb 0) zm)) Zy)
  (Zj (Zt (Zb 3))))))
theorem ZxC (D:Def0 K mg "close" Zkq ZoQ) (g:Glb K mg) :MDef P w K mg base 1 "close" ZdY:=
  ZV D zc33 1 1 rfl rfl fun f cdv A outer s H E hr=>(Zf (ZI (ZE (Zl (Zr ⟨g.k_End,g.zn6⟩) (Zb 0))) (Zj (Zt zm)) Zy)
  (Zf (ZI (Zz Zjc (Zl (Zr ⟨g.k_End,g.zn16⟩) (Zb 0)) (ZU (Za (Zw g.zc17) (Za (Zw g.zc37) Ze))) (by with_unfolding_all rfl)) (Zf (Zv (Zr ⟨g.k_End,g.zn16⟩) (Zb 0) (Zw g.zc2))
    (Zj (Zt zm))) Zy)
  (Zf (ZI (Zz ZfK (Zl (Zr ⟨g.k_End,g.zn16⟩) (Zb 0)) (ZU (Za (Zw g.zc36) (Za (Zw g.zc25) (Za (Zw g.zc3) Ze)))) (by with_unfolding_all rfl)) (Zj (Zt zm)) Zy)
  (Zf (Zv (Zr ⟨g.k_End,g.zn6⟩) (Zb 0) zm)
  (Zf (ZI (Zz (zV hr.units) (Zl (Zr ⟨g.k_End,g.zn16⟩) (Zb 0)) (Zw g.zc25)) (Zj (Zv (Zr ⟨g.k_End,g.zn16⟩) (Zb 0) (Zw g.zc40))) (Zj (ZI (Zz (zV hr.units) (Zl (Zr ⟨g.k_End,g.zn16⟩) (Zb 0)) (Zw g.zc3)) (Zj (Zv (Zr ⟨g.k_End,g.zn16⟩) (Zb 0) (Zw g.zc14))) Zy)))
  (Zj (Zt zm)))))))
theorem ZxB (D:Def0 K mg "abort" Zkp ZoP) (g:Glb K mg) :MDef P w K mg base 1 "abort" Ze3:=
  ZV D zc34 1 1 rfl rfl fun f cdv A outer s H E hr=>(Zf (ZI (Zz (zV hr.units) (Zl (Zr ⟨g.k_End,g.zn16⟩) (Zb 0)) (Zw g.zc2)) (Zj (Zt zm)) Zy)
  (Zf (ZI (Zz ZfK (Zl (Zr ⟨g.k_End,g.zn16⟩) (Zb 0)) (ZU (Za (Zw g.zc17) (Za (Zw g.zc37) (Za (Zw g.zc39) Ze)))) (by with_unfolding_all rfl)) (Zj (Zv (Zr ⟨g.k_End,g.zn10⟩) (Zb 0) (ZU (Za (Zl (Zr ⟨g.k_End,g.zn9⟩) (Zb 0)) (Za (Zl (Zr ⟨g.k_End,g.zn17⟩) (Zb 0)) (Za (Zl (Zr ⟨g.k_End,g.zn8⟩) (Zb 0)) (Za Zh (Za (Zm g.zc32) (Za Zh (Za Zh (Za (ZU Ze) Ze))))))))))) Zy)
  (Zf (Zv (Zr ⟨g.k_End,g.zn16⟩) (Zb 0) (Zw g.zc2))
  (Zj (Zt zm)))))
theorem ZxA (D:Def0 K mg "reset_for" Zko ZoO) (g:Glb K mg) (zd17:MDef P w K mg base 2 "bears" Z3) (zd15:MDef P w K mg base 2 "length" Zcq) (zd4:MDef P w K mg base 1 "plus" zn):MDef P w K mg base 3 "reset_for" ZbI:=
  ZV D zc35 1 2 rfl rfl fun f cdv A outer s H E hr=>(Zf (ZH 1 zc35.nd (ZU (Za (ZB ZC (Zb 0) (Zm g.zc9)) (Za (ZB ZC (Zb 0) (Zm g.zc34)) Ze))))
  (Zf (ZI (ZE (Zi zd17 hr (by decide) (Za (Zb 0) (Za (Zm g.zc0) Ze)))) (Zj (Zt (Zu ZN (Zb 1) (ZU (Za (ZB ZC (Zb 0) (Zm g.zc1)) (Za Zh (Za (Zm g.zc32) (Za Zh (Za Zh (Za (ZU Ze) Ze)))))))))) Zy)
  (Zj (Zt (Zu ZN (Zb 1) (ZU (Za Zh (Za (Zi zd4 hr (by decide) (Za (ZB ZC (Zb 0) (Zm g.zc24)) (Za (Zi zd15 hr (by decide) (Za (Zb 0) Ze)) Ze))) (Za (Zu ZN (Zm g.zc32) (Zm g.zc0)) (Za Zh (Za Zh (Za (ZU Ze) Ze))))))))))))
theorem Zxz (D:Def0 K mg "owe_reset_for" Zkn ZoN) (g:Glb K mg) (zd17:MDef P w K mg base 2 "bears" Z3) (zd35:MDef P w K mg base 3 "reset_for" ZbI):MDef P w K mg base 4 "owe_reset_for" ZY:=
  ZV D zc36 2 2 rfl rfl fun f cdv A outer s H E hr=>(Zj (ZI (Zbd (ZE (Zi zd17 hr (by decide) (Za (Zb 1) (Za (Zm g.zc32) Ze))))) (Zj (Zv (Zr ⟨g.k_End,g.zn10⟩) (Zb 0) (Zi zd35 hr (by decide) (Za (Zb 1) Ze)))) Zy))
theorem Zxy (D:Def0 K mg "come_to_closed" Zkm ZoM) (g:Glb K mg) (zd36:MDef P w K mg base 4 "owe_reset_for" ZY):MDef P w K mg base 5 "come_to_closed" ZaG:=
  ZV D zc37 2 2 rfl rfl fun f cdv A outer s H E hr=>(Zj (ZT (Zi zd36 hr (by decide) (Za (Zb 0) (Za (Zb 1) Ze)))))
theorem Zxw (D:Def0 K mg "hear_syn" Zkk ZoK) (g:Glb K mg) (zd17:MDef P w K mg base 2 "bears" Z3) (zd4:MDef P w K mg base 1 "plus" zn):MDef P w K mg base 3 "hear_syn" ZbE:=
  ZV D zc39 2 2 rfl rfl fun f cdv A outer s H E hr=>(Zf (Zv (Zr ⟨g.k_End,g.zn14⟩) (Zb 0) (Zi zd4 hr (by decide) (Za (ZB ZC (Zb 1) (Zm g.zc24)) (Za Zh Ze))))
  (Zf (Zv (Zr ⟨g.k_End,g.zn23⟩) (Zb 0) (ZB ZC (Zb 1) (Zm g.zc42)))
  (Zf (Zv (Zr ⟨g.k_End,g.zn18⟩) (Zb 0) (ZB ZC (Zb 1) (Zm g.zc24)))
  (Zf (Zv (Zr ⟨g.k_End,g.zn19⟩) (Zb 0) (ZcA (ZE (Zi zd17 hr (by decide) (Za (Zb 1) (Za (Zm g.zc0) Ze)))) (ZB ZC (Zb 1) (Zm g.zc1)) Zh))
  (Zj (ZI (Zz (ZdZ hr.units) (ZB ZC (Zb 1) (Zm g.zc20)) Zh) (Zj (Zv (Zr ⟨g.k_End,g.zn7⟩) (Zb 0) (ZB ZC (Zb 1) (Zm g.zc20)))) Zy))))))
theorem Zxx (D:Def0 K mg "come_to_listen" Zkl ZoL) (g:Glb K mg) (zd17:MDef P w K mg base 2 "bears" Z3) (zd39:MDef P w K mg base 3 "hear_syn" ZbE) (zd36:MDef P w K mg base 4 "owe_reset_for" ZY):MDef P w K mg base 5 "come_to_listen" zv:=
  ZV D zc38 2 2 rfl rfl fun f cdv A outer s H E hr=>(Zf (ZI (ZE (Zi zd17 hr (by decide) (Za (Zb 1) (Za (Zm g.zc32) Ze)))) (Zj Zd0) Zy)
  (Zj (ZI (ZE (Zi zd17 hr (by decide) (Za (Zb 1) (Za (Zm g.zc0) Ze)))) (Zj (ZT (Zi zd36 hr (by decide) (Za (Zb 0) (Za (Zb 1) Ze))))) (Zj (ZI (ZE (Zi zd17 hr (by decide) (Za (Zb 1) (Za (Zm g.zc35) Ze)))) (Zf (Zv (Zr ⟨g.k_End,g.zn17⟩) (Zb 0) (ZB ZC (Zb 1) (Zm g.zc34)))
      (Zf (ZT (Zi zd39 hr (by decide) (Za (Zb 0) (Za (Zb 1) Ze))))
      (Zj (Zv (Zr ⟨g.k_End,g.zn16⟩) (Zb 0) (Zw g.zc36))))) Zy)))))
theorem Zxu (D:Def0 K mg "answers_syn" Zki ZoI) (g:Glb K mg) (zd4:MDef P w K mg base 1 "plus" zn):MDef P w K mg base 2 "answers_syn" Zbw:=
  ZV D zc41 2 2 rfl rfl fun f cdv A outer s H E hr=>(Zj (Zt (ZbG (zI (ZdZ hr.units) (Zl (Zr ⟨g.k_End,g.zn8⟩) (Zb 0)) (Zl (Zr ⟨g.k_End,g.zn5⟩) (Zb 0))) (Zc1 (zI (zV hr.units) (ZB ZC (Zb 1) (Zm g.zc1)) (Zi zd4 hr (by decide) (Za (Zl (Zr ⟨g.k_End,g.zn5⟩) (Zb 0)) (Za Zh Ze))))))))
theorem Zxs (D:Def0 K mg "go_on_from_syn_sent" Zkg ZoG) (g:Glb K mg) (zd17:MDef P w K mg base 2 "bears" Z3) (zd8:MDef P w K mg base 1 "start_timer" Z8):MDef P w K mg base 3 "go_on_from_syn_sent" zF:=
  ZV D zc43 3 3 rfl rfl fun f cdv A outer s H E hr=>(Zj (ZI (ZE (Zi zd17 hr (by decide) (Za (Zb 1) (Za (Zm g.zc0) Ze)))) (Zf (Zv (Zr ⟨g.k_End,g.zn21⟩) (Zb 0) (ZB ZC (Zb 1) (Zm g.zc1)))
    (Zf (Zv (Zr ⟨g.k_End,g.zn16⟩) (Zb 0) (Zw g.zc25))
    (Zj (Zv (Zr ⟨g.k_End,g.zn11⟩) (Zb 0) zm)))) (Zf (Zv (Zr ⟨g.k_End,g.zn16⟩) (Zb 0) (Zw g.zc36))
    (Zf (ZT (Zi zd8 hr (by decide) (Za (Zb 0) (Za (Zb 2) Ze))))
    (Zj (Zv (Zr ⟨g.k_End,g.zn12⟩) (Zb 0) zm))))))
theorem Zxt (D:Def0 K mg "refuse" Zkh ZoH) (g:Glb K mg) (zd17:MDef P w K mg base 2 "bears" Z3):MDef P w K mg base 3 "refuse" Zex:=
  ZV D zc42 2 2 rfl rfl fun f cdv A outer s H E hr=>(Zj (ZI (ZE (Zi zd17 hr (by decide) (Za (Zb 1) (Za (Zm g.zc0) Ze)))) (Zf (Zv (Zr ⟨g.k_End,g.zn16⟩) (Zb 0) (Zw g.zc2))
    (Zj (Zv (Zr ⟨g.k_End,g.zn4⟩) (Zb 0) (Zw g.zc27)))) Zy))
theorem Zxv (D:Def0 K mg "come_to_syn_sent" Zkj ZoJ) (g:Glb K mg) (zd41:MDef P w K mg base 2 "answers_syn" Zbw) (zd17:MDef P w K mg base 2 "bears" Z3) (zd43:MDef P w K mg base 3 "go_on_from_syn_sent" zF) (zd39:MDef P w K mg base 3 "hear_syn" ZbE) (zd36:MDef P w K mg base 4 "owe_reset_for" ZY) (zd42:MDef P w K mg base 3 "refuse" Zex):MDef P w K mg base 5 "come_to_syn_sent" ZR:=
  ZV D zc40 3 3 rfl rfl fun f cdv A outer s H E hr=>(Zj (ZI (MW.mt (Zds (ZE (Zi zd17 hr (by decide) (Za (Zb 1) (Za (Zm g.zc0) Ze)))) (Zbc (Zbd (ZE (Zi zd41 hr (by decide) (Za (Zb 0) (Za (Zb 1) Ze)))))))) (Zj (ZT (Zi zd36 hr (by decide) (Za (Zb 0) (Za (Zb 1) Ze))))) (Zj (ZI (ZE (Zi zd17 hr (by decide) (Za (Zb 1) (Za (Zm g.zc32) Ze)))) (Zj (ZT (Zi zd42 hr (by decide) (Za (Zb 0) (Za (Zb 1) Ze))))) (Zj (ZI (ZE (Zi zd17 hr (by decide) (Za (Zb 1) (Za (Zm g.zc35) Ze)))) (Zf (ZT (Zi zd39 hr (by decide) (Za (Zb 0) (Za (Zb 1) Ze))))
        (Zj (ZT (Zi zd43 hr (by decide) (Za (Zb 0) (Za (Zb 1) (Za (Zb 2) Ze))))))) Zy))))))
theorem Zxn (D:Def0 K mg "is_in_window" Zkb ZoB) (g:Glb K mg) (zd5:MDef P w K mg base 1 "offset" zA) (zd11:MDef P w K mg base 2 "our_window" zK):MDef P w K mg base 3 "is_in_window" zj:=
  ZV D Zyr 2 2 rfl rfl fun f cdv A outer s H E hr=>(Zj (Zt (ZfP ZhC Zt5 Zh (Zi zd5 hr (by decide) (Za (Zb 1) (Za (Zl (Zr ⟨g.k_End,g.zn14⟩) (Zb 0)) Ze))) (Zi zd11 hr (by decide) (Za (Zb 0) Ze)))))
theorem Zxo (D:Def0 K mg "fits" Zkc ZoC) (g:Glb K mg) (zd48:MDef P w K mg base 3 "is_in_window" zj) (zd15:MDef P w K mg base 2 "length" Zcq) (zd5:MDef P w K mg base 1 "offset" zA) (zd4:MDef P w K mg base 1 "plus" zn):MDef P w K mg base 4 "fits" Zgg:=
  ZV D zc47 2 4 rfl rfl fun f cdv A outer s H E hr=>(Zf (ZH 2 zc47.nd (Zi zd15 hr (by decide) (Za (Zb 1) Ze)))
  (Zf (ZI (Zz (zV hr.units) (Zb 2) Zh) (Zj (Zt (ZfP ZhC ZhC Zh (Zi zd5 hr (by decide) (Za (ZB ZC (Zb 1) (Zm g.zc24)) (Za (Zl (Zr ⟨g.k_End,g.zn14⟩) (Zb 0)) Ze))) (Zm g.zc30)))) Zy)
  (Zf (ZH 3 zc47.nd (Zi zd4 hr (by decide) (Za (ZB ZC (Zb 1) (Zm g.zc24)) (Za (Zu ZeC (Zb 2) Zh) Ze))))
  (Zj (Zt (ZmO (Zi zd48 hr (by decide) (Za (Zb 0) (Za (ZB ZC (Zb 1) (Zm g.zc24)) Ze))) (Zc1 (Zi zd48 hr (by decide) (Za (Zb 0) (Za (Zb 3) Ze))))))))))
theorem Zxf (D:Def0 K mg "end_what_is_acknowledged" Zj3 Zot) (g:Glb K mg) (zd12:MDef P w K mg base 3 "has_sent_fin" Zbb):MDef P w K mg base 4 "end_what_is_acknowledged" ZQ:=
  ZV D Zyk 2 2 rfl rfl fun f cdv A outer s H E hr=>(Zf (ZI (MW.mt (Zbx (Zbd (ZE (Zi zd12 hr (by decide) (Za (Zb 0) Ze)))) (zG (Zz (ZdZ hr.units) (Zl (Zr ⟨g.k_End,g.zn21⟩) (Zb 0)) (Zl (Zr ⟨g.k_End,g.zn8⟩) (Zb 0)))))) (Zj Zd0) Zy)
  (Zj (ZI (Zz (zV hr.units) (Zl (Zr ⟨g.k_End,g.zn16⟩) (Zb 0)) (Zw g.zc40)) (Zj (Zv (Zr ⟨g.k_End,g.zn16⟩) (Zb 0) (Zw g.zc41))) (Zj (ZI (Zz (zV hr.units) (Zl (Zr ⟨g.k_End,g.zn16⟩) (Zb 0)) (Zw g.zc4)) (Zf (Zv (Zr ⟨g.k_End,g.zn16⟩) (Zb 0) (Zw g.zc39))
      (Zj (Zv (Zr ⟨g.k_End,g.zn15⟩) (Zb 0) (Zb 1)))) (Zj (ZI (Zz (zV hr.units) (Zl (Zr ⟨g.k_End,g.zn16⟩) (Zb 0)) (Zw g.zc14)) (Zj (Zv (Zr ⟨g.k_End,g.zn16⟩) (Zb 0) (Zw g.zc2))) Zy)))))))
theorem Zxi (D:Def0 K mg "take_window" Zj6 Zow) (g:Glb K mg) :MDef P w K mg base 1 "take_window" ZaC:=
  ZV D Zym 2 2 rfl rfl fun f cdv A outer s H E hr=>(Zf (Zv (Zr ⟨g.k_End,g.zn23⟩) (Zb 0) (ZB ZC (Zb 1) (Zm g.zc42)))
  (Zf (Zv (Zr ⟨g.k_End,g.zn18⟩) (Zb 0) (ZB ZC (Zb 1) (Zm g.zc24)))
  (Zj (Zv (Zr ⟨g.k_End,g.zn19⟩) (Zb 0) (ZB ZC (Zb 1) (Zm g.zc1))))))
theorem Zxj (D:Def0 K mg "has_answered_syn" Zj7 Zox) (g:Glb K mg) (zd36:MDef P w K mg base 4 "owe_reset_for" ZY) (zd53:MDef P w K mg base 1 "take_window" ZaC):MDef P w K mg base 5 "has_answered_syn" zo:=
  ZV D Zyn 2 2 rfl rfl fun f cdv A outer s H E hr=>(Zf (ZI (MW.mt (Zbx (Zz (zV hr.units) (Zl (Zr ⟨g.k_End,g.zn8⟩) (Zb 0)) (Zl (Zr ⟨g.k_End,g.zn5⟩) (Zb 0))) (zG (Zz (ZdZ hr.units) (ZB ZC (Zb 1) (Zm g.zc1)) (Zl (Zr ⟨g.k_End,g.zn8⟩) (Zb 0)))))) (Zf (ZT (Zi zd36 hr (by decide) (Za (Zb 0) (Za (Zb 1) Ze))))
    (Zj (Zt zm))) Zy)
  (Zf (Zv (Zr ⟨g.k_End,g.zn21⟩) (Zb 0) (ZB ZC (Zb 1) (Zm g.zc1)))
  (Zf (Zv (Zr ⟨g.k_End,g.zn16⟩) (Zb 0) (ZcA (ZE (Zl (Zr ⟨g.k_End,g.zn6⟩) (Zb 0))) (Zw g.zc40) (Zw g.zc25)))
  (Zf (ZT (Zi zd53 hr (by decide) (Za (Zb 0) (Za (Zb 1) Ze))))
  (Zj (Zt zm))))))
theorem Zxg (D:Def0 K mg "is_newer" Zj4 Zou) (g:Glb K mg) (zd6:MDef P w K mg base 2 "past" Zcb):MDef P w K mg base 3 "is_newer" ZcY:=
  ZV D Zyl 2 2 rfl rfl fun f cdv A outer s H E hr=>(Zf (ZI (Zz (zV hr.units) (ZB ZC (Zb 1) (Zm g.zc24)) (Zl (Zr ⟨g.k_End,g.zn18⟩) (Zb 0))) (Zj (Zt (Zqg (Zi zd6 hr (by decide) (Za (Zl (Zr ⟨g.k_End,g.zn19⟩) (Zb 0)) (Za (ZB ZC (Zb 1) (Zm g.zc1)) Ze)))))) Zy)
  (Zj (Zt (Zi zd6 hr (by decide) (Za (ZB ZC (Zb 1) (Zm g.zc24)) (Za (Zl (Zr ⟨g.k_End,g.zn18⟩) (Zb 0)) Ze))))))
theorem Zxh (D:Def0 K mg "hear_answer" Zj5 Zov) (g:Glb K mg) (zd55:MDef P w K mg base 3 "is_newer" ZcY) (zd5:MDef P w K mg base 1 "offset" zA) (zd6:MDef P w K mg base 2 "past" Zcb) (zd8:MDef P w K mg base 1 "start_timer" Z8) (zd3:MDef P w K mg base 1 "take" Zca) (zd53:MDef P w K mg base 1 "take_window" ZaC):MDef P w K mg base 4 "hear_answer" zL:=
  ZV D zc54 3 6 rfl rfl fun f cdv A outer s H E hr=>(Zf (ZH 3 zc54.nd (ZB ZC (Zb 1) (Zm g.zc1)))
  (Zf (ZH 4 zc54.nd (Zi zd6 hr (by decide) (Za (Zb 3) (Za (Zl (Zr ⟨g.k_End,g.zn21⟩) (Zb 0)) Ze))))
  (Zf (ZI (ZE (Zb 4)) (Zf (ZT (Zi zd3 hr (by decide) (Za (Zl (Zr ⟨g.k_End,g.zn24⟩) (Zb 0)) (Za (Zi zd5 hr (by decide) (Za (Zb 3) (Za (Zl (Zr ⟨g.k_End,g.zn21⟩) (Zb 0)) Ze))) Ze))))
    (Zf (Zv (Zr ⟨g.k_End,g.zn21⟩) (Zb 0) (Zb 3))
    (Zj (ZI (Zz (ZdZ hr.units) (Zl (Zr ⟨g.k_End,g.zn21⟩) (Zb 0)) (Zl (Zr ⟨g.k_End,g.zn8⟩) (Zb 0))) (Zj (ZT (Zi zd8 hr (by decide) (Za (Zb 0) (Za (Zb 2) Ze))))) Zy)))) Zy)
  (Zf (ZI (ZE (Zi zd6 hr (by decide) (Za (Zl (Zr ⟨g.k_End,g.zn21⟩) (Zb 0)) (Za (Zb 3) Ze)))) (Zj Zd0) Zy)
  (Zf (ZH 5 zc54.nd (zI (zV hr.units) (Zl (Zr ⟨g.k_End,g.zn23⟩) (Zb 0)) Zh))
  (Zf (ZI (MW.mt (Zbx (ZE (Zb 4)) (zG (ZE (Zi zd55 hr (by decide) (Za (Zb 0) (Za (Zb 1) Ze))))))) (Zj (ZT (Zi zd53 hr (by decide) (Za (Zb 0) (Za (Zb 1) Ze))))) Zy)
  (Zj (ZI (MW.mt (Zbx (ZE (Zb 5)) (zG (Zz (zV hr.units) (Zl (Zr ⟨g.k_End,g.zn23⟩) (Zb 0)) Zh)))) (Zj (Zv (Zr ⟨g.k_End,g.zn20⟩) (Zb 0) Zh)) Zy))))))))
theorem Zxk (D:Def0 K mg "goes_on_behind_answer" Zj8 Zoy) (g:Glb K mg) (zd56:MDef P w K mg base 4 "end_what_is_acknowledged" ZQ) (zd52:MDef P w K mg base 5 "has_answered_syn" zo) (zd54:MDef P w K mg base 4 "hear_answer" zL) (zd6:MDef P w K mg base 2 "past" Zcb):MDef P w K mg base 6 "goes_on_behind_answer" ZZ:=
  ZV D Zyo 3 3 rfl rfl fun f cdv A outer s H E hr=>(Zf (ZI (Zz (zV hr.units) (Zl (Zr ⟨g.k_End,g.zn16⟩) (Zb 0)) (Zw g.zc36)) (Zj (Zt (Zi zd52 hr (by decide) (Za (Zb 0) (Za (Zb 1) Ze))))) Zy)
  (Zf (ZI (ZE (Zi zd6 hr (by decide) (Za (ZB ZC (Zb 1) (Zm g.zc1)) (Za (Zl (Zr ⟨g.k_End,g.zn8⟩) (Zb 0)) Ze)))) (Zf (Zv (Zr ⟨g.k_End,g.zn11⟩) (Zb 0) zm)
    (Zj (Zt zm))) Zy)
  (Zf (ZT (Zi zd54 hr (by decide) (Za (Zb 0) (Za (Zb 1) (Za (Zb 2) Ze)))))
  (Zf (ZT (Zi zd56 hr (by decide) (Za (Zb 0) (Za (Zb 2) Ze))))
  (Zj (Zt (zI (ZdZ hr.units) (Zl (Zr ⟨g.k_End,g.zn16⟩) (Zb 0)) (Zw g.zc2))))))))
theorem Zxl (D:Def0 K mg "hear_reset" Zj9 Zoz) (g:Glb K mg) :MDef P w K mg base 1 "hear_reset" Zbj:=
  ZV D Zyp 2 2 rfl rfl fun f cdv A outer s H E hr=>(Zf (ZI (Zz (zV hr.units) (Zl (Zr ⟨g.k_End,g.zn16⟩) (Zb 0)) (Zw g.zc39)) (Zj Zd0) Zy)
  (Zj (ZI (Zz (zV hr.units) (ZB ZC (Zb 1) (Zm g.zc24)) (Zl (Zr ⟨g.k_End,g.zn14⟩) (Zb 0))) (Zf (Zv (Zr ⟨g.k_End,g.zn16⟩) (Zb 0) (Zw g.zc2))
    (Zj (Zv (Zr ⟨g.k_End,g.zn4⟩) (Zb 0) (Zw g.zc28)))) (Zj (Zv (Zr ⟨g.k_End,g.zn11⟩) (Zb 0) zm)))))
theorem Zxb (D:Def0 K mg "draw_in_order" ZjZ Zop) (g:Glb K mg) (zd2:MDef P w K mg base 2 "lay" ZfH) (zd4:MDef P w K mg base 1 "plus" zn):MDef P w K mg base 3 "draw_in_order" ZaX:=
  ZV D zc60 1 2 rfl rfl fun f cdv A outer s H E hr=>(Zf (ZiC 1 zc60.nd Ze)
  (Zf (ZhF 200 PassesOwn.never (MW.mt (Zds (Zz (ZdZ hr.units) (Zl (Zr ⟨g.k_End,g.zn14⟩) (Zb 0)) (Zl (Zr ⟨g.k_End,g.zn3⟩) (Zb 0))) (Zbc (Zt6 hr (Zl (Zr ⟨g.k_End,g.zn14⟩) (Zb 0)) (Zl (Zr ⟨g.k_End,g.zn2⟩) (Zb 0)))))) (Zf (ZiD 1 (ZmP (Zl (Zr ⟨g.k_End,g.zn2⟩) (Zb 0)) (Zl (Zr ⟨g.k_End,g.zn14⟩) (Zb 0)) ⟨rfl,rfl,rfl,rfl⟩) (hpe:=fun h=>ZsN PySem.F.plainAttrs_list PySem.F.slot_list_append PySem.F.type_list_append ZiB h (Zja (ZmP (Zl (Zr ⟨g.k_End,g.zn2⟩) (Zb 0)) (Zl (Zr ⟨g.k_End,g.zn14⟩) (Zb 0)) ⟨rfl,rfl,rfl,rfl⟩) ZlV)))
    (Zj (Zv (Zr ⟨g.k_End,g.zn14⟩) (Zb 0) (Zi zd4 hr (by decide) (Za (Zl (Zr ⟨g.k_End,g.zn14⟩) (Zb 0)) (Za Zh Ze)))))))
  (Zj (Zgj 1 (ZT (Zi zd2 hr (by decide) (Za (Zl (Zr ⟨g.k_End,g.zn1⟩) (Zb 0)) (Za (Zb 1) Ze))))))))
theorem Zxa (D:Def0 K mg "hear_fin" ZjY Zoo) (g:Glb K mg) (zd4:MDef P w K mg base 1 "plus" zn):MDef P w K mg base 2 "hear_fin" Zce:=
  ZV D Zyi 2 2 rfl rfl fun f cdv A outer s H E hr=>(Zf (Zv (Zr ⟨g.k_End,g.zn14⟩) (Zb 0) (Zi zd4 hr (by decide) (Za (Zl (Zr ⟨g.k_End,g.zn14⟩) (Zb 0)) (Za Zh Ze))))
  (Zj (ZI (Zz (zV hr.units) (Zl (Zr ⟨g.k_End,g.zn16⟩) (Zb 0)) (Zw g.zc25)) (Zj (Zv (Zr ⟨g.k_End,g.zn16⟩) (Zb 0) (Zw g.zc3))) (Zj (ZI (Zz (zV hr.units) (Zl (Zr ⟨g.k_End,g.zn16⟩) (Zb 0)) (Zw g.zc40)) (Zj (Zv (Zr ⟨g.k_End,g.zn16⟩) (Zb 0) (Zw g.zc4))) (Zf (Zv (Zr ⟨g.k_End,g.zn16⟩) (Zb 0) (Zw g.zc39))
      (Zj (Zv (Zr ⟨g.k_End,g.zn15⟩) (Zb 0) (Zb 1)))))))))
theorem Zxd (D:Def0 K mg "keep_data" Zj1 Zor) (g:Glb K mg) (zd48:MDef P w K mg base 3 "is_in_window" zj) (zd4:MDef P w K mg base 1 "plus" zn):MDef P w K mg base 4 "keep_data" ZbJ:=
  ZV D zc58 2 5 rfl rfl fun f cdv A outer s H E hr=>(Zf (ZrW 2 3 zc58.nd PassesOwn.never g.b_enumerate (Za (ZB ZC (Zb 1) (Zm g.zc5)) Ze) (Zf (ZH 4 zc58.nd (Zi zd4 hr (by decide) (Za (ZB ZC (Zb 1) (Zm g.zc24)) (Za (Zb 2) Ze))))
    (Zj (ZI (ZE (Zi zd48 hr (by decide) (Za (Zb 0) (Za (Zb 4) Ze)))) (Zj (ZT (Zqh (Zl (Zr ⟨g.k_End,g.zn2⟩) (Zb 0)) (Zb 4) (Zb 3) ⟨rfl,rfl,rfl,rfl⟩))) Zy))))
  (Zj (ZI (Zz Zg9 (Z7 Zdm g.b_len PySem.boot_len (Za (ZB ZC (Zb 1) (Zm g.zc5)) Ze)) Zh) (Zj (Zv (Zr ⟨g.k_End,g.zn11⟩) (Zb 0) zm)) Zy)))
theorem Zxc (D:Def0 K mg "keep_fin" Zj0 Zoq) (g:Glb K mg) (zd17:MDef P w K mg base 2 "bears" Z3) (zd48:MDef P w K mg base 3 "is_in_window" zj) (zd4:MDef P w K mg base 1 "plus" zn):MDef P w K mg base 4 "keep_fin" Zcd:=
  ZV D zc59 2 3 rfl rfl fun f cdv A outer s H E hr=>(Zf (ZI (Zbd (ZE (Zi zd17 hr (by decide) (Za (Zb 1) (Za (Zm g.zc6) Ze))))) (Zj Zd0) Zy)
  (Zf (Zv (Zr ⟨g.k_End,g.zn11⟩) (Zb 0) zm)
  (Zf (ZH 2 zc59.nd (Zi zd4 hr (by decide) (Za (ZB ZC (Zb 1) (Zm g.zc24)) (Za (Z7 Zdm g.b_len PySem.boot_len (Za (ZB ZC (Zb 1) (Zm g.zc5)) Ze)) Ze))))
  (Zj (ZI (MW.mt (Zds (Zz ZrQ (Zl (Zr ⟨g.k_End,g.zn3⟩) (Zb 0)) ZaI) (Zbc (ZE (Zi zd48 hr (by decide) (Za (Zb 0) (Za (Zb 2) Ze))))))) (Zj (Zv (Zr ⟨g.k_End,g.zn3⟩) (Zb 0) (Zb 2))) Zy)))))
theorem Zxe (D:Def0 K mg "hear_stream" Zj2 Zos) (g:Glb K mg) (zd60:MDef P w K mg base 3 "draw_in_order" ZaX) (zd61:MDef P w K mg base 2 "hear_fin" Zce) (zd58:MDef P w K mg base 4 "keep_data" ZbJ) (zd59:MDef P w K mg base 4 "keep_fin" Zcd):MDef P w K mg base 5 "hear_stream" ZaD:=
  ZV D Zyj 3 3 rfl rfl fun f cdv A outer s H E hr=>(Zf (ZI (Zz ZfK (Zl (Zr ⟨g.k_End,g.zn16⟩) (Zb 0)) (ZU (Za (Zw g.zc25) (Za (Zw g.zc40) (Za (Zw g.zc41) Ze)))) (by with_unfolding_all rfl)) (Zj Zd0) Zy)
  (Zf (ZT (Zi zd58 hr (by decide) (Za (Zb 0) (Za (Zb 1) Ze))))
  (Zf (ZT (Zi zd59 hr (by decide) (Za (Zb 0) (Za (Zb 1) Ze))))
  (Zf (ZT (Zi zd60 hr (by decide) (Za (Zb 0) Ze)))
  (Zj (ZI (Zz (zV hr.units) (Zl (Zr ⟨g.k_End,g.zn14⟩) (Zb 0)) (Zl (Zr ⟨g.k_End,g.zn3⟩) (Zb 0))) (Zj (ZT (Zi zd61 hr (by decide) (Za (Zb 0) (Za (Zb 2) Ze))))) Zy))))))
theorem Zxm (D:Def0 K mg "turn_away" Zka ZoA) (g:Glb K mg) (zd17:MDef P w K mg base 2 "bears" Z3):MDef P w K mg base 3 "turn_away" Zba:=
  ZV D Zyq 3 3 rfl rfl fun f cdv A outer s H E hr=>(Zf (ZI (ZE (Zi zd17 hr (by decide) (Za (Zb 1) (Za (Zm g.zc32) Ze)))) (Zj Zd0) Zy)
  (Zf (ZI (MW.mt (Zds (Zz (zV hr.units) (Zl (Zr ⟨g.k_End,g.zn16⟩) (Zb 0)) (Zw g.zc36)) (Zds (ZE (Zi zd17 hr (by decide) (Za (Zb 1) (Za (Zm g.zc35) Ze)))) (Zbc (Zbd (ZE (Zi zd17 hr (by decide) (Za (Zb 1) (Za (Zm g.zc0) Ze))))))))) (Zj (Zv (Zr ⟨g.k_End,g.zn12⟩) (Zb 0) zm)) (Zj (Zv (Zr ⟨g.k_End,g.zn11⟩) (Zb 0) zm)))
  (Zj (ZI (Zz (zV hr.units) (Zl (Zr ⟨g.k_End,g.zn16⟩) (Zb 0)) (Zw g.zc39)) (Zj (Zv (Zr ⟨g.k_End,g.zn15⟩) (Zb 0) (Zb 2))) Zy))))
theorem Zxp (D:Def0 K mg "come_to_stream" Zkd ZoD) (g:Glb K mg) (zd17:MDef P w K mg base 2 "bears" Z3) (zd47:MDef P w K mg base 4 "fits" Zgg) (zd51:MDef P w K mg base 6 "goes_on_behind_answer" ZZ) (zd50:MDef P w K mg base 1 "hear_reset" Zbj) (zd57:MDef P w K mg base 5 "hear_stream" ZaD) (zd49:MDef P w K mg base 3 "turn_away" Zba):MDef P w K mg base 7 "come_to_stream" za:=
  ZV D Zys 3 3 rfl rfl fun f cdv A outer s H E hr=>(Zj (ZI (Zbd (ZE (Zi zd47 hr (by decide) (Za (Zb 0) (Za (Zb 1) Ze))))) (Zj (ZT (Zi zd49 hr (by decide) (Za (Zb 0) (Za (Zb 1) (Za (Zb 2) Ze)))))) (Zj (ZI (ZE (Zi zd17 hr (by decide) (Za (Zb 1) (Za (Zm g.zc32) Ze)))) (Zj (ZT (Zi zd50 hr (by decide) (Za (Zb 0) (Za (Zb 1) Ze))))) (Zj (ZI (ZE (Zi zd17 hr (by decide) (Za (Zb 1) (Za (Zm g.zc35) Ze)))) (Zj (Zv (Zr ⟨g.k_End,g.zn11⟩) (Zb 0) zm)) (Zj (ZI (MW.mt (Zds (ZE (Zi zd17 hr (by decide) (Za (Zb 1) (Za (Zm g.zc0) Ze)))) (Zbc (ZE (Zi zd51 hr (by decide) (Za (Zb 0) (Za (Zb 1) (Za (Zb 2) Ze)))))))) (Zj (ZT (Zi zd57 hr (by decide) (Za (Zb 0) (Za (Zb 1) (Za (Zb 2) Ze)))))) Zy))))))))
theorem Zxq (D:Def0 K mg "is_for" Zke ZoE) (g:Glb K mg) :MDef P w K mg base 1 "is_for" Zez:=
  ZV D Zyt 2 2 rfl rfl fun f cdv A outer s H E hr=>(Zj (Zt (ZbG (zI (zV hr.units) (ZB ZC (Zb 1) (Zm g.zc9)) (Zl (Zr ⟨g.k_End,g.zn9⟩) (Zb 0))) (Zc1 (ZmO (zI Zjc (Zl (Zr ⟨g.k_End,g.zn16⟩) (Zb 0)) (ZU (Za (Zw g.zc2) (Za (Zw g.zc17) Ze))) (by with_unfolding_all rfl)) (Zc1 (zI (zV hr.units) (ZB ZC (Zb 1) (Zm g.zc34)) (Zl (Zr ⟨g.k_End,g.zn17⟩) (Zb 0)))))))))
theorem Zxr (D:Def0 K mg "arrive" Zkf ZoF) (g:Glb K mg) (zd37:MDef P w K mg base 5 "come_to_closed" ZaG) (zd38:MDef P w K mg base 5 "come_to_listen" zv) (zd46:MDef P w K mg base 7 "come_to_stream" za) (zd40:MDef P w K mg base 5 "come_to_syn_sent" ZR) (zd27:MDef P w K mg base 4 "get" Ziy) (zd45:MDef P w K mg base 1 "is_for" Zez) (zd24:MDef P w K mg base 3 "is_right" Zad):MDef P w K mg base 8 "arrive" zQ:=
  ZV D zc44 3 4 rfl rfl fun f cdv A outer s H E hr=>(Zf (ZI (Zbd (ZE (Zi zd24 hr (by decide) (Za (Zb 1) Ze)))) (Zj (Zt zm)) Zy)
  (Zf (ZH 3 zc44.nd (Zi zd27 hr (by decide) (Za (Zb 1) Ze)))
  (Zf (ZI (Zbd (ZE (Zi zd45 hr (by decide) (Za (Zb 0) (Za (Zb 3) Ze))))) (Zj (Zt zm)) Zy)
  (Zf (ZI (Zz (zV hr.units) (Zl (Zr ⟨g.k_End,g.zn16⟩) (Zb 0)) (Zw g.zc2)) (Zj (ZT (Zi zd37 hr (by decide) (Za (Zb 0) (Za (Zb 3) Ze))))) (Zj (ZI (Zz (zV hr.units) (Zl (Zr ⟨g.k_End,g.zn16⟩) (Zb 0)) (Zw g.zc17)) (Zj (ZT (Zi zd38 hr (by decide) (Za (Zb 0) (Za (Zb 3) Ze))))) (Zj (ZI (Zz (zV hr.units) (Zl (Zr ⟨g.k_End,g.zn16⟩) (Zb 0)) (Zw g.zc37)) (Zj (ZT (Zi zd40 hr (by decide) (Za (Zb 0) (Za (Zb 3) (Za (Zb 2) Ze)))))) (Zj (ZT (Zi zd46 hr (by decide) (Za (Zb 0) (Za (Zb 3) (Za (Zb 2) Ze)))))))))))
  (Zj (Zt zm))))))
theorem Zw4 (D:Def0 K mg "most_at_once" ZjS Zoi) (g:Glb K mg) :MDef P w K mg base 1 "most_at_once" Zac:=
  ZV D Zyg 1 1 rfl rfl fun f cdv A outer s H E hr=>(Zj (Zt (Z7 Zm4 g.b_min PyProof.Rows.boot_min (Za (Zl (Zr ⟨g.k_End,g.zn7⟩) (Zb 0)) (Za (Zm g.zc10) Ze)))))
theorem Zw3 (D:Def0 K mg "paid_syn" ZjR Zoh) (g:Glb K mg) :MDef P w K mg base 1 "paid_syn" ZbD:=
  ZV D Zyf 1 1 rfl rfl fun f cdv A outer s H E hr=>(Zf (Zv (Zr ⟨g.k_End,g.zn12⟩) (Zb 0) zm)
  (Zf (ZI (Zz (zV hr.units) (Zl (Zr ⟨g.k_End,g.zn16⟩) (Zb 0)) (Zw g.zc37)) (Zj (Zt (ZU (Za (Zl (Zr ⟨g.k_End,g.zn9⟩) (Zb 0)) (Za (Zl (Zr ⟨g.k_End,g.zn17⟩) (Zb 0)) (Za (Zl (Zr ⟨g.k_End,g.zn5⟩) (Zb 0)) (Za Zh (Za (Zm g.zc35) (Za (Zm g.zc30) (Za (Zm g.zc10) (Za (ZU Ze) Ze))))))))))) Zy)
  (Zj (Zt (ZU (Za (Zl (Zr ⟨g.k_End,g.zn9⟩) (Zb 0)) (Za (Zl (Zr ⟨g.k_End,g.zn17⟩) (Zb 0)) (Za (Zl (Zr ⟨g.k_End,g.zn5⟩) (Zb 0)) (Za (Zl (Zr ⟨g.k_End,g.zn14⟩) (Zb 0)) (Za (Zu ZN (Zm g.zc35) (Zm g.zc0)) (Za (Zm g.zc30) (Za (Zm g.zc10) (Za (ZU Ze) Ze)))))))))))))
theorem Zw2 (D:Def0 K mg "segment_of" ZjQ Zog) (g:Glb K mg) (zd11:MDef P w K mg base 2 "our_window" zK):MDef P w K mg base 3 "segment_of" zz:=
  ZV D Zye 4 4 rfl rfl fun f cdv A outer s H E hr=>(Zj (Zt (ZU (Za (Zl (Zr ⟨g.k_End,g.zn9⟩) (Zb 0)) (Za (Zl (Zr ⟨g.k_End,g.zn17⟩) (Zb 0)) (Za (Zb 1) (Za (Zl (Zr ⟨g.k_End,g.zn14⟩) (Zb 0)) (Za (Zu ZN (Zb 2) (Zm g.zc0)) (Za (Zi zd11 hr (by decide) (Za (Zb 0) Ze)) (Za Zh (Za (Zch Zhj g.b_tuple PyProof.Rows.boot_tuple (Za (Zb 3) Ze)) Ze)))))))))))
theorem Zw5 (D:Def0 K mg "again" ZjT Zoj) (g:Glb K mg) (zd67:MDef P w K mg base 1 "most_at_once" Zac) (zd5:MDef P w K mg base 1 "offset" zA) (zd68:MDef P w K mg base 1 "paid_syn" ZbD) (zd69:MDef P w K mg base 3 "segment_of" zz):MDef P w K mg base 4 "again" Zdf:=
  ZV D zc66 2 3 rfl rfl fun f cdv A outer s H E hr=>(Zf (ZI (Zz (zV hr.units) (Zl (Zr ⟨g.k_End,g.zn20⟩) (Zb 0)) (Zm g.zc21)) (Zf (Zv (Zr ⟨g.k_End,g.zn16⟩) (Zb 0) (Zw g.zc2))
    (Zf (Zv (Zr ⟨g.k_End,g.zn4⟩) (Zb 0) (Zw g.zc38))
    (Zj (Zt ZaI)))) Zy)
  (Zf (Zv (Zr ⟨g.k_End,g.zn20⟩) (Zb 0) (Zu ZN (Zl (Zr ⟨g.k_End,g.zn20⟩) (Zb 0)) Zh))
  (Zf (Zv (Zr ⟨g.k_End,g.zn22⟩) (Zb 0) (Z7 Zm4 g.b_min PyProof.Rows.boot_min (Za (Zu Zb7 Zh (Zl (Zr ⟨g.k_End,g.zn22⟩) (Zb 0))) (Za (Zm g.zc18) Ze))))
  (Zf (Zv (Zr ⟨g.k_End,g.zn15⟩) (Zb 0) (Zb 1))
  (Zf (ZI (Zz Zjc (Zl (Zr ⟨g.k_End,g.zn16⟩) (Zb 0)) (ZU (Za (Zw g.zc37) (Za (Zw g.zc36) Ze))) (by with_unfolding_all rfl)) (Zj (Zt (Zi zd68 hr (by decide) (Za (Zb 0) Ze)))) Zy)
  (Zf (ZH 2 zc66.nd (Zbe (Zl (Zr ⟨g.k_Pile,g.zn25⟩) (Zl (Zr ⟨g.k_End,g.zn24⟩) (Zb 0))) ZbU (Zao (Z7 Zm4 g.b_min PyProof.Rows.boot_min (Za (Zi zd5 hr (by decide) (Za (Zl (Zr ⟨g.k_End,g.zn8⟩) (Zb 0)) (Za (Zl (Zr ⟨g.k_End,g.zn21⟩) (Zb 0)) Ze))) (Za (Zi zd67 hr (by decide) (Za (Zb 0) Ze)) Ze))))))
  (Zj (Zt (Zi zd69 hr (by decide) (Za (Zb 0) (Za (Zl (Zr ⟨g.k_End,g.zn21⟩) (Zb 0)) (Za (ZcA (Zz Zg9 (Z7 Zdm g.b_len PySem.boot_len (Za (Zb 2) Ze)) Zh) Zh (Zm g.zc6)) (Za (Zb 2) Ze)))))))))))))
theorem ZwR (D:Def0 K mg "going_as_answer" ZjF Zn5) (g:Glb K mg) (zd69:MDef P w K mg base 3 "segment_of" zz):MDef P w K mg base 4 "going_as_answer" zU:=
  ZV D Zx6 1 1 rfl rfl fun f cdv A outer s H E hr=>(Zf (ZI (Zbd (ZE (Zl (Zr ⟨g.k_End,g.zn11⟩) (Zb 0)))) (Zj (Zt ZaI)) Zy)
  (Zf (Zv (Zr ⟨g.k_End,g.zn11⟩) (Zb 0) zm)
  (Zj (Zt (Zi zd69 hr (by decide) (Za (Zb 0) (Za (Zl (Zr ⟨g.k_End,g.zn8⟩) (Zb 0)) (Za Zh (Za (Zak Ze) Ze)))))))))
theorem ZwX (D:Def0 K mg "unsent" ZjL Zob) (g:Glb K mg) (zd5:MDef P w K mg base 1 "offset" zA):MDef P w K mg base 2 "unsent" Zbu:=
  ZV D Zya 1 1 rfl rfl fun f cdv A outer s H E hr=>(Zj (Zt (Zi zd5 hr (by decide) (Za (Zl (Zr ⟨g.k_End,g.zn0⟩) (Zb 0)) (Za (Zl (Zr ⟨g.k_End,g.zn8⟩) (Zb 0)) Ze)))))
theorem ZwY (D:Def0 K mg "has_new_data" ZjM Zoc) (g:Glb K mg) (zd74:MDef P w K mg base 2 "unsent" Zbu):MDef P w K mg base 3 "has_new_data" Zae:=
  ZV D Zyb 1 1 rfl rfl fun f cdv A outer s H E hr=>(Zj (Zt (ZbG (zI Zjc (Zl (Zr ⟨g.k_End,g.zn16⟩) (Zb 0)) (ZU (Za (Zw g.zc25) (Za (Zw g.zc40) (Za (Zw g.zc3) (Za (Zw g.zc4) (Za (Zw g.zc14) Ze)))))) (by with_unfolding_all rfl)) (Zc1 (zI Zg9 (Zi zd74 hr (by decide) (Za (Zb 0) Ze)) Zh)))))
theorem ZwW (D:Def0 K mg "has_new_fin" ZjK Zoa) (g:Glb K mg) (zd74:MDef P w K mg base 2 "unsent" Zbu):MDef P w K mg base 3 "has_new_fin" Zbv:=
  ZV D Zx9 1 1 rfl rfl fun f cdv A outer s H E hr=>(Zj (Zt (ZbG (zI Zjc (Zl (Zr ⟨g.k_End,g.zn16⟩) (Zb 0)) (ZU (Za (Zw g.zc40) (Za (Zw g.zc4) (Za (Zw g.zc14) Ze)))) (by with_unfolding_all rfl)) (Zc1 (zI (zV hr.units) (Zi zd74 hr (by decide) (Za (Zb 0) Ze)) Zh)))))
theorem ZwZ (D:Def0 K mg "has_more" ZjN Zod) (g:Glb K mg) (zd73:MDef P w K mg base 3 "has_new_data" Zae) (zd75:MDef P w K mg base 3 "has_new_fin" Zbv):MDef P w K mg base 4 "has_more" ZbF:=
  ZV D Zyc 1 1 rfl rfl fun f cdv A outer s H E hr=>(Zj (Zt (ZmO (Zi zd73 hr (by decide) (Za (Zb 0) Ze)) (Zc1 (Zi zd75 hr (by decide) (Za (Zb 0) Ze))))))
theorem ZwU (D:Def0 K mg "new_data" ZjI Zn8) (g:Glb K mg) (zd67:MDef P w K mg base 1 "most_at_once" Zac) (zd5:MDef P w K mg base 1 "offset" zA) (zd4:MDef P w K mg base 1 "plus" zn) (zd69:MDef P w K mg base 3 "segment_of" zz) (zd74:MDef P w K mg base 2 "unsent" Zbu):MDef P w K mg base 4 "new_data" Zcc:=
  ZV D zc77 2 5 rfl rfl fun f cdv A outer s H E hr=>(Zf (ZH 2 zc77.nd (Zl (Zr ⟨g.k_End,g.zn8⟩) (Zb 0)))
  (Zf (ZH 3 zc77.nd (Z7 Zm4 g.b_min PyProof.Rows.boot_min (Za (Zi zd67 hr (by decide) (Za (Zb 0) Ze)) (Za (Zi zd74 hr (by decide) (Za (Zb 0) Ze)) (Za (Zb 1) Ze)))))
  (Zf (ZH 4 zc77.nd (Zi zd5 hr (by decide) (Za (Zb 2) (Za (Zl (Zr ⟨g.k_End,g.zn21⟩) (Zb 0)) Ze))))
  (Zf (Zv (Zr ⟨g.k_End,g.zn8⟩) (Zb 0) (Zi zd4 hr (by decide) (Za (Zb 2) (Za (Zb 3) Ze))))
  (Zj (Zt (Zi zd69 hr (by decide) (Za (Zb 0) (Za (Zb 2) (Za (ZcA (Zz (zV hr.units) (Zi zd74 hr (by decide) (Za (Zb 0) Ze)) Zh) (Zm g.zc26) Zh) (Za (Zbe (Zl (Zr ⟨g.k_Pile,g.zn25⟩) (Zl (Zr ⟨g.k_End,g.zn24⟩) (Zb 0))) (Zao (Zb 4)) (Zao (Zu ZN (Zb 4) (Zb 3)))) Ze)))))))))))
theorem ZwT (D:Def0 K mg "new_fin" ZjH Zn7) (g:Glb K mg) (zd4:MDef P w K mg base 1 "plus" zn) (zd69:MDef P w K mg base 3 "segment_of" zz):MDef P w K mg base 4 "new_fin" ZdD:=
  ZV D zc78 1 2 rfl rfl fun f cdv A outer s H E hr=>(Zf (ZH 1 zc78.nd (Zl (Zr ⟨g.k_End,g.zn8⟩) (Zb 0)))
  (Zf (Zv (Zr ⟨g.k_End,g.zn8⟩) (Zb 0) (Zi zd4 hr (by decide) (Za (Zb 1) (Za Zh Ze))))
  (Zj (Zt (Zi zd69 hr (by decide) (Za (Zb 0) (Za (Zb 1) (Za (Zm g.zc6) (Za (Zak Ze) Ze)))))))))
theorem ZwV (D:Def0 K mg "new_piece" ZjJ Zn9) (g:Glb K mg) (zd73:MDef P w K mg base 3 "has_new_data" Zae) (zd77:MDef P w K mg base 4 "new_data" Zcc) (zd78:MDef P w K mg base 4 "new_fin" ZdD):MDef P w K mg base 5 "new_piece" ZaQ:=
  ZV D Zx8 2 2 rfl rfl fun f cdv A outer s H E hr=>(Zf (Zv (Zr ⟨g.k_End,g.zn13⟩) (Zb 0) zm)
  (Zj (Zt (ZcA (ZE (Zi zd73 hr (by decide) (Za (Zb 0) Ze))) (Zi zd77 hr (by decide) (Za (Zb 0) (Za (Zb 1) Ze))) (Zi zd78 hr (by decide) (Za (Zb 0) Ze))))))
theorem Zw0 (D:Def0 K mg "new_syn" ZjO Zoe) (g:Glb K mg) (zd68:MDef P w K mg base 1 "paid_syn" ZbD) (zd4:MDef P w K mg base 1 "plus" zn) (zd8:MDef P w K mg base 1 "start_timer" Z8):MDef P w K mg base 2 "new_syn" ZcP:=
  ZV D Zyd 2 2 rfl rfl fun f cdv A outer s H E hr=>(Zf (ZI (Zz (zV hr.units) (Zl (Zr ⟨g.k_End,g.zn8⟩) (Zb 0)) (Zl (Zr ⟨g.k_End,g.zn21⟩) (Zb 0))) (Zj (ZT (Zi zd8 hr (by decide) (Za (Zb 0) (Za (Zb 1) Ze))))) Zy)
  (Zf (Zv (Zr ⟨g.k_End,g.zn8⟩) (Zb 0) (Zi zd4 hr (by decide) (Za (Zl (Zr ⟨g.k_End,g.zn5⟩) (Zb 0)) (Za Zh Ze))))
  (Zj (Zt (Zi zd68 hr (by decide) (Za (Zb 0) Ze))))))
theorem Zw1 (D:Def0 K mg "going_as_new" ZjP Zof) (g:Glb K mg) (zd72:MDef P w K mg base 4 "has_more" ZbF) (zd76:MDef P w K mg base 5 "new_piece" ZaQ) (zd71:MDef P w K mg base 2 "new_syn" ZcP) (zd5:MDef P w K mg base 1 "offset" zA) (zd8:MDef P w K mg base 1 "start_timer" Z8):MDef P w K mg base 6 "going_as_new" Z6:=
  ZV D zc70 2 3 rfl rfl fun f cdv A outer s H E hr=>(Zf (ZI (Zz Zjc (Zl (Zr ⟨g.k_End,g.zn16⟩) (Zb 0)) (ZU (Za (Zw g.zc37) (Za (Zw g.zc36) Ze))) (by with_unfolding_all rfl)) (Zj (Zt (ZcA (MW.mt (Zbx (Zz (zV hr.units) (Zl (Zr ⟨g.k_End,g.zn8⟩) (Zb 0)) (Zl (Zr ⟨g.k_End,g.zn5⟩) (Zb 0))) (zG (ZE (Zl (Zr ⟨g.k_End,g.zn12⟩) (Zb 0)))))) (Zi zd71 hr (by decide) (Za (Zb 0) (Za (Zb 1) Ze))) ZaI))) Zy)
  (Zf (ZH 2 zc70.nd (Zu ZeC (Zl (Zr ⟨g.k_End,g.zn23⟩) (Zb 0)) (Zi zd5 hr (by decide) (Za (Zl (Zr ⟨g.k_End,g.zn8⟩) (Zb 0)) (Za (Zl (Zr ⟨g.k_End,g.zn21⟩) (Zb 0)) Ze)))))
  (Zf (ZI (MW.mt (Zbx (Zz ZhC (Zb 2) Zh) (zG (Zbd (ZE (Zi zd72 hr (by decide) (Za (Zb 0) Ze))))))) (Zj (Zt ZaI)) Zy)
  (Zf (ZI (Zz (zV hr.units) (Zl (Zr ⟨g.k_End,g.zn8⟩) (Zb 0)) (Zl (Zr ⟨g.k_End,g.zn21⟩) (Zb 0))) (Zj (ZT (Zi zd8 hr (by decide) (Za (Zb 0) (Za (Zb 1) Ze))))) Zy)
  (Zf (Zv (Zr ⟨g.k_End,g.zn11⟩) (Zb 0) zm)
  (Zj (Zt (Zi zd76 hr (by decide) (Za (Zb 0) (Za (Zb 2) Ze))))))))))
theorem Zw6 (D:Def0 K mg "is_due" ZjU Zok) (g:Glb K mg) :MDef P w K mg base 1 "is_due" ZcZ:=
  ZV D Zyh 2 2 rfl rfl fun f cdv A outer s H E hr=>(Zj (Zt (zI ZrR (Zu ZeC (Zb 1) (Zl (Zr ⟨g.k_End,g.zn15⟩) (Zb 0))) (Zl (Zr ⟨g.k_End,g.zn22⟩) (Zb 0)))))
theorem ZwS (D:Def0 K mg "going_as_probe" ZjG Zn6) (g:Glb K mg) (zd72:MDef P w K mg base 4 "has_more" ZbF) (zd65:MDef P w K mg base 1 "is_due" ZcZ) (zd76:MDef P w K mg base 5 "new_piece" ZaQ) (zd8:MDef P w K mg base 1 "start_timer" Z8):MDef P w K mg base 6 "going_as_probe" Z9:=
  ZV D Zx7 2 2 rfl rfl fun f cdv A outer s H E hr=>(Zf (ZI (MW.mt (Zbx (Zz (ZdZ hr.units) (Zl (Zr ⟨g.k_End,g.zn8⟩) (Zb 0)) (Zl (Zr ⟨g.k_End,g.zn21⟩) (Zb 0))) (Zbx (Zz (ZdZ hr.units) (Zl (Zr ⟨g.k_End,g.zn23⟩) (Zb 0)) Zh) (zG (Zbd (ZE (Zi zd72 hr (by decide) (Za (Zb 0) Ze)))))))) (Zf (Zv (Zr ⟨g.k_End,g.zn13⟩) (Zb 0) zm)
    (Zj (Zt ZaI))) Zy)
  (Zf (ZI (Zbd (ZE (Zl (Zr ⟨g.k_End,g.zn13⟩) (Zb 0)))) (Zf (Zv (Zr ⟨g.k_End,g.zn13⟩) (Zb 0) zm)
    (Zj (ZT (Zi zd8 hr (by decide) (Za (Zb 0) (Za (Zb 1) Ze)))))) Zy)
  (Zf (ZI (Zbd (ZE (Zi zd65 hr (by decide) (Za (Zb 0) (Za (Zb 1) Ze))))) (Zj (Zt ZaI)) Zy)
  (Zf (Zv (Zr ⟨g.k_End,g.zn15⟩) (Zb 0) (Zb 1))
  (Zj (Zt (Zi zd76 hr (by decide) (Za (Zb 0) (Za Zh Ze)))))))))
theorem Zw7 (D:Def0 K mg "paid_reset" ZjV Zol) (g:Glb K mg) :MDef P w K mg base 1 "paid_reset" ZcL:=
  ZV D zc64 1 2 rfl rfl fun f cdv A outer s H E hr=>(Zf (ZH 1 zc64.nd (Zl (Zr ⟨g.k_End,g.zn10⟩) (Zb 0)))
  (Zf (Zv (Zr ⟨g.k_End,g.zn10⟩) (Zb 0) ZaI)
  (Zj (Zt (Zb 1)))))
theorem Zw8 (D:Def0 K mg "going" ZjW Zom) (g:Glb K mg) (zd66:MDef P w K mg base 4 "again" Zdf) (zd80:MDef P w K mg base 4 "going_as_answer" zU) (zd70:MDef P w K mg base 6 "going_as_new" Z6) (zd79:MDef P w K mg base 6 "going_as_probe" Z9) (zd65:MDef P w K mg base 1 "is_due" ZcZ) (zd64:MDef P w K mg base 1 "paid_reset" ZcL):MDef P w K mg base 7 "going" ZdX:=
  ZV D zc63 2 3 rfl rfl fun f cdv A outer s H E hr=>(Zf (ZI (Zz ZfL (Zl (Zr ⟨g.k_End,g.zn10⟩) (Zb 0)) ZaI) (Zj (Zt (Zi zd64 hr (by decide) (Za (Zb 0) Ze)))) Zy)
  (Zf (ZI (MW.mt (Zds (Zz (zV hr.units) (Zl (Zr ⟨g.k_End,g.zn16⟩) (Zb 0)) (Zw g.zc39)) (Zbc (Zz ZrR (Zu ZeC (Zb 1) (Zl (Zr ⟨g.k_End,g.zn15⟩) (Zb 0))) (Zm g.zc15))))) (Zj (Zv (Zr ⟨g.k_End,g.zn16⟩) (Zb 0) (Zw g.zc2))) Zy)
  (Zf (ZI (Zz Zjc (Zl (Zr ⟨g.k_End,g.zn16⟩) (Zb 0)) (ZU (Za (Zw g.zc2) (Za (Zw g.zc17) Ze))) (by with_unfolding_all rfl)) (Zj (Zt ZaI)) Zy)
  (Zf (ZI (MW.mt (Zds (Zz (ZdZ hr.units) (Zl (Zr ⟨g.k_End,g.zn8⟩) (Zb 0)) (Zl (Zr ⟨g.k_End,g.zn21⟩) (Zb 0))) (Zbc (ZE (Zi zd65 hr (by decide) (Za (Zb 0) (Za (Zb 1) Ze))))))) (Zj (Zt (Zi zd66 hr (by decide) (Za (Zb 0) (Za (Zb 1) Ze))))) Zy)
  (Zf (ZH 2 zc63.nd (Zi zd70 hr (by decide) (Za (Zb 0) (Za (Zb 1) Ze))))
  (Zf (ZI (Zz ZrQ (Zb 2) ZaI) (Zj (ZH 2 zc63.nd (Zi zd79 hr (by decide) (Za (Zb 0) (Za (Zb 1) Ze))))) Zy)
  (Zf (ZI (Zz ZrQ (Zb 2) ZaI) (Zj (ZH 2 zc63.nd (Zi zd80 hr (by decide) (Za (Zb 0) Ze)))) Zy)
  (Zj (Zt (Zb 2))))))))))
theorem Zw9 (D:Def0 K mg "send" ZjX Zon) (g:Glb K mg) (zd63:MDef P w K mg base 7 "going" ZdX) (zd18:MDef P w K mg base 4 "put" Zk6):MDef P w K mg base 8 "send" Zcz:=
  ZV D zc62 2 3 rfl rfl fun f cdv A outer s H E hr=>(Zf (ZH 2 zc62.nd (Zi zd63 hr (by decide) (Za (Zb 0) (Za (Zb 1) Ze))))
  (Zj (Zt (ZcA (Zz ZrQ (Zb 2) ZaI) (Zak Ze) (Zi zd18 hr (by decide) (Za (Zb 2) Ze))))))
theorem ZwQ (D:Def0 K mg "_law_cell" ZjE Zn4) (g:Glb K mg) :MDef P w K mg base 1 "_law_cell" Zgo:=
  ZV D Zx5 2 2 rfl rfl fun f cdv A outer s H E hr=>(Zf (ZI (ZE (Zb 0)) (Zj (Zt (ZB ZC (Zb 0) (Zu Zaf (Zb 1) (Z7 Zdm g.b_len PySem.boot_len (Za (Zb 0) Ze)))))) Zy)
  (Zj (Zt Zh)))
theorem ZwP (D:Def0 K mg "_law_mix" ZjD Zn3) (g:Glb K mg) (zd81:MDef P w K mg base 1 "_law_cell" Zgo):MDef P w K mg base 2 "_law_mix" zZ:=
  ZV D zc82 2 3 rfl rfl fun f cdv A outer s H E hr=>(Zf (ZH 2 zc82.nd (Zu Zaf (Zu ZN (Zi zd81 hr (by decide) (Za (Zb 0) (Za (Zb 1) Ze))) (Zu Zb7 Zh (Zu ZN (Zb 1) Zh))) Zh))
  (Zf (ZH 2 zc82.nd (Zu Zaf (Zu Zb7 (Zb 2) Zh) Zh))
  (Zj (Zt (Zu Zaf (Zu ZN (Zu Zb7 (Zu Zeh (Zb 2) Zh) Zh) (Zb 2)) Zh)))))
theorem ZwO (D:Def0 K mg "_law_two" ZjC Zn2) (g:Glb K mg) :MDef P w K mg base 1 "_law_two" Zei:=
  ZV D Zx4 1 1 rfl rfl fun f cdv A outer s H E hr=>(Zj (Zt (Zak (Za (Zu Zeh (Zb 0) Zh) (Za (Zu Zaf (Zb 0) Zh) Ze)))))
theorem ZwN (D:Def0 K mg "_law_folded" ZjB Zn1) (g:Glb K mg) :MDef P w K mg base 1 "_law_folded" Zct:=
  ZV D zc84 1 3 rfl rfl fun f cdv A outer s H E hr=>(Zf (ZH 1 zc84.nd Zh)
  (Zf (Zjd PassesOwn.never (ZdF g.b_range (Za (Z7 Zdm g.b_len PySem.boot_len (Za (Zb 0) Ze)) Ze)) (Zhe 2 zc84.nd) (Zj (ZH 1 zc84.nd (Zu ZN (Zb 1) (Zu Zb7 (ZB ZC (Zb 0) (Zb 2)) (ZB ZC (Zak (Za Zh (Za Zh Ze))) (Zu Zaf (Zb 2) Zh)))))))
  (Zf (ZhF 200 PassesOwn.never (Zz Zg9 (Zb 1) Zh) (Zj (ZH 1 zc84.nd (Zu ZN (Zu Zaf (Zb 1) Zh) (Zu Zeh (Zb 1) Zh)))))
  (Zj (Zt (Zb 1))))))
theorem ZwM (D:Def0 K mg "_law_bytes" ZjA Zn0) (g:Glb K mg) (zd84:MDef P w K mg base 1 "_law_folded" Zct) (zd83:MDef P w K mg base 1 "_law_two" Zei):MDef P w K mg base 2 "_law_bytes" ZbV:=
  ZV D zc85 1 3 rfl rfl fun f cdv A outer s H E hr=>(Zf (ZH 1 zc85.nd (Zu ZN (Zi zd83 hr (by decide) (Za (ZB ZC (Zb 0) Zh) Ze)) (Zi zd83 hr (by decide) (Za (ZB ZC (Zb 0) Zh) Ze))))
  (Zf (Zjd PassesOwn.never (ZlZ (Zbe (Zb 0) (Zao Zh) (Zao Zh))) (Zhe 2 zc85.nd) (Zj (ZH 1 zc85.nd (Zu ZN (Zu ZN (Zb 1) (Zi zd83 hr (by decide) (Za (Zu Zeh (Zb 2) Zh) Ze))) (Zi zd83 hr (by decide) (Za (Zu Zaf (Zb 2) Zh) Ze))))))
  (Zf (ZH 1 zc85.nd (Zu ZN (Zu ZN (Zu ZN (Zb 1) (Zak (Za (ZB ZC (Zak (Za Zh (Za Zh Ze))) (Zch Zv3 g.b_int PyProof.Rows.boot_int (Za (zI Zg9 (ZB ZC (Zb 0) Zh) Zh) Ze))) (Za (ZB ZC (Zb 0) Zh) Ze)))) (Zi zd83 hr (by decide) (Za (ZB ZC (Zb 0) Zh) Ze))) (Zak (Za Zh (Za Zh (Za Zh (Za Zh Ze)))))))
  (Zf (ZI (Zz Zg9 (ZB ZC (Zb 0) Zh) Zh) (Zj (ZH 1 zc85.nd (Zu ZN (Zu ZN (Zb 1) (Zak (Za Zh (Za Zh Ze)))) (Zi zd83 hr (by decide) (Za (ZB ZC (Zb 0) Zh) Ze))))) Zy)
  (Zf (ZH 1 zc85.nd (Zu ZN (Zb 1) (Zch ZqR g.b_list PyProof.Rows.boot_list (Za (ZB ZC (Zb 0) Zh) Ze))))
  (Zj (Zt (Zu ZN (Zu ZN (Zbe (Zb 1) ZbU (Zao Zh)) (Zi zd83 hr (by decide) (Za (Zu ZeC Zh (Zi zd84 hr (by decide) (Za (Zb 1) Ze))) Ze))) (Zbe (Zb 1) (Zao Zh) ZbU)))))))))
theorem ZwK (D:Def0 K mg "_law_byte" Zjz ZnY) (g:Glb K mg) :MDef P w K mg base 1 "_law_byte" Zgp:=
  ZV D Zx3 1 1 rfl rfl fun f cdv A outer s H E hr=>(Zj (Zt (ZbG (Z7 Zme g.b_isinstance PyProof.Rows.boot_isinstance (Za (Zb 0) (Za (Zqe g.b_int PyProof.Rows.boot_int) Ze))) (ZbG (Zqg (Z7 Zme g.b_isinstance PyProof.Rows.boot_isinstance (Za (Zb 0) (Za (Zqe g.b_bool PyProof.Rows.boot_bool) Ze)))) (Zc1 (ZfP ZhC ZhC Zh (Zb 0) Zh))))))
theorem ZwL (D:Def0 K mg "_law_read" Zib ZnZ) (g:Glb K mg) (zd87:MDef P w K mg base 1 "_law_byte" Zgp) (zd84:MDef P w K mg base 1 "_law_folded" Zct):MDef P w K mg base 2 "_law_read" Zgn:=
  ZV D zc86 1 5 rfl rfl fun f cdv A outer s H E hr=>(Zf (ZI (MW.mt (Zbx (Zbd (ZE (Z7 Zme g.b_isinstance PyProof.Rows.boot_isinstance (Za (Zb 0) (Za (Zqe g.b_list PyProof.Rows.boot_list) Ze))))) (zG (Zz Zt5 (Z7 Zdm g.b_len PySem.boot_len (Za (Zb 0) Ze)) Zh)))) (Zj (Zt ZaI)) Zy)
  (Zf (ZI (Zbd (ZE (Z7 Zv4 g.b_all PyProof.Rows.boot_all (Za (ZvK (show Za3 _ (Zg Zib) "_law_byte_here" ["_law_row","_law_head","_law_most","_law_words","_law_found"] ["_law_byte_here"] [] from ⟨rfl,by decide +kernel,by decide +kernel,by decide +kernel,by decide +kernel,by decide +kernel,rfl,by decide,by decide +kernel⟩) rfl rfl (ZlZ (Zb 0)) (fun _ _ _ _ _=>(Zi zd87 hr (by decide) (Za (Zb 0) Ze)))) Ze)))) (Zj (Zt ZaI)) Zy)
  (Zf (ZH 1 zc86.nd (Zu Zeh (ZB ZC (Zb 0) Zh) Zh))
  (Zf (ZI (MW.mt (Zbx (Zz ZfK (ZB ZC (Zb 0) Zh) (ZU (Za Zh (Za Zh Ze))) (by with_unfolding_all rfl)) (Zbx (Zz Zg9 (ZB ZC (Zb 0) Zh) Zh) (zG (Zz Zg9 (Zu ZN (ZB ZC (Zb 0) Zh) (ZB ZC (Zb 0) Zh)) Zh))))) (Zj (Zt ZaI)) Zy)
  (Zf (ZI (MW.mt (Zbx (Zbd (Zqc ZhC ZhC (Zb 1) (Z7 Zdm g.b_len PySem.boot_len (Za (Zb 0) Ze)) (Zu ZN (Zb 1) Zh))) (zG (Zz (ZdZ hr.units) (Zi zd84 hr (by decide) (Za (Zb 0) Ze)) Zh)))) (Zj (Zt ZaI)) Zy)
  (Zf (ZH 2 zc86.nd Zh)
  (Zf (ZI (Zz (zV hr.units) (Zb 1) Zh) (Zf (ZH 2 zc86.nd (Zu ZN (Zu Zb7 (ZB ZC (Zb 0) Zh) Zh) (ZB ZC (Zb 0) Zh)))
    (Zj (ZI (MW.mt (Zbx (Zz (zV hr.units) (Zu Zaf (Zu Zeh (ZB ZC (Zb 0) Zh) Zh) Zh) Zh) (Zbx (Zz (ZdZ hr.units) (Zbe (Zb 0) (Zao Zh) (Zao Zh)) (Zak (Za Zh (Za Zh Ze)))) (zG (Zz Zt5 (Zb 2) Zh))))) (Zj (Zt ZaI)) Zy))) Zy)
  (Zf (ZhG 3 zc86.nd (show Za3 _ (Zg Zib) "_law_k" ["_law_row","_law_head","_law_most","_law_words","_law_found"] ["_law_k","_law_row"] [0] from ⟨rfl,by decide +kernel,by decide +kernel,by decide +kernel,by decide +kernel,by decide +kernel,rfl,by decide,by decide +kernel⟩) rfl rfl (ZdF g.b_range (Za Zh Ze)) (fun _ _ _ _ _=>(Zu ZN (Zu Zb7 Zh (ZB ZC (Zb 1) (Zu Zb7 Zh (Zb 0)))) (ZB ZC (Zb 1) (Zu ZN (Zu Zb7 Zh (Zb 0)) Zh)))))
  (Zf (ZH 4 zc86.nd (ZU (Za (ZB ZC (Zb 3) Zh) (Za (ZB ZC (Zb 3) Zh) (Za (Zu ZN (Zu Zb7 (ZB ZC (Zb 3) Zh) Zh) (ZB ZC (Zb 3) Zh)) (Za (Zu ZN (Zu Zb7 (ZB ZC (Zb 3) Zh) Zh) (ZB ZC (Zb 3) Zh)) Ze))))))
  (Zj (Zt (Zu ZN (Zb 4) (ZU (Za (ZB ZC (Zb 0) Zh) (Za (ZB ZC (Zb 3) Zh) (Za (Zb 2) (Za (Zch Zhj g.b_tuple PyProof.Rows.boot_tuple (Za (Zbe (Zb 0) (Zao (Zb 1)) ZbU) Ze)) Ze)))))))))))))))))
theorem ZwJ (D:Def0 K mg "_law_plus" Zjy ZnX) (g:Glb K mg) :MDef P w K mg base 1 "_law_plus" ZcB:=
  ZV D Zx2 2 2 rfl rfl fun f cdv A outer s H E hr=>(Zj (Zt (Zu Zaf (Zu ZN (Zb 0) (Zb 1)) Zh)))
theorem ZwI (D:Def0 K mg "_law_first" Zjx ZnW) (g:Glb K mg) :MDef P w K mg base 1 "_law_first" Ze7:=
  ZV D Zx1 1 1 rfl rfl fun f cdv A outer s H E hr=>(Zf (ZI (Zz (zV hr.units) (Zu Zaf (Zb 0) Zh) Zh) (Zj (Zt (Zu Zaf (Zu ZeC Zh (Zu Zaf (Zu Zeh (Zb 0) Zh) Zh)) Zh))) Zy)
  (Zj (Zt (Zb 0))))
theorem ZwH (D:Def0 K mg "_law_segment" Zjw ZnV) (g:Glb K mg) :MDef P w K mg base 1 "_law_segment" ZcR:=
  ZV D Zx0 6 6 rfl rfl fun f cdv A outer s H E hr=>(Zj (Zt (ZU (Za (ZB ZC (Zb 0) Zh) (Za (ZB ZC (Zb 0) Zh) (Za (Zb 1) (Za (Zb 2) (Za (Zb 3) (Za (Zb 4) (Za Zh (Za (Zch Zhj g.b_tuple PyProof.Rows.boot_tuple (Za (Zb 5) Ze)) Ze)))))))))))
theorem ZwG (D:Def0 K mg "_law_given" Zjv ZnU) (g:Glb K mg) (zd86:MDef P w K mg base 2 "_law_read" Zgn) (zd62:MDef P w K mg base 8 "send" Zcz):MDef P w K mg base 9 "_law_given" ZcM:=
  ZV D zc91 2 5 rfl rfl fun f cdv A outer s H E hr=>(Zf (ZiC 2 zc91.nd Ze)
  (Zf (Zjd PassesOwn.never (ZdF g.b_range (Za Zh Ze)) (Zhe 3 zc91.nd) (Zf (ZH 4 zc91.nd (Zi zd62 hr (by decide) (Za (Zb 0) (Za (Zb 1) Ze))))
    (Zf (ZI (Zz (zV hr.units) (Zb 4) (Zak Ze)) (Zj (Zgj 2 (Zt (Zb 2)))) Zy)
    (Zj (ZiD 2 (Zi zd86 hr (by decide) (Za (Zb 4) Ze)) (hpe:=fun h=>ZsN PySem.F.plainAttrs_list PySem.F.slot_list_append PySem.F.type_list_append ZiB h (Zja (Zi zd86 hr (by decide) (Za (Zb 4) Ze)) ZlV)))))))
  (Zj (Zgj 2 (Zt (Zb 2))))))
theorem ZwF (D:Def0 K mg "_law_opened" Zju ZnT) (g:Glb K mg) (zd85:MDef P w K mg base 2 "_law_bytes" ZbV) (zd89:MDef P w K mg base 1 "_law_first" Ze7) (zd82:MDef P w K mg base 2 "_law_mix" zZ) (zd88:MDef P w K mg base 1 "_law_plus" ZcB) (zd44:MDef P w K mg base 8 "arrive" zQ) (zd30:MDef P w K mg base 5 "opened" Zey) (zd62:MDef P w K mg base 8 "send" Zcz):MDef P w K mg base 9 "_law_opened" Zc2:=
  ZV D zc92 4 8 rfl rfl fun f cdv A outer s H E hr=>(Zf (ZH 4 zc92.nd (ZU (Za (Zu Zaf (Zi zd82 hr (by decide) (Za (Zb 0) (Za (Zb 1) Ze))) Zh) (Za (Zu Zaf (Zi zd82 hr (by decide) (Za (Zb 0) (Za (Zu ZN (Zb 1) Zh) Ze))) Zh) Ze))))
  (Zf (ZH 5 zc92.nd (Zi zd89 hr (by decide) (Za (Zi zd82 hr (by decide) (Za (Zb 0) (Za (Zu ZN (Zb 1) Zh) Ze))) Ze)))
  (Zf (ZH 6 zc92.nd (Zi zd89 hr (by decide) (Za (Zi zd82 hr (by decide) (Za (Zb 0) (Za (Zu ZN (Zb 1) Zh) Ze))) Ze)))
  (Zf (ZH 7 zc92.nd (Zi zd30 hr (by decide) (Za (ZB ZC (Zb 4) Zh) (Za Zh (Za (Zb 5) (Za zm Ze))))))
  (Zf (ZT (Zi zd44 hr (by decide) (Za (Zb 7) (Za (Zi zd85 hr (by decide) (Za (ZU (Za (ZB ZC (Zb 4) Zh) (Za (ZB ZC (Zb 4) Zh) (Za (Zb 6) (Za Zh (Za Zh (Za (Zb 2) (Za (Zb 3) (Za (ZU Ze) Ze))))))))) Ze)) (Za Zh Ze)))))
  (Zf (ZT (Zi zd62 hr (by decide) (Za (Zb 7) (Za Zh Ze))))
  (Zf (ZT (Zi zd44 hr (by decide) (Za (Zb 7) (Za (Zi zd85 hr (by decide) (Za (ZU (Za (ZB ZC (Zb 4) Zh) (Za (ZB ZC (Zb 4) Zh) (Za (Zi zd88 hr (by decide) (Za (Zb 6) (Za Zh Ze))) (Za (Zi zd88 hr (by decide) (Za (Zb 5) (Za Zh Ze))) (Za Zh (Za (Zb 2) (Za Zh (Za (ZU Ze) Ze))))))))) Ze)) (Za Zh Ze)))))
  (Zj (Zt (ZU (Za (Zb 7) (Za (Zb 4) (Za (Zi zd88 hr (by decide) (Za (Zb 5) (Za Zh Ze))) (Za (Zi zd88 hr (by decide) (Za (Zb 6) (Za Zh Ze))) Ze))))))))))))))
theorem ZwE {fl:Addr} {fdl:FuncData} (F:Fun K "law" "law" Zf8 fl fdl) (g:Glb K mg) (zd85:MDef P w K mg base 2 "_law_bytes" ZbV) (zd91:MDef P w K mg base 9 "_law_given" ZcM) (zd82:MDef P w K mg base 2 "_law_mix" zZ) (zd92:MDef P w K mg base 9 "_law_opened" Zc2) (zd88:MDef P w K mg base 1 "_law_plus" ZcB) (zd90:MDef P w K mg base 1 "_law_segment" ZcR) (zd34:MDef P w K mg base 1 "abort" Ze3) (zd44:MDef P w K mg base 8 "arrive" zQ) (zd33:MDef P w K mg base 1 "close" ZdY) (zd10:MDef P w K mg base 1 "error" ZfI) (zd32:MDef P w K mg base 3 "read" ZdW) (zd9:MDef P w K mg base 1 "state" ZfG) (zd31:MDef P w K mg base 3 "write" Zbz):FnOk P w K mg base CX0 10 fl fdl ZnS (spM ⟨z0 mg,K⟩ Zli):=
  mfn F zc93 1 13 rfl rfl fun cdv A outer s H E hr=>(Zf (ZH 1 zc93.nd (Zi zd92 hr (by decide) (Za (Zb 0) (Za Zh (Za Zh (Za Zh Ze))))))
  (Zf (ZH 2 zc93.nd (ZB ZC (Zb 1) Zh))
  (Zf (ZH 3 zc93.nd (ZB ZC (Zb 1) Zh))
  (Zf (ZhG 4 zc93.nd (show Za3 _ (Zg Zf8) "_law_k" ["_law_script","_law_made_here","_law_end","_law_talk","_law_data","_law_given_here","_law_row","_law_sent","_law_segment_here","_law_reset","_law_port","_law_ones","_law_due"] ["_law_k","_law_script"] [0] from ⟨rfl,by decide +kernel,by decide +kernel,by decide +kernel,by decide +kernel,by decide +kernel,rfl,by decide,by decide +kernel⟩) rfl rfl (ZdF g.b_range (Za (Zu Zaf (Zi zd82 hr (by decide) (Za (Zb 0) (Za Zh Ze))) Zh) Ze)) (fun _ _ _ _ _=>(Zu Zaf (Zi zd82 hr (by decide) (Za (Zb 1) (Za (Zu ZN Zh (Zb 0)) Ze))) Zh)))
  (Zf (ZhG 5 zc93.nd (show Za3 _ (Zg Zf8) "_law_k" ["_law_script","_law_made_here","_law_end","_law_talk","_law_data","_law_given_here","_law_row","_law_sent","_law_segment_here","_law_reset","_law_port","_law_ones","_law_due"] ["_law_k","_law_script"] [0] from ⟨rfl,by decide +kernel,by decide +kernel,by decide +kernel,by decide +kernel,by decide +kernel,rfl,by decide,by decide +kernel⟩) rfl rfl (ZdF g.b_range (Za (Zu Zaf (Zi zd82 hr (by decide) (Za (Zb 0) (Za Zh Ze))) Zh) Ze)) (fun _ _ _ _ _=>(Zu Zaf (Zi zd82 hr (by decide) (Za (Zb 1) (Za (Zu ZN Zh (Zb 0)) Ze))) Zh)))
  (Zf (ZT (Zi zd31 hr (by decide) (Za (Zb 2) (Za (Zb 4) Ze))))
  (Zf (ZH 6 zc93.nd (Zi zd90 hr (by decide) (Za (Zb 3) (Za (ZB ZC (Zb 1) Zh) (Za (ZB ZC (Zb 1) Zh) (Za (Zu ZN Zh (Zu Zaf (Zi zd82 hr (by decide) (Za (Zb 0) (Za Zh Ze))) Zh)) (Za Zh (Za (Zb 5) Ze))))))))
  (Zf (ZT (Zi zd44 hr (by decide) (Za (Zb 2) (Za (Zi zd85 hr (by decide) (Za (Zb 6) Ze)) (Za Zh Ze)))))
  (Zf (ZI (Zz (zV hr.units) (Zu Zaf (Zi zd82 hr (by decide) (Za (Zb 0) (Za Zh Ze))) Zh) Zh) (Zj (ZT (Zi zd33 hr (by decide) (Za (Zb 2) Ze)))) Zy)
  (Zf (ZH 7 zc93.nd Zh)
  (Zf (ZI (Zz Zg9 (Zu Zaf (Zi zd82 hr (by decide) (Za (Zb 0) (Za Zh Ze))) Zh) Zh) (Zj (Zjd PassesOwn.never (ZlZ (Zi zd91 hr (by decide) (Za (Zb 2) (Za Zh Ze)))) (Zhe 8 zc93.nd) (Zj (ZH 7 zc93.nd (Zu ZN (Zu ZN (Zb 7) (Z7 Zdm g.b_len PySem.boot_len (Za (ZB ZC (Zb 8) Zh) Ze))) (Zu Zaf (ZB ZC (Zb 8) Zh) Zh)))))) Zy)
  (Zf (ZI (MW.mt (Zbx (Zz ZfL (Zi zd34 hr (by decide) (Za (Zb 2) Ze)) zm) (Zbx (Zz (ZdZ hr.units) (Zi zd9 hr (by decide) (Za (Zb 2) Ze)) Zqf) (Zbx (Zz (ZdZ hr.units) (Zi zd10 hr (by decide) (Za (Zb 2) Ze)) Zqf) (zG (Zz ZfL (Zi zd34 hr (by decide) (Za (Zb 2) Ze)) zm)))))) (Zj (Zt zm)) Zy)
  (Zf (ZH 9 zc93.nd (ZU (Za (ZB ZC (Zb 3) Zh) (Za (ZB ZC (Zb 3) Zh) (Za (Zi zd88 hr (by decide) (Za (ZB ZC (Zb 1) Zh) (Za (Zb 7) Ze))) (Za Zh (Za Zh (Za Zh (Za Zh (Za (ZU Ze) Ze))))))))))
  (Zf (ZI (MW.mt (Zbx (Zz (ZdZ hr.units) (Zi zd91 hr (by decide) (Za (Zb 2) (Za Zh Ze))) (Zak (Za (Zb 9) Ze))) (Zbx (Zz (ZdZ hr.units) (Zi zd31 hr (by decide) (Za (Zb 2) (Za (Zak (Za Zh Ze)) Ze))) Zh) (zG (Zz ZfL (Zi zd33 hr (by decide) (Za (Zb 2) Ze)) zm))))) (Zj (Zt zm)) Zy)
  (Zf (ZI (MW.mt (Zbx (Zz (ZdZ hr.units) (Zi zd32 hr (by decide) (Za (Zb 2) (Za Zh Ze))) (Zb 5)) (zG (Zz (ZdZ hr.units) (Zi zd32 hr (by decide) (Za (Zb 2) (Za Zh Ze))) (Zak Ze))))) (Zj (Zt zm)) Zy)
  (Zf (ZH 10 zc93.nd (Zu Zaf (Zi zd82 hr (by decide) (Za (Zb 0) (Za Zh Ze))) Zh))
  (Zf (ZH 11 zc93.nd (Zu Zb7 (ZU (Za Zh Ze)) (Zu Zaf (Zi zd82 hr (by decide) (Za (Zb 0) (Za Zh Ze))) Zh)))
  (Zf (ZH 6 zc93.nd (ZU (Za (Zb 10) (Za (ZB ZC (Zb 3) Zh) (Za (Zi zd82 hr (by decide) (Za (Zb 0) (Za Zh Ze))) (Za Zh (Za (Zu Zb7 (Zu Zaf (Zi zd82 hr (by decide) (Za (Zb 0) (Za Zh Ze))) Zh) Zh) (Za Zh (Za Zh (Za (Zb 11) Ze))))))))))
  (Zf (ZI (Zz ZfL (Zi zd44 hr (by decide) (Za (Zb 2) (Za (Zi zd85 hr (by decide) (Za (Zb 6) Ze)) (Za Zh Ze)))) zm) (Zj (Zt zm)) Zy)
  (Zf (ZH 12 zc93.nd (ZU (Za (ZB ZC (Zb 3) Zh) (Za (Zb 10) (Za Zh (Za Zh (Za Zh (Za Zh (Za Zh (Za (ZU Ze) Ze))))))))))
  (Zf (ZI (Zz (zV hr.units) (ZB ZC (Zb 6) Zh) Zh) (Zj (ZH 12 zc93.nd (ZU (Za (ZB ZC (Zb 3) Zh) (Za (Zb 10) (Za Zh (Za (Zi zd88 hr (by decide) (Za (ZB ZC (Zb 6) Zh) (Za (Z7 Zdm g.b_len PySem.boot_len (Za (ZB ZC (Zb 6) Zh) Ze)) Ze))) (Za Zh (Za Zh (Za Zh (Za (ZU Ze) Ze))))))))))) Zy)
  (Zj (Zt (zI (zV hr.units) (Zi zd91 hr (by decide) (Za (Zb 2) (Za Zh Ze))) (Zak (Za (Zb 12) Ze))))))))))))))))))))))))))
theorem Zt4 {fl:Addr} {fdl:FuncData} (F:Fun K "law" "law" Zf8 fl fdl) (zD0:Mk0 K mg "Pile" "Pile.__init__" zs0 zP0) (zD1:Def0 K mg "room" zs1 zP1) (zD2:Def0 K mg "lay" zs2 zP2) (zD3:Def0 K mg "take" zs3 zP3) (zD4:Def0 K mg "plus" zs4 zP4) (zD5:Def0 K mg "offset" zs5 zP5) (zD6:Def0 K mg "past" zs6 zP6) (zD7:Mk0 K mg "End" "End.__init__" zs7 zP7) (zD8:Def0 K mg "start_timer" zs8 zP8) (zD9:Def0 K mg "state" zs9 zP9) (zD10:Def0 K mg "error" ZkN Zpd) (zD11:Def0 K mg "our_window" ZkM Zpc) (zD12:Def0 K mg "has_sent_fin" ZkL Zpb) (zD13:Def0 K mg "folded" ZkK Zpa) (zD14:Def0 K mg "sum_of" ZkJ Zo9) (zD15:Def0 K mg "length" ZkI Zo8) (zD16:Def0 K mg "has" ZkH Zo7) (zD17:Def0 K mg "bears" ZkG Zo6) (zD18:Def0 K mg "put" ZkF Zo5) (zD19:Def0 K mg "bytes_ahead_of_sum" ZkE Zo4) (zD20:Def0 K mg "byte_of_head" ZkD Zo3) (zD21:Def0 K mg "bytes_of_most" ZkC Zo2) (zD22:Def0 K mg "two_bytes" ZkB Zo1) (zD23:Def0 K mg "four_bytes" ZkA Zo0) (zD24:Def0 K mg "is_right" Zkz ZoZ) (zD25:Def0 K mg "head_of" Zky ZoY) (zD26:Def0 K mg "is_right_long_head" Zkx ZoX) (zD27:Def0 K mg "get" Zkw ZoW) (zD28:Def0 K mg "two_at" Zkv ZoV) (zD29:Def0 K mg "four_at" Zku ZoU) (zD30:Def0 K mg "opened" Zkt ZoT) (zD31:Def0 K mg "write" Zks ZoS) (zD32:Def0 K mg "read" Zkr ZoR) (zD33:Def0 K mg "close" Zkq ZoQ) (zD34:Def0 K mg "abort" Zkp ZoP) (zD35:Def0 K mg "reset_for" Zko ZoO) (zD36:Def0 K mg "owe_reset_for" Zkn ZoN) (zD37:Def0 K mg "come_to_closed" Zkm ZoM) (zD38:Def0 K mg "come_to_listen" Zkl ZoL) (zD39:Def0 K mg "hear_syn" Zkk ZoK) (zD40:Def0 K mg "come_to_syn_sent" Zkj ZoJ) (zD41:Def0 K mg "answers_syn" Zki ZoI) (zD42:Def0 K mg "refuse" Zkh ZoH) (zD43:Def0 K mg "go_on_from_syn_sent" Zkg ZoG) (zD44:Def0 K mg "arrive" Zkf ZoF) (zD45:Def0 K mg "is_for" Zke ZoE) (zD46:Def0 K mg "come_to_stream" Zkd ZoD) (zD47:Def0 K mg "fits" Zkc ZoC) (zD48:Def0 K mg "is_in_window" Zkb ZoB) (zD49:Def0 K mg "turn_away" Zka ZoA) (zD50:Def0 K mg "hear_reset" Zj9 Zoz) (zD51:Def0 K mg "goes_on_behind_answer" Zj8 Zoy) (zD52:Def0 K mg "has_answered_syn" Zj7 Zox) (zD53:Def0 K mg "take_window" Zj6 Zow) (zD54:Def0 K mg "hear_answer" Zj5 Zov) (zD55:Def0 K mg "is_newer" Zj4 Zou) (zD56:Def0 K mg "end_what_is_acknowledged" Zj3 Zot) (zD57:Def0 K mg "hear_stream" Zj2 Zos) (zD58:Def0 K mg "keep_data" Zj1 Zor) (zD59:Def0 K mg "keep_fin" Zj0 Zoq) (zD60:Def0 K mg "draw_in_order" ZjZ Zop) (zD61:Def0 K mg "hear_fin" ZjY Zoo) (zD62:Def0 K mg "send" ZjX Zon) (zD63:Def0 K mg "going" ZjW Zom) (zD64:Def0 K mg "paid_reset" ZjV Zol) (zD65:Def0 K mg "is_due" ZjU Zok) (zD66:Def0 K mg "again" ZjT Zoj) (zD67:Def0 K mg "most_at_once" ZjS Zoi) (zD68:Def0 K mg "paid_syn" ZjR Zoh) (zD69:Def0 K mg "segment_of" ZjQ Zog) (zD70:Def0 K mg "going_as_new" ZjP Zof) (zD71:Def0 K mg "new_syn" ZjO Zoe) (zD72:Def0 K mg "has_more" ZjN Zod) (zD73:Def0 K mg "has_new_data" ZjM Zoc) (zD74:Def0 K mg "unsent" ZjL Zob) (zD75:Def0 K mg "has_new_fin" ZjK Zoa) (zD76:Def0 K mg "new_piece" ZjJ Zn9) (zD77:Def0 K mg "new_data" ZjI Zn8) (zD78:Def0 K mg "new_fin" ZjH Zn7) (zD79:Def0 K mg "going_as_probe" ZjG Zn6) (zD80:Def0 K mg "going_as_answer" ZjF Zn5) (zD81:Def0 K mg "_law_cell" ZjE Zn4) (zD82:Def0 K mg "_law_mix" ZjD Zn3) (zD83:Def0 K mg "_law_two" ZjC Zn2) (zD84:Def0 K mg "_law_folded" ZjB Zn1) (zD85:Def0 K mg "_law_bytes" ZjA Zn0) (zD86:Def0 K mg "_law_read" Zib ZnZ) (zD87:Def0 K mg "_law_byte" Zjz ZnY) (zD88:Def0 K mg "_law_plus" Zjy ZnX) (zD89:Def0 K mg "_law_first" Zjx ZnW) (zD90:Def0 K mg "_law_segment" Zjw ZnV) (zD91:Def0 K mg "_law_given" Zjv ZnU) (zD92:Def0 K mg "_law_opened" Zju ZnT) (g:Glb K mg):FnOk P w K mg base CX0 10 fl fdl ZnS (spM ⟨z0 mg,K⟩ Zli):=by
  have zd0:=zo0 (P:=P) (w:=w) (base:=base) zD0 g
  have zd1:=zo1 (P:=P) (w:=w) (base:=base) zD1 g
  have zd2:=zo2 (P:=P) (w:=w) (base:=base) zD2 g zd1
  have zd3:=zo3 (P:=P) (w:=w) (base:=base) zD3 g
  have zd4:=zo4 (P:=P) (w:=w) (base:=base) zD4 g
  have zd5:=zo5 (P:=P) (w:=w) (base:=base) zD5 g
  have zd6:=zo6 (P:=P) (w:=w) (base:=base) zD6 g zd5
  have zd7:=zo7 (P:=P) (w:=w) (base:=base) zD7 g zd0 zd4
  have zd8:=zo8 (P:=P) (w:=w) (base:=base) zD8 g
  have zd9:=zo9 (P:=P) (w:=w) (base:=base) zD9 g
  have zd10:=ZxZ (P:=P) (w:=w) (base:=base) zD10 g
  have zd11:=ZxY (P:=P) (w:=w) (base:=base) zD11 g zd1
  have zd12:=ZxX (P:=P) (w:=w) (base:=base) zD12 g zd6
  have zd13:=ZxW (P:=P) (w:=w) (base:=base) zD13 g
  have zd14:=ZxV (P:=P) (w:=w) (base:=base) zD14 g zd13
  have zd16:=ZxT (P:=P) (w:=w) (base:=base) zD16 g
  have zd15:=ZxU (P:=P) (w:=w) (base:=base) zD15 g zd16
  have zd17:=ZxS (P:=P) (w:=w) (base:=base) zD17 g zd16
  have zd20:=ZxP (P:=P) (w:=w) (base:=base) zD20 g
  have zd22:=ZxN (P:=P) (w:=w) (base:=base) zD22 g
  have zd23:=ZxM (P:=P) (w:=w) (base:=base) zD23 g zd22
  have zd19:=ZxQ (P:=P) (w:=w) (base:=base) zD19 g zd20 zd23 zd22
  have zd21:=ZxO (P:=P) (w:=w) (base:=base) zD21 g zd22
  have zd18:=ZxR (P:=P) (w:=w) (base:=base) zD18 g zd19 zd21 zd14 zd22
  have zd25:=ZxK (P:=P) (w:=w) (base:=base) zD25 g
  have zd28:=ZxH (P:=P) (w:=w) (base:=base) zD28 g
  have zd26:=ZxJ (P:=P) (w:=w) (base:=base) zD26 g zd16 zd28
  have zd24:=ZxL (P:=P) (w:=w) (base:=base) zD24 g zd20 zd13 zd25 zd26 zd28
  have zd29:=ZxG (P:=P) (w:=w) (base:=base) zD29 g zd28
  have zd27:=ZxI (P:=P) (w:=w) (base:=base) zD27 g zd29 zd25 zd24 zd28
  have zd30:=ZxF (P:=P) (w:=w) (base:=base) zD30 g zd7
  have zd31:=ZxE (P:=P) (w:=w) (base:=base) zD31 g zd2 zd4
  have zd32:=ZxD (P:=P) (w:=w) (base:=base) zD32 g zd11 zd3
  have zd33:=ZxC (P:=P) (w:=w) (base:=base) zD33 g
  have zd34:=ZxB (P:=P) (w:=w) (base:=base) zD34 g
  have zd35:=ZxA (P:=P) (w:=w) (base:=base) zD35 g zd17 zd15 zd4
  have zd36:=Zxz (P:=P) (w:=w) (base:=base) zD36 g zd17 zd35
  have zd37:=Zxy (P:=P) (w:=w) (base:=base) zD37 g zd36
  have zd39:=Zxw (P:=P) (w:=w) (base:=base) zD39 g zd17 zd4
  have zd38:=Zxx (P:=P) (w:=w) (base:=base) zD38 g zd17 zd39 zd36
  have zd41:=Zxu (P:=P) (w:=w) (base:=base) zD41 g zd4
  have zd43:=Zxs (P:=P) (w:=w) (base:=base) zD43 g zd17 zd8
  have zd42:=Zxt (P:=P) (w:=w) (base:=base) zD42 g zd17
  have zd40:=Zxv (P:=P) (w:=w) (base:=base) zD40 g zd41 zd17 zd43 zd39 zd36 zd42
  have zd48:=Zxn (P:=P) (w:=w) (base:=base) zD48 g zd5 zd11
  have zd47:=Zxo (P:=P) (w:=w) (base:=base) zD47 g zd48 zd15 zd5 zd4
  have zd56:=Zxf (P:=P) (w:=w) (base:=base) zD56 g zd12
  have zd53:=Zxi (P:=P) (w:=w) (base:=base) zD53 g
  have zd52:=Zxj (P:=P) (w:=w) (base:=base) zD52 g zd36 zd53
  have zd55:=Zxg (P:=P) (w:=w) (base:=base) zD55 g zd6
  have zd54:=Zxh (P:=P) (w:=w) (base:=base) zD54 g zd55 zd5 zd6 zd8 zd3 zd53
  have zd51:=Zxk (P:=P) (w:=w) (base:=base) zD51 g zd56 zd52 zd54 zd6
  have zd50:=Zxl (P:=P) (w:=w) (base:=base) zD50 g
  have zd60:=Zxb (P:=P) (w:=w) (base:=base) zD60 g zd2 zd4
  have zd61:=Zxa (P:=P) (w:=w) (base:=base) zD61 g zd4
  have zd58:=Zxd (P:=P) (w:=w) (base:=base) zD58 g zd48 zd4
  have zd59:=Zxc (P:=P) (w:=w) (base:=base) zD59 g zd17 zd48 zd4
  have zd57:=Zxe (P:=P) (w:=w) (base:=base) zD57 g zd60 zd61 zd58 zd59
  have zd49:=Zxm (P:=P) (w:=w) (base:=base) zD49 g zd17
  have zd46:=Zxp (P:=P) (w:=w) (base:=base) zD46 g zd17 zd47 zd51 zd50 zd57 zd49
  have zd45:=Zxq (P:=P) (w:=w) (base:=base) zD45 g
  have zd44:=Zxr (P:=P) (w:=w) (base:=base) zD44 g zd37 zd38 zd46 zd40 zd27 zd45 zd24
  have zd67:=Zw4 (P:=P) (w:=w) (base:=base) zD67 g
  have zd68:=Zw3 (P:=P) (w:=w) (base:=base) zD68 g
  have zd69:=Zw2 (P:=P) (w:=w) (base:=base) zD69 g zd11
  have zd66:=Zw5 (P:=P) (w:=w) (base:=base) zD66 g zd67 zd5 zd68 zd69
  have zd80:=ZwR (P:=P) (w:=w) (base:=base) zD80 g zd69
  have zd74:=ZwX (P:=P) (w:=w) (base:=base) zD74 g zd5
  have zd73:=ZwY (P:=P) (w:=w) (base:=base) zD73 g zd74
  have zd75:=ZwW (P:=P) (w:=w) (base:=base) zD75 g zd74
  have zd72:=ZwZ (P:=P) (w:=w) (base:=base) zD72 g zd73 zd75
  have zd77:=ZwU (P:=P) (w:=w) (base:=base) zD77 g zd67 zd5 zd4 zd69 zd74
  have zd78:=ZwT (P:=P) (w:=w) (base:=base) zD78 g zd4 zd69
  have zd76:=ZwV (P:=P) (w:=w) (base:=base) zD76 g zd73 zd77 zd78
  have zd71:=Zw0 (P:=P) (w:=w) (base:=base) zD71 g zd68 zd4 zd8
  have zd70:=Zw1 (P:=P) (w:=w) (base:=base) zD70 g zd72 zd76 zd71 zd5 zd8
  have zd65:=Zw6 (P:=P) (w:=w) (base:=base) zD65 g
  have zd79:=ZwS (P:=P) (w:=w) (base:=base) zD79 g zd72 zd65 zd76 zd8
  have zd64:=Zw7 (P:=P) (w:=w) (base:=base) zD64 g
  have zd63:=Zw8 (P:=P) (w:=w) (base:=base) zD63 g zd66 zd80 zd70 zd79 zd65 zd64
  have zd62:=Zw9 (P:=P) (w:=w) (base:=base) zD62 g zd63 zd18
  have zd81:=ZwQ (P:=P) (w:=w) (base:=base) zD81 g
  have zd82:=ZwP (P:=P) (w:=w) (base:=base) zD82 g zd81
  have zd83:=ZwO (P:=P) (w:=w) (base:=base) zD83 g
  have zd84:=ZwN (P:=P) (w:=w) (base:=base) zD84 g
  have zd85:=ZwM (P:=P) (w:=w) (base:=base) zD85 g zd84 zd83
  have zd87:=ZwK (P:=P) (w:=w) (base:=base) zD87 g
  have zd86:=ZwL (P:=P) (w:=w) (base:=base) zD86 g zd87 zd84
  have zd88:=ZwJ (P:=P) (w:=w) (base:=base) zD88 g
  have zd89:=ZwI (P:=P) (w:=w) (base:=base) zD89 g
  have zd90:=ZwH (P:=P) (w:=w) (base:=base) zD90 g
  have zd91:=ZwG (P:=P) (w:=w) (base:=base) zD91 g zd86 zd62
  have zd92:=ZwF (P:=P) (w:=w) (base:=base) zD92 g zd85 zd89 zd82 zd88 zd44 zd30 zd62
  exact ZwE F g zd85 zd91 zd82 zd92 zd88 zd90 zd34 zd44 zd33 zd10 zd32 zd9 zd31
end
open PySem.W
theorem Zul {l:OpenLaw} {w:World} {K:Frag} {h:Heap} {mg:Str→Option Value} {fa:Addr} (X:K.In h) (G:h.Ns mainGlobals mg) (hfa:mg "law"=some (.ref fa))
    (aC_End:nsIn K mainGlobals "End"=some (some (.ref C_End)))
    (aC_Pile:nsIn K mainGlobals "Pile"=some (some (.ref C_Pile)))
    (a0:findIn K (.ref C_Pile) "__init__"=some (some (.ref f0))) (i0:isFn K (.ref f0)=true) (l0:K.lookup f0=some ⟨oc0,od0,.func (fnOf "__init__" "Pile.__init__" (Zq zs0) (Zn zs0) (Zg zs0) .none kV0 dc0 pm0 an0 cd0 ct0),sl0⟩) (c0:codeIn K cd0 "Pile.__init__"=true) (k0:keepIn K (.ref f0)=true)
    (a1:nsIn K mainGlobals "room"=some (some (.ref f1))) (l1:K.lookup f1=some ⟨oc1,od1,.func (fnOf "room" "room" (Zq zs1) (Zn zs1) (Zg zs1) .none kV1 dc1 pm1 an1 cd1 ct1),sl1⟩) (c1:codeIn K cd1 "room"=true) (k1:keepIn K (.ref f1)=true)
    (a2:nsIn K mainGlobals "lay"=some (some (.ref f2))) (l2:K.lookup f2=some ⟨oc2,od2,.func (fnOf "lay" "lay" (Zq zs2) (Zn zs2) (Zg zs2) .none kV2 dc2 pm2 an2 cd2 ct2),sl2⟩) (c2:codeIn K cd2 "lay"=true) (k2:keepIn K (.ref f2)=true)
    (a3:nsIn K mainGlobals "take"=some (some (.ref f3))) (l3:K.lookup f3=some ⟨oc3,od3,.func (fnOf "take" "take" (Zq zs3) (Zn zs3) (Zg zs3) .none kV3 dc3 pm3 an3 cd3 ct3),sl3⟩) (c3:codeIn K cd3 "take"=true) (k3:keepIn K (.ref f3)=true)
    (a4:nsIn K mainGlobals "plus"=some (some (.ref f4))) (l4:K.lookup f4=some ⟨oc4,od4,.func (fnOf "plus" "plus" (Zq zs4) (Zn zs4) (Zg zs4) .none kV4 dc4 pm4 an4 cd4 ct4),sl4⟩) (c4:codeIn K cd4 "plus"=true) (k4:keepIn K (.ref f4)=true)
    (a5:nsIn K mainGlobals "offset"=some (some (.ref f5))) (l5:K.lookup f5=some ⟨oc5,od5,.func (fnOf "offset" "offset" (Zq zs5) (Zn zs5) (Zg zs5) .none kV5 dc5 pm5 an5 cd5 ct5),sl5⟩) (c5:codeIn K cd5 "offset"=true) (k5:keepIn K (.ref f5)=true)
    (a6:nsIn K mainGlobals "past"=some (some (.ref f6))) (l6:K.lookup f6=some ⟨oc6,od6,.func (fnOf "past" "past" (Zq zs6) (Zn zs6) (Zg zs6) .none kV6 dc6 pm6 an6 cd6 ct6),sl6⟩) (c6:codeIn K cd6 "past"=true) (k6:keepIn K (.ref f6)=true)
    (a7:findIn K (.ref C_End) "__init__"=some (some (.ref f7))) (i7:isFn K (.ref f7)=true) (l7:K.lookup f7=some ⟨oc7,od7,.func (fnOf "__init__" "End.__init__" (Zq zs7) (Zn zs7) (Zg zs7) .none kV7 dc7 pm7 an7 cd7 ct7),sl7⟩) (c7:codeIn K cd7 "End.__init__"=true) (k7:keepIn K (.ref f7)=true)
    (a8:nsIn K mainGlobals "start_timer"=some (some (.ref f8))) (l8:K.lookup f8=some ⟨oc8,od8,.func (fnOf "start_timer" "start_timer" (Zq zs8) (Zn zs8) (Zg zs8) .none kV8 dc8 pm8 an8 cd8 ct8),sl8⟩) (c8:codeIn K cd8 "start_timer"=true) (k8:keepIn K (.ref f8)=true)
    (a9:nsIn K mainGlobals "state"=some (some (.ref f9))) (l9:K.lookup f9=some ⟨oc9,od9,.func (fnOf "state" "state" (Zq zs9) (Zn zs9) (Zg zs9) .none kV9 dc9 pm9 an9 cd9 ct9),sl9⟩) (c9:codeIn K cd9 "state"=true) (k9:keepIn K (.ref f9)=true)
    (a10:nsIn K mainGlobals "error"=some (some (.ref f10))) (l10:K.lookup f10=some ⟨oc10,od10,.func (fnOf "error" "error" (Zq ZkN) (Zn ZkN) (Zg ZkN) .none kV10 dc10 pm10 an10 cd10 ct10),sl10⟩) (c10:codeIn K cd10 "error"=true) (k10:keepIn K (.ref f10)=true)
    (a11:nsIn K mainGlobals "our_window"=some (some (.ref f11))) (l11:K.lookup f11=some ⟨oc11,od11,.func (fnOf "our_window" "our_window" (Zq ZkM) (Zn ZkM) (Zg ZkM) .none kV11 dc11 pm11 an11 cd11 ct11),sl11⟩) (c11:codeIn K cd11 "our_window"=true) (k11:keepIn K (.ref f11)=true)
    (a12:nsIn K mainGlobals "has_sent_fin"=some (some (.ref f12))) (l12:K.lookup f12=some ⟨oc12,od12,.func (fnOf "has_sent_fin" "has_sent_fin" (Zq ZkL) (Zn ZkL) (Zg ZkL) .none kV12 dc12 pm12 an12 cd12 ct12),sl12⟩) (c12:codeIn K cd12 "has_sent_fin"=true) (k12:keepIn K (.ref f12)=true)
    (a13:nsIn K mainGlobals "folded"=some (some (.ref f13))) (l13:K.lookup f13=some ⟨oc13,od13,.func (fnOf "folded" "folded" (Zq ZkK) (Zn ZkK) (Zg ZkK) .none kV13 dc13 pm13 an13 cd13 ct13),sl13⟩) (c13:codeIn K cd13 "folded"=true) (k13:keepIn K (.ref f13)=true)
    (a14:nsIn K mainGlobals "sum_of"=some (some (.ref f14))) (l14:K.lookup f14=some ⟨oc14,od14,.func (fnOf "sum_of" "sum_of" (Zq ZkJ) (Zn ZkJ) (Zg ZkJ) .none kV14 dc14 pm14 an14 cd14 ct14),sl14⟩) (c14:codeIn K cd14 "sum_of"=true) (k14:keepIn K (.ref f14)=true)
    (a15:nsIn K mainGlobals "length"=some (some (.ref f15))) (l15:K.lookup f15=some ⟨oc15,od15,.func (fnOf "length" "length" (Zq ZkI) (Zn ZkI) (Zg ZkI) .none kV15 dc15 pm15 an15 cd15 ct15),sl15⟩) (c15:codeIn K cd15 "length"=true) (k15:keepIn K (.ref f15)=true)
    (a16:nsIn K mainGlobals "has"=some (some (.ref f16))) (l16:K.lookup f16=some ⟨oc16,od16,.func (fnOf "has" "has" (Zq ZkH) (Zn ZkH) (Zg ZkH) .none kV16 dc16 pm16 an16 cd16 ct16),sl16⟩) (c16:codeIn K cd16 "has"=true) (k16:keepIn K (.ref f16)=true)
    (a17:nsIn K mainGlobals "bears"=some (some (.ref f17))) (l17:K.lookup f17=some ⟨oc17,od17,.func (fnOf "bears" "bears" (Zq ZkG) (Zn ZkG) (Zg ZkG) .none kV17 dc17 pm17 an17 cd17 ct17),sl17⟩) (c17:codeIn K cd17 "bears"=true) (k17:keepIn K (.ref f17)=true)
    (a18:nsIn K mainGlobals "put"=some (some (.ref f18))) (l18:K.lookup f18=some ⟨oc18,od18,.func (fnOf "put" "put" (Zq ZkF) (Zn ZkF) (Zg ZkF) .none kV18 dc18 pm18 an18 cd18 ct18),sl18⟩) (c18:codeIn K cd18 "put"=true) (k18:keepIn K (.ref f18)=true)
    (a19:nsIn K mainGlobals "bytes_ahead_of_sum"=some (some (.ref f19))) (l19:K.lookup f19=some ⟨oc19,od19,.func (fnOf "bytes_ahead_of_sum" "bytes_ahead_of_sum" (Zq ZkE) (Zn ZkE) (Zg ZkE) .none kV19 dc19 pm19 an19 cd19 ct19),sl19⟩) (c19:codeIn K cd19 "bytes_ahead_of_sum"=true) (k19:keepIn K (.ref f19)=true)
    (a20:nsIn K mainGlobals "byte_of_head"=some (some (.ref f20))) (l20:K.lookup f20=some ⟨oc20,od20,.func (fnOf "byte_of_head" "byte_of_head" (Zq ZkD) (Zn ZkD) (Zg ZkD) .none kV20 dc20 pm20 an20 cd20 ct20),sl20⟩) (c20:codeIn K cd20 "byte_of_head"=true) (k20:keepIn K (.ref f20)=true)
    (a21:nsIn K mainGlobals "bytes_of_most"=some (some (.ref f21))) (l21:K.lookup f21=some ⟨oc21,od21,.func (fnOf "bytes_of_most" "bytes_of_most" (Zq ZkC) (Zn ZkC) (Zg ZkC) .none kV21 dc21 pm21 an21 cd21 ct21),sl21⟩) (c21:codeIn K cd21 "bytes_of_most"=true) (k21:keepIn K (.ref f21)=true)
    (a22:nsIn K mainGlobals "two_bytes"=some (some (.ref f22))) (l22:K.lookup f22=some ⟨oc22,od22,.func (fnOf "two_bytes" "two_bytes" (Zq ZkB) (Zn ZkB) (Zg ZkB) .none kV22 dc22 pm22 an22 cd22 ct22),sl22⟩) (c22:codeIn K cd22 "two_bytes"=true) (k22:keepIn K (.ref f22)=true)
    (a23:nsIn K mainGlobals "four_bytes"=some (some (.ref f23))) (l23:K.lookup f23=some ⟨oc23,od23,.func (fnOf "four_bytes" "four_bytes" (Zq ZkA) (Zn ZkA) (Zg ZkA) .none kV23 dc23 pm23 an23 cd23 ct23),sl23⟩) (c23:codeIn K cd23 "four_bytes"=true) (k23:keepIn K (.ref f23)=true)
    (a24:nsIn K mainGlobals "is_right"=some (some (.ref f24))) (l24:K.lookup f24=some ⟨oc24,od24,.func (fnOf "is_right" "is_right" (Zq Zkz) (Zn Zkz) (Zg Zkz) .none kV24 dc24 pm24 an24 cd24 ct24),sl24⟩) (c24:codeIn K cd24 "is_right"=true) (k24:keepIn K (.ref f24)=true)
    (a25:nsIn K mainGlobals "head_of"=some (some (.ref f25))) (l25:K.lookup f25=some ⟨oc25,od25,.func (fnOf "head_of" "head_of" (Zq Zky) (Zn Zky) (Zg Zky) .none kV25 dc25 pm25 an25 cd25 ct25),sl25⟩) (c25:codeIn K cd25 "head_of"=true) (k25:keepIn K (.ref f25)=true)
    (a26:nsIn K mainGlobals "is_right_long_head"=some (some (.ref f26))) (l26:K.lookup f26=some ⟨oc26,od26,.func (fnOf "is_right_long_head" "is_right_long_head" (Zq Zkx) (Zn Zkx) (Zg Zkx) .none kV26 dc26 pm26 an26 cd26 ct26),sl26⟩) (c26:codeIn K cd26 "is_right_long_head"=true) (k26:keepIn K (.ref f26)=true)
    (a27:nsIn K mainGlobals "get"=some (some (.ref f27))) (l27:K.lookup f27=some ⟨oc27,od27,.func (fnOf "get" "get" (Zq Zkw) (Zn Zkw) (Zg Zkw) .none kV27 dc27 pm27 an27 cd27 ct27),sl27⟩) (c27:codeIn K cd27 "get"=true) (k27:keepIn K (.ref f27)=true)
    (a28:nsIn K mainGlobals "two_at"=some (some (.ref f28))) (l28:K.lookup f28=some ⟨oc28,od28,.func (fnOf "two_at" "two_at" (Zq Zkv) (Zn Zkv) (Zg Zkv) .none kV28 dc28 pm28 an28 cd28 ct28),sl28⟩) (c28:codeIn K cd28 "two_at"=true) (k28:keepIn K (.ref f28)=true)
    (a29:nsIn K mainGlobals "four_at"=some (some (.ref f29))) (l29:K.lookup f29=some ⟨oc29,od29,.func (fnOf "four_at" "four_at" (Zq Zku) (Zn Zku) (Zg Zku) .none kV29 dc29 pm29 an29 cd29 ct29),sl29⟩) (c29:codeIn K cd29 "four_at"=true) (k29:keepIn K (.ref f29)=true)
    (a30:nsIn K mainGlobals "opened"=some (some (.ref f30))) (l30:K.lookup f30=some ⟨oc30,od30,.func (fnOf "opened" "opened" (Zq Zkt) (Zn Zkt) (Zg Zkt) .none kV30 dc30 pm30 an30 cd30 ct30),sl30⟩) (c30:codeIn K cd30 "opened"=true) (k30:keepIn K (.ref f30)=true)
    (a31:nsIn K mainGlobals "write"=some (some (.ref f31))) (l31:K.lookup f31=some ⟨oc31,od31,.func (fnOf "write" "write" (Zq Zks) (Zn Zks) (Zg Zks) .none kV31 dc31 pm31 an31 cd31 ct31),sl31⟩) (c31:codeIn K cd31 "write"=true) (k31:keepIn K (.ref f31)=true)
    (a32:nsIn K mainGlobals "read"=some (some (.ref f32))) (l32:K.lookup f32=some ⟨oc32,od32,.func (fnOf "read" "read" (Zq Zkr) (Zn Zkr) (Zg Zkr) .none kV32 dc32 pm32 an32 cd32 ct32),sl32⟩) (c32:codeIn K cd32 "read"=true) (k32:keepIn K (.ref f32)=true)
    (a33:nsIn K mainGlobals "close"=some (some (.ref f33))) (l33:K.lookup f33=some ⟨oc33,od33,.func (fnOf "close" "close" (Zq Zkq) (Zn Zkq) (Zg Zkq) .none kV33 dc33 pm33 an33 cd33 ct33),sl33⟩) (c33:codeIn K cd33 "close"=true) (k33:keepIn K (.ref f33)=true)
    (a34:nsIn K mainGlobals "abort"=some (some (.ref f34))) (l34:K.lookup f34=some ⟨oc34,od34,.func (fnOf "abort" "abort" (Zq Zkp) (Zn Zkp) (Zg Zkp) .none kV34 dc34 pm34 an34 cd34 ct34),sl34⟩) (c34:codeIn K cd34 "abort"=true) (k34:keepIn K (.ref f34)=true)
    (a35:nsIn K mainGlobals "reset_for"=some (some (.ref f35))) (l35:K.lookup f35=some ⟨oc35,od35,.func (fnOf "reset_for" "reset_for" (Zq Zko) (Zn Zko) (Zg Zko) .none kV35 dc35 pm35 an35 cd35 ct35),sl35⟩) (c35:codeIn K cd35 "reset_for"=true) (k35:keepIn K (.ref f35)=true)
    (a36:nsIn K mainGlobals "owe_reset_for"=some (some (.ref f36))) (l36:K.lookup f36=some ⟨oc36,od36,.func (fnOf "owe_reset_for" "owe_reset_for" (Zq Zkn) (Zn Zkn) (Zg Zkn) .none kV36 dc36 pm36 an36 cd36 ct36),sl36⟩) (c36:codeIn K cd36 "owe_reset_for"=true) (k36:keepIn K (.ref f36)=true)
    (a37:nsIn K mainGlobals "come_to_closed"=some (some (.ref f37))) (l37:K.lookup f37=some ⟨oc37,od37,.func (fnOf "come_to_closed" "come_to_closed" (Zq Zkm) (Zn Zkm) (Zg Zkm) .none kV37 dc37 pm37 an37 cd37 ct37),sl37⟩) (c37:codeIn K cd37 "come_to_closed"=true) (k37:keepIn K (.ref f37)=true)
    (a38:nsIn K mainGlobals "come_to_listen"=some (some (.ref f38))) (l38:K.lookup f38=some ⟨oc38,od38,.func (fnOf "come_to_listen" "come_to_listen" (Zq Zkl) (Zn Zkl) (Zg Zkl) .none kV38 dc38 pm38 an38 cd38 ct38),sl38⟩) (c38:codeIn K cd38 "come_to_listen"=true) (k38:keepIn K (.ref f38)=true)
    (a39:nsIn K mainGlobals "hear_syn"=some (some (.ref f39))) (l39:K.lookup f39=some ⟨oc39,od39,.func (fnOf "hear_syn" "hear_syn" (Zq Zkk) (Zn Zkk) (Zg Zkk) .none kV39 dc39 pm39 an39 cd39 ct39),sl39⟩) (c39:codeIn K cd39 "hear_syn"=true) (k39:keepIn K (.ref f39)=true)
    (a40:nsIn K mainGlobals "come_to_syn_sent"=some (some (.ref f40))) (l40:K.lookup f40=some ⟨oc40,od40,.func (fnOf "come_to_syn_sent" "come_to_syn_sent" (Zq Zkj) (Zn Zkj) (Zg Zkj) .none kV40 dc40 pm40 an40 cd40 ct40),sl40⟩) (c40:codeIn K cd40 "come_to_syn_sent"=true) (k40:keepIn K (.ref f40)=true)
    (a41:nsIn K mainGlobals "answers_syn"=some (some (.ref f41))) (l41:K.lookup f41=some ⟨oc41,od41,.func (fnOf "answers_syn" "answers_syn" (Zq Zki) (Zn Zki) (Zg Zki) .none kV41 dc41 pm41 an41 cd41 ct41),sl41⟩) (c41:codeIn K cd41 "answers_syn"=true) (k41:keepIn K (.ref f41)=true)
    (a42:nsIn K mainGlobals "refuse"=some (some (.ref f42))) (l42:K.lookup f42=some ⟨oc42,od42,.func (fnOf "refuse" "refuse" (Zq Zkh) (Zn Zkh) (Zg Zkh) .none kV42 dc42 pm42 an42 cd42 ct42),sl42⟩) (c42:codeIn K cd42 "refuse"=true) (k42:keepIn K (.ref f42)=true)
    (a43:nsIn K mainGlobals "go_on_from_syn_sent"=some (some (.ref f43))) (l43:K.lookup f43=some ⟨oc43,od43,.func (fnOf "go_on_from_syn_sent" "go_on_from_syn_sent" (Zq Zkg) (Zn Zkg) (Zg Zkg) .none kV43 dc43 pm43 an43 cd43 ct43),sl43⟩) (c43:codeIn K cd43 "go_on_from_syn_sent"=true) (k43:keepIn K (.ref f43)=true)
    (a44:nsIn K mainGlobals "arrive"=some (some (.ref f44))) (l44:K.lookup f44=some ⟨oc44,od44,.func (fnOf "arrive" "arrive" (Zq Zkf) (Zn Zkf) (Zg Zkf) .none kV44 dc44 pm44 an44 cd44 ct44),sl44⟩) (c44:codeIn K cd44 "arrive"=true) (k44:keepIn K (.ref f44)=true)
    (a45:nsIn K mainGlobals "is_for"=some (some (.ref f45))) (l45:K.lookup f45=some ⟨oc45,od45,.func (fnOf "is_for" "is_for" (Zq Zke) (Zn Zke) (Zg Zke) .none kV45 dc45 pm45 an45 cd45 ct45),sl45⟩) (c45:codeIn K cd45 "is_for"=true) (k45:keepIn K (.ref f45)=true)
    (a46:nsIn K mainGlobals "come_to_stream"=some (some (.ref f46))) (l46:K.lookup f46=some ⟨oc46,od46,.func (fnOf "come_to_stream" "come_to_stream" (Zq Zkd) (Zn Zkd) (Zg Zkd) .none kV46 dc46 pm46 an46 cd46 ct46),sl46⟩) (c46:codeIn K cd46 "come_to_stream"=true) (k46:keepIn K (.ref f46)=true)
    (a47:nsIn K mainGlobals "fits"=some (some (.ref f47))) (l47:K.lookup f47=some ⟨oc47,od47,.func (fnOf "fits" "fits" (Zq Zkc) (Zn Zkc) (Zg Zkc) .none kV47 dc47 pm47 an47 cd47 ct47),sl47⟩) (c47:codeIn K cd47 "fits"=true) (k47:keepIn K (.ref f47)=true)
    (a48:nsIn K mainGlobals "is_in_window"=some (some (.ref f48))) (l48:K.lookup f48=some ⟨oc48,od48,.func (fnOf "is_in_window" "is_in_window" (Zq Zkb) (Zn Zkb) (Zg Zkb) .none kV48 dc48 pm48 an48 cd48 ct48),sl48⟩) (c48:codeIn K cd48 "is_in_window"=true) (k48:keepIn K (.ref f48)=true)
    (a49:nsIn K mainGlobals "turn_away"=some (some (.ref f49))) (l49:K.lookup f49=some ⟨oc49,od49,.func (fnOf "turn_away" "turn_away" (Zq Zka) (Zn Zka) (Zg Zka) .none kV49 dc49 pm49 an49 cd49 ct49),sl49⟩) (c49:codeIn K cd49 "turn_away"=true) (k49:keepIn K (.ref f49)=true)
    (a50:nsIn K mainGlobals "hear_reset"=some (some (.ref f50))) (l50:K.lookup f50=some ⟨oc50,od50,.func (fnOf "hear_reset" "hear_reset" (Zq Zj9) (Zn Zj9) (Zg Zj9) .none kV50 dc50 pm50 an50 cd50 ct50),sl50⟩) (c50:codeIn K cd50 "hear_reset"=true) (k50:keepIn K (.ref f50)=true)
    (a51:nsIn K mainGlobals "goes_on_behind_answer"=some (some (.ref f51))) (l51:K.lookup f51=some ⟨oc51,od51,.func (fnOf "goes_on_behind_answer" "goes_on_behind_answer" (Zq Zj8) (Zn Zj8) (Zg Zj8) .none kV51 dc51 pm51 an51 cd51 ct51),sl51⟩) (c51:codeIn K cd51 "goes_on_behind_answer"=true) (k51:keepIn K (.ref f51)=true)
    (a52:nsIn K mainGlobals "has_answered_syn"=some (some (.ref f52))) (l52:K.lookup f52=some ⟨oc52,od52,.func (fnOf "has_answered_syn" "has_answered_syn" (Zq Zj7) (Zn Zj7) (Zg Zj7) .none kV52 dc52 pm52 an52 cd52 ct52),sl52⟩) (c52:codeIn K cd52 "has_answered_syn"=true) (k52:keepIn K (.ref f52)=true)
    (a53:nsIn K mainGlobals "take_window"=some (some (.ref f53))) (l53:K.lookup f53=some ⟨oc53,od53,.func (fnOf "take_window" "take_window" (Zq Zj6) (Zn Zj6) (Zg Zj6) .none kV53 dc53 pm53 an53 cd53 ct53),sl53⟩) (c53:codeIn K cd53 "take_window"=true) (k53:keepIn K (.ref f53)=true)
    (a54:nsIn K mainGlobals "hear_answer"=some (some (.ref f54))) (l54:K.lookup f54=some ⟨oc54,od54,.func (fnOf "hear_answer" "hear_answer" (Zq Zj5) (Zn Zj5) (Zg Zj5) .none kV54 dc54 pm54 an54 cd54 ct54),sl54⟩) (c54:codeIn K cd54 "hear_answer"=true) (k54:keepIn K (.ref f54)=true)
    (a55:nsIn K mainGlobals "is_newer"=some (some (.ref f55))) (l55:K.lookup f55=some ⟨oc55,od55,.func (fnOf "is_newer" "is_newer" (Zq Zj4) (Zn Zj4) (Zg Zj4) .none kV55 dc55 pm55 an55 cd55 ct55),sl55⟩) (c55:codeIn K cd55 "is_newer"=true) (k55:keepIn K (.ref f55)=true)
    (a56:nsIn K mainGlobals "end_what_is_acknowledged"=some (some (.ref f56))) (l56:K.lookup f56=some ⟨oc56,od56,.func (fnOf "end_what_is_acknowledged" "end_what_is_acknowledged" (Zq Zj3) (Zn Zj3) (Zg Zj3) .none kV56 dc56 pm56 an56 cd56 ct56),sl56⟩) (c56:codeIn K cd56 "end_what_is_acknowledged"=true) (k56:keepIn K (.ref f56)=true)
    (a57:nsIn K mainGlobals "hear_stream"=some (some (.ref f57))) (l57:K.lookup f57=some ⟨oc57,od57,.func (fnOf "hear_stream" "hear_stream" (Zq Zj2) (Zn Zj2) (Zg Zj2) .none kV57 dc57 pm57 an57 cd57 ct57),sl57⟩) (c57:codeIn K cd57 "hear_stream"=true) (k57:keepIn K (.ref f57)=true)
    (a58:nsIn K mainGlobals "keep_data"=some (some (.ref f58))) (l58:K.lookup f58=some ⟨oc58,od58,.func (fnOf "keep_data" "keep_data" (Zq Zj1) (Zn Zj1) (Zg Zj1) .none kV58 dc58 pm58 an58 cd58 ct58),sl58⟩) (c58:codeIn K cd58 "keep_data"=true) (k58:keepIn K (.ref f58)=true)
    (a59:nsIn K mainGlobals "keep_fin"=some (some (.ref f59))) (l59:K.lookup f59=some ⟨oc59,od59,.func (fnOf "keep_fin" "keep_fin" (Zq Zj0) (Zn Zj0) (Zg Zj0) .none kV59 dc59 pm59 an59 cd59 ct59),sl59⟩) (c59:codeIn K cd59 "keep_fin"=true) (k59:keepIn K (.ref f59)=true)
    (a60:nsIn K mainGlobals "draw_in_order"=some (some (.ref f60))) (l60:K.lookup f60=some ⟨oc60,od60,.func (fnOf "draw_in_order" "draw_in_order" (Zq ZjZ) (Zn ZjZ) (Zg ZjZ) .none kV60 dc60 pm60 an60 cd60 ct60),sl60⟩) (c60:codeIn K cd60 "draw_in_order"=true) (k60:keepIn K (.ref f60)=true)
    (a61:nsIn K mainGlobals "hear_fin"=some (some (.ref f61))) (l61:K.lookup f61=some ⟨oc61,od61,.func (fnOf "hear_fin" "hear_fin" (Zq ZjY) (Zn ZjY) (Zg ZjY) .none kV61 dc61 pm61 an61 cd61 ct61),sl61⟩) (c61:codeIn K cd61 "hear_fin"=true) (k61:keepIn K (.ref f61)=true)
    (a62:nsIn K mainGlobals "send"=some (some (.ref f62))) (l62:K.lookup f62=some ⟨oc62,od62,.func (fnOf "send" "send" (Zq ZjX) (Zn ZjX) (Zg ZjX) .none kV62 dc62 pm62 an62 cd62 ct62),sl62⟩) (c62:codeIn K cd62 "send"=true) (k62:keepIn K (.ref f62)=true)
    (a63:nsIn K mainGlobals "going"=some (some (.ref f63))) (l63:K.lookup f63=some ⟨oc63,od63,.func (fnOf "going" "going" (Zq ZjW) (Zn ZjW) (Zg ZjW) .none kV63 dc63 pm63 an63 cd63 ct63),sl63⟩) (c63:codeIn K cd63 "going"=true) (k63:keepIn K (.ref f63)=true)
    (a64:nsIn K mainGlobals "paid_reset"=some (some (.ref f64))) (l64:K.lookup f64=some ⟨oc64,od64,.func (fnOf "paid_reset" "paid_reset" (Zq ZjV) (Zn ZjV) (Zg ZjV) .none kV64 dc64 pm64 an64 cd64 ct64),sl64⟩) (c64:codeIn K cd64 "paid_reset"=true) (k64:keepIn K (.ref f64)=true)
    (a65:nsIn K mainGlobals "is_due"=some (some (.ref f65))) (l65:K.lookup f65=some ⟨oc65,od65,.func (fnOf "is_due" "is_due" (Zq ZjU) (Zn ZjU) (Zg ZjU) .none kV65 dc65 pm65 an65 cd65 ct65),sl65⟩) (c65:codeIn K cd65 "is_due"=true) (k65:keepIn K (.ref f65)=true)
    (a66:nsIn K mainGlobals "again"=some (some (.ref f66))) (l66:K.lookup f66=some ⟨oc66,od66,.func (fnOf "again" "again" (Zq ZjT) (Zn ZjT) (Zg ZjT) .none kV66 dc66 pm66 an66 cd66 ct66),sl66⟩) (c66:codeIn K cd66 "again"=true) (k66:keepIn K (.ref f66)=true)
    (a67:nsIn K mainGlobals "most_at_once"=some (some (.ref f67))) (l67:K.lookup f67=some ⟨oc67,od67,.func (fnOf "most_at_once" "most_at_once" (Zq ZjS) (Zn ZjS) (Zg ZjS) .none kV67 dc67 pm67 an67 cd67 ct67),sl67⟩) (c67:codeIn K cd67 "most_at_once"=true) (k67:keepIn K (.ref f67)=true)
    (a68:nsIn K mainGlobals "paid_syn"=some (some (.ref f68))) (l68:K.lookup f68=some ⟨oc68,od68,.func (fnOf "paid_syn" "paid_syn" (Zq ZjR) (Zn ZjR) (Zg ZjR) .none kV68 dc68 pm68 an68 cd68 ct68),sl68⟩) (c68:codeIn K cd68 "paid_syn"=true) (k68:keepIn K (.ref f68)=true)
    (a69:nsIn K mainGlobals "segment_of"=some (some (.ref f69))) (l69:K.lookup f69=some ⟨oc69,od69,.func (fnOf "segment_of" "segment_of" (Zq ZjQ) (Zn ZjQ) (Zg ZjQ) .none kV69 dc69 pm69 an69 cd69 ct69),sl69⟩) (c69:codeIn K cd69 "segment_of"=true) (k69:keepIn K (.ref f69)=true)
    (a70:nsIn K mainGlobals "going_as_new"=some (some (.ref f70))) (l70:K.lookup f70=some ⟨oc70,od70,.func (fnOf "going_as_new" "going_as_new" (Zq ZjP) (Zn ZjP) (Zg ZjP) .none kV70 dc70 pm70 an70 cd70 ct70),sl70⟩) (c70:codeIn K cd70 "going_as_new"=true) (k70:keepIn K (.ref f70)=true)
    (a71:nsIn K mainGlobals "new_syn"=some (some (.ref f71))) (l71:K.lookup f71=some ⟨oc71,od71,.func (fnOf "new_syn" "new_syn" (Zq ZjO) (Zn ZjO) (Zg ZjO) .none kV71 dc71 pm71 an71 cd71 ct71),sl71⟩) (c71:codeIn K cd71 "new_syn"=true) (k71:keepIn K (.ref f71)=true)
    (a72:nsIn K mainGlobals "has_more"=some (some (.ref f72))) (l72:K.lookup f72=some ⟨oc72,od72,.func (fnOf "has_more" "has_more" (Zq ZjN) (Zn ZjN) (Zg ZjN) .none kV72 dc72 pm72 an72 cd72 ct72),sl72⟩) (c72:codeIn K cd72 "has_more"=true) (k72:keepIn K (.ref f72)=true)
    (a73:nsIn K mainGlobals "has_new_data"=some (some (.ref f73))) (l73:K.lookup f73=some ⟨oc73,od73,.func (fnOf "has_new_data" "has_new_data" (Zq ZjM) (Zn ZjM) (Zg ZjM) .none kV73 dc73 pm73 an73 cd73 ct73),sl73⟩) (c73:codeIn K cd73 "has_new_data"=true) (k73:keepIn K (.ref f73)=true)
    (a74:nsIn K mainGlobals "unsent"=some (some (.ref f74))) (l74:K.lookup f74=some ⟨oc74,od74,.func (fnOf "unsent" "unsent" (Zq ZjL) (Zn ZjL) (Zg ZjL) .none kV74 dc74 pm74 an74 cd74 ct74),sl74⟩) (c74:codeIn K cd74 "unsent"=true) (k74:keepIn K (.ref f74)=true)
    (a75:nsIn K mainGlobals "has_new_fin"=some (some (.ref f75))) (l75:K.lookup f75=some ⟨oc75,od75,.func (fnOf "has_new_fin" "has_new_fin" (Zq ZjK) (Zn ZjK) (Zg ZjK) .none kV75 dc75 pm75 an75 cd75 ct75),sl75⟩) (c75:codeIn K cd75 "has_new_fin"=true) (k75:keepIn K (.ref f75)=true)
    (a76:nsIn K mainGlobals "new_piece"=some (some (.ref f76))) (l76:K.lookup f76=some ⟨oc76,od76,.func (fnOf "new_piece" "new_piece" (Zq ZjJ) (Zn ZjJ) (Zg ZjJ) .none kV76 dc76 pm76 an76 cd76 ct76),sl76⟩) (c76:codeIn K cd76 "new_piece"=true) (k76:keepIn K (.ref f76)=true)
    (a77:nsIn K mainGlobals "new_data"=some (some (.ref f77))) (l77:K.lookup f77=some ⟨oc77,od77,.func (fnOf "new_data" "new_data" (Zq ZjI) (Zn ZjI) (Zg ZjI) .none kV77 dc77 pm77 an77 cd77 ct77),sl77⟩) (c77:codeIn K cd77 "new_data"=true) (k77:keepIn K (.ref f77)=true)
    (a78:nsIn K mainGlobals "new_fin"=some (some (.ref f78))) (l78:K.lookup f78=some ⟨oc78,od78,.func (fnOf "new_fin" "new_fin" (Zq ZjH) (Zn ZjH) (Zg ZjH) .none kV78 dc78 pm78 an78 cd78 ct78),sl78⟩) (c78:codeIn K cd78 "new_fin"=true) (k78:keepIn K (.ref f78)=true)
    (a79:nsIn K mainGlobals "going_as_probe"=some (some (.ref f79))) (l79:K.lookup f79=some ⟨oc79,od79,.func (fnOf "going_as_probe" "going_as_probe" (Zq ZjG) (Zn ZjG) (Zg ZjG) .none kV79 dc79 pm79 an79 cd79 ct79),sl79⟩) (c79:codeIn K cd79 "going_as_probe"=true) (k79:keepIn K (.ref f79)=true)
    (a80:nsIn K mainGlobals "going_as_answer"=some (some (.ref f80))) (l80:K.lookup f80=some ⟨oc80,od80,.func (fnOf "going_as_answer" "going_as_answer" (Zq ZjF) (Zn ZjF) (Zg ZjF) .none kV80 dc80 pm80 an80 cd80 ct80),sl80⟩) (c80:codeIn K cd80 "going_as_answer"=true) (k80:keepIn K (.ref f80)=true)
    (a81:nsIn K mainGlobals "_law_cell"=some (some (.ref f81))) (l81:K.lookup f81=some ⟨oc81,od81,.func (fnOf "_law_cell" "_law_cell" (Zq ZjE) (Zn ZjE) (Zg ZjE) .none kV81 dc81 pm81 an81 cd81 ct81),sl81⟩) (c81:codeIn K cd81 "_law_cell"=true) (k81:keepIn K (.ref f81)=true)
    (a82:nsIn K mainGlobals "_law_mix"=some (some (.ref f82))) (l82:K.lookup f82=some ⟨oc82,od82,.func (fnOf "_law_mix" "_law_mix" (Zq ZjD) (Zn ZjD) (Zg ZjD) .none kV82 dc82 pm82 an82 cd82 ct82),sl82⟩) (c82:codeIn K cd82 "_law_mix"=true) (k82:keepIn K (.ref f82)=true)
    (a83:nsIn K mainGlobals "_law_two"=some (some (.ref f83))) (l83:K.lookup f83=some ⟨oc83,od83,.func (fnOf "_law_two" "_law_two" (Zq ZjC) (Zn ZjC) (Zg ZjC) .none kV83 dc83 pm83 an83 cd83 ct83),sl83⟩) (c83:codeIn K cd83 "_law_two"=true) (k83:keepIn K (.ref f83)=true)
    (a84:nsIn K mainGlobals "_law_folded"=some (some (.ref f84))) (l84:K.lookup f84=some ⟨oc84,od84,.func (fnOf "_law_folded" "_law_folded" (Zq ZjB) (Zn ZjB) (Zg ZjB) .none kV84 dc84 pm84 an84 cd84 ct84),sl84⟩) (c84:codeIn K cd84 "_law_folded"=true) (k84:keepIn K (.ref f84)=true)
    (a85:nsIn K mainGlobals "_law_bytes"=some (some (.ref f85))) (l85:K.lookup f85=some ⟨oc85,od85,.func (fnOf "_law_bytes" "_law_bytes" (Zq ZjA) (Zn ZjA) (Zg ZjA) .none kV85 dc85 pm85 an85 cd85 ct85),sl85⟩) (c85:codeIn K cd85 "_law_bytes"=true) (k85:keepIn K (.ref f85)=true)
    (a86:nsIn K mainGlobals "_law_read"=some (some (.ref f86))) (l86:K.lookup f86=some ⟨oc86,od86,.func (fnOf "_law_read" "_law_read" (Zq Zib) (Zn Zib) (Zg Zib) .none kV86 dc86 pm86 an86 cd86 ct86),sl86⟩) (c86:codeIn K cd86 "_law_read"=true) (k86:keepIn K (.ref f86)=true)
    (a87:nsIn K mainGlobals "_law_byte"=some (some (.ref f87))) (l87:K.lookup f87=some ⟨oc87,od87,.func (fnOf "_law_byte" "_law_byte" (Zq Zjz) (Zn Zjz) (Zg Zjz) .none kV87 dc87 pm87 an87 cd87 ct87),sl87⟩) (c87:codeIn K cd87 "_law_byte"=true) (k87:keepIn K (.ref f87)=true)
    (a88:nsIn K mainGlobals "_law_plus"=some (some (.ref f88))) (l88:K.lookup f88=some ⟨oc88,od88,.func (fnOf "_law_plus" "_law_plus" (Zq Zjy) (Zn Zjy) (Zg Zjy) .none kV88 dc88 pm88 an88 cd88 ct88),sl88⟩) (c88:codeIn K cd88 "_law_plus"=true) (k88:keepIn K (.ref f88)=true)
    (a89:nsIn K mainGlobals "_law_first"=some (some (.ref f89))) (l89:K.lookup f89=some ⟨oc89,od89,.func (fnOf "_law_first" "_law_first" (Zq Zjx) (Zn Zjx) (Zg Zjx) .none kV89 dc89 pm89 an89 cd89 ct89),sl89⟩) (c89:codeIn K cd89 "_law_first"=true) (k89:keepIn K (.ref f89)=true)
    (a90:nsIn K mainGlobals "_law_segment"=some (some (.ref f90))) (l90:K.lookup f90=some ⟨oc90,od90,.func (fnOf "_law_segment" "_law_segment" (Zq Zjw) (Zn Zjw) (Zg Zjw) .none kV90 dc90 pm90 an90 cd90 ct90),sl90⟩) (c90:codeIn K cd90 "_law_segment"=true) (k90:keepIn K (.ref f90)=true)
    (a91:nsIn K mainGlobals "_law_given"=some (some (.ref f91))) (l91:K.lookup f91=some ⟨oc91,od91,.func (fnOf "_law_given" "_law_given" (Zq Zjv) (Zn Zjv) (Zg Zjv) .none kV91 dc91 pm91 an91 cd91 ct91),sl91⟩) (c91:codeIn K cd91 "_law_given"=true) (k91:keepIn K (.ref f91)=true)
    (a92:nsIn K mainGlobals "_law_opened"=some (some (.ref f92))) (l92:K.lookup f92=some ⟨oc92,od92,.func (fnOf "_law_opened" "_law_opened" (Zq Zju) (Zn Zju) (Zg Zju) .none kV92 dc92 pm92 an92 cd92 ct92),sl92⟩) (c92:codeIn K cd92 "_law_opened"=true) (k92:keepIn K (.ref f92)=true)
    (a93:nsIn K mainGlobals "law"=some (some (.ref f93))) (l93:K.lookup f93=some ⟨oc93,od93,.func (fnOf "law" "law" (Zq Zf8) (Zn Zf8) (Zg Zf8) .none kV93 dc93 pm93 an93 cd93 ct93),sl93⟩) (c93:codeIn K cd93 "law"=true) (k93:keepIn K (.ref f93)=true)
    (pg_End:plainGet K C_End Str.empty=true) (hd_End:hasDictIn K C_End=true) (po_End:plainOver K C_End=true) (sa_End:findIn K (.ref C_End) "__setattr__"=some (some (.builtin "object.__setattr__"))) (mk_End:makesIn K C_End=true) (kc_End:keepIn K (.ref C_End)=true)
    (pg_Pile:plainGet K C_Pile Str.empty=true) (hd_Pile:hasDictIn K C_Pile=true) (po_Pile:plainOver K C_Pile=true) (sa_Pile:findIn K (.ref C_Pile) "__setattr__"=some (some (.builtin "object.__setattr__"))) (mk_Pile:makesIn K C_Pile=true) (kc_Pile:keepIn K (.ref C_Pile)=true)
    (zA0:findIn K (.ref C_End) "behind"=some none)
    (zA1:findIn K (.ref C_End) "come"=some none)
    (zA2:findIn K (.ref C_End) "early"=some none)
    (zA3:findIn K (.ref C_End) "early_fin"=some none)
    (zA4:findIn K (.ref C_End) "error"=some none)
    (zA5:findIn K (.ref C_End) "first"=some none)
    (zA6:findIn K (.ref C_End) "has_closed"=some none)
    (zA7:findIn K (.ref C_End) "most"=some none)
    (zA8:findIn K (.ref C_End) "nxt"=some none)
    (zA9:findIn K (.ref C_End) "ours"=some none)
    (zA10:findIn K (.ref C_End) "owed_reset"=some none)
    (zA11:findIn K (.ref C_End) "owes_answer"=some none)
    (zA12:findIn K (.ref C_End) "owes_syn"=some none)
    (zA13:findIn K (.ref C_End) "probes"=some none)
    (zA14:findIn K (.ref C_End) "rcv"=some none)
    (zA15:findIn K (.ref C_End) "since"=some none)
    (zA16:findIn K (.ref C_End) "state"=some none)
    (zA17:findIn K (.ref C_End) "theirs"=some none)
    (zA18:findIn K (.ref C_End) "told"=some none)
    (zA19:findIn K (.ref C_End) "told_by"=some none)
    (zA20:findIn K (.ref C_End) "tries"=some none)
    (zA21:findIn K (.ref C_End) "una"=some none)
    (zA22:findIn K (.ref C_End) "wait"=some none)
    (zA23:findIn K (.ref C_End) "wnd"=some none)
    (zA24:findIn K (.ref C_End) "written"=some none)
    (zA25:findIn K (.ref C_Pile) "row"=some none)
    (zg0:nsIn K mainGlobals "ACK"=some (some (.int 16 zt0)))
    (zg1:nsIn K mainGlobals "ANSWER"=some (some (.int 3 zt1)))
    (zg2:nsIn K mainGlobals "CLOSED"=some (some (.str "closed" zt2)))
    (zg3:nsIn K mainGlobals "CLOSE_WAIT"=some (some (.str "close wait" zt3)))
    (zg4:nsIn K mainGlobals "CLOSING"=some (some (.str "closing" zt4)))
    (zg5:nsIn K mainGlobals "DATA"=some (some (.int 7 zt5)))
    (zg6:nsIn K mainGlobals "FIN"=some (some (.int 1 zt6)))
    (zg7:nsIn K mainGlobals "FIRST_WAIT"=some (some (.int 1000 zt7)))
    (zg8:nsIn K mainGlobals "FLAGS"=some (some (.int 4 zt8)))
    (zg9:nsIn K mainGlobals "GOAL"=some (some (.int 1 zt9)))
    (zg10:nsIn K mainGlobals "GREATEST_DATA"=some (some (.int 16 zt10)))
    (zg11:nsIn K mainGlobals "GREATEST_FLAGS"=some (some (.int 31 zt11)))
    (zg12:nsIn K mainGlobals "GREATEST_WORD"=some (some (.int 65535 zt12)))
    (zg13:nsIn K mainGlobals "HALF_ROUND"=some (some (.int 2147483648 zt13)))
    (zg14:nsIn K mainGlobals "LAST_ACK"=some (some (.str "last ack" zt14)))
    (zg15:nsIn K mainGlobals "LAST_WAIT"=some (some (.int 120000 zt15)))
    (zg16:nsIn K mainGlobals "LEAST_MOST"=some (some (.int 4 zt16)))
    (zg17:nsIn K mainGlobals "LISTEN"=some (some (.str "listen" zt17)))
    (zg18:nsIn K mainGlobals "LONGEST_WAIT"=some (some (.int 16000 zt18)))
    (zg19:nsIn K mainGlobals "LONG_HEAD"=some (some (.int 24 zt19)))
    (zg20:nsIn K mainGlobals "MOST"=some (some (.int 6 zt20)))
    (zg21:nsIn K mainGlobals "MOST_TRIES"=some (some (.int 6 zt21)))
    (zg22:nsIn K mainGlobals "MOST_UNTOLD"=some (some (.int 12 zt22)))
    (zg23:nsIn K mainGlobals "NO_ERROR"=some (some (.str "" zt23)))
    (zg24:nsIn K mainGlobals "NUMBER"=some (some (.int 2 zt24)))
    (zg25:nsIn K mainGlobals "OPEN"=some (some (.str "open" zt25)))
    (zg26:nsIn K mainGlobals "PSH"=some (some (.int 8 zt26)))
    (zg27:nsIn K mainGlobals "REFUSED"=some (some (.str "refused" zt27)))
    (zg28:nsIn K mainGlobals "RESET"=some (some (.str "reset" zt28)))
    (zg29:nsIn K mainGlobals "RIGHT_SUM"=some (some (.int 65535 zt29)))
    (zg30:nsIn K mainGlobals "ROOM"=some (some (.int 64 zt30)))
    (zg31:nsIn K mainGlobals "ROUND"=some (some (.int 4294967296 zt31)))
    (zg32:nsIn K mainGlobals "RST"=some (some (.int 4 zt32)))
    (zg33:nsIn K mainGlobals "SHORT_HEAD"=some (some (.int 20 zt33)))
    (zg34:nsIn K mainGlobals "SOURCE"=some (some (.int 0 zt34)))
    (zg35:nsIn K mainGlobals "SYN"=some (some (.int 2 zt35)))
    (zg36:nsIn K mainGlobals "SYN_COME"=some (some (.str "syn come" zt36)))
    (zg37:nsIn K mainGlobals "SYN_SENT"=some (some (.str "syn sent" zt37)))
    (zg38:nsIn K mainGlobals "TIME"=some (some (.str "time" zt38)))
    (zg39:nsIn K mainGlobals "TIME_WAIT"=some (some (.str "time wait" zt39)))
    (zg40:nsIn K mainGlobals "WAIT_ONE"=some (some (.str "wait one" zt40)))
    (zg41:nsIn K mainGlobals "WAIT_TWO"=some (some (.str "wait two" zt41)))
    (zg42:nsIn K mainGlobals "WINDOW"=some (some (.int 5 zt42)))
    (zg43:nsIn K mainGlobals "WORDS"=some (some (.int 65536 zt43)))
    (z_all:nsIn K mainGlobals "all"=some none)
    (z_bool:nsIn K mainGlobals "bool"=some none)
    (z_enumerate:nsIn K mainGlobals "enumerate"=some none)
    (z_int:nsIn K mainGlobals "int"=some none)
    (z_isinstance:nsIn K mainGlobals "isinstance"=some none)
    (z_len:nsIn K mainGlobals "len"=some none)
    (z_list:nsIn K mainGlobals "list"=some none)
    (z_max:nsIn K mainGlobals "max"=some none)
    (z_min:nsIn K mainGlobals "min"=some none)
    (z_range:nsIn K mainGlobals "range"=some none)
    (z_sum:nsIn K mainGlobals "sum"=some none)
    (z_tuple:nsIn K mainGlobals "tuple"=some none) :
    ∃fd:FuncData,(∀(s:Shared) (v:Value),BindsTo s fd ⟨[v],[]⟩ [("_law_script",v)])∧∀base:Heap,K.In base→base.Ns mainGlobals mg→FnOk l.prog w K mg base CX0 10 fa fd ["_law_script"] (Zmu K):=by
  have e:=hfa.symm.trans (mg_of X G a93)
  cases e
  have eC_End:C_End=z0 mg "End":=(Zm2 (mg_of X G aC_End)).symm
  have eC_Pile:C_Pile=z0 mg "Pile":=(Zm2 (mg_of X G aC_Pile)).symm
  subst eC_End
  subst eC_Pile
  have g:Glb K mg:=⟨⟨_,mg_of X G zg0⟩,⟨_,mg_of X G zg1⟩,⟨_,mg_of X G zg2⟩,⟨_,mg_of X G zg3⟩,⟨_,mg_of X G zg4⟩,⟨_,mg_of X G zg5⟩,⟨_,mg_of X G zg6⟩,⟨_,mg_of X G zg7⟩,⟨_,mg_of X G zg8⟩,⟨_,mg_of X G zg9⟩,⟨_,mg_of X G zg10⟩,⟨_,mg_of X G zg11⟩,⟨_,mg_of X G zg12⟩,⟨_,mg_of X G zg13⟩,⟨_,mg_of X G zg14⟩,⟨_,mg_of X G zg15⟩,⟨_,mg_of X G zg16⟩,⟨_,mg_of X G zg17⟩,⟨_,mg_of X G zg18⟩,⟨_,mg_of X G zg19⟩,⟨_,mg_of X G zg20⟩,⟨_,mg_of X G zg21⟩,⟨_,mg_of X G zg22⟩,⟨_,mg_of X G zg23⟩,⟨_,mg_of X G zg24⟩,⟨_,mg_of X G zg25⟩,⟨_,mg_of X G zg26⟩,⟨_,mg_of X G zg27⟩,⟨_,mg_of X G zg28⟩,⟨_,mg_of X G zg29⟩,⟨_,mg_of X G zg30⟩,⟨_,mg_of X G zg31⟩,⟨_,mg_of X G zg32⟩,⟨_,mg_of X G zg33⟩,⟨_,mg_of X G zg34⟩,⟨_,mg_of X G zg35⟩,⟨_,mg_of X G zg36⟩,⟨_,mg_of X G zg37⟩,⟨_,mg_of X G zg38⟩,⟨_,mg_of X G zg39⟩,⟨_,mg_of X G zg40⟩,⟨_,mg_of X G zg41⟩,⟨_,mg_of X G zg42⟩,⟨_,mg_of X G zg43⟩,mg_none_of X G z_all,mg_none_of X G z_bool,mg_none_of X G z_enumerate,mg_none_of X G z_int,mg_none_of X G z_isinstance,mg_none_of X G z_len,mg_none_of X G z_list,mg_none_of X G z_max,mg_none_of X G z_min,mg_none_of X G z_range,mg_none_of X G z_sum,mg_none_of X G z_tuple,⟨pg_End,hd_End,po_End,sa_End⟩,⟨pg_Pile,hd_Pile,po_Pile,sa_Pile⟩,zA0,zA1,zA2,zA3,zA4,zA5,zA6,zA7,zA8,zA9,zA10,zA11,zA12,zA13,zA14,zA15,zA16,zA17,zA18,zA19,zA20,zA21,zA22,zA23,zA24,zA25⟩
  have F0:=Zx (st:=zs0) l0 c0 k0
  have b0:=F0.binds (ps:=zP0) fun _ _ _ _ _ _ us hl=>match us,hl with | [_],_=>rfl
  have D0:Mk0 K mg "Pile" "Pile.__init__" zs0 zP0:=⟨_,_,F0,b0,⟨mk_Pile,a0,i0,kc_Pile⟩,mg_of X G aC_Pile⟩
  have F1:=Zx (st:=zs1) l1 c1 k1
  have b1:=F1.binds (ps:=zP1) fun _ _ _ _ _ _ us hl=>match us,hl with | [_],_=>rfl
  have D1:Def0 K mg "room" zs1 zP1:=⟨_,_,F1,b1,mg_of X G a1⟩
  have F2:=Zx (st:=zs2) l2 c2 k2
  have b2:=F2.binds (ps:=zP2) fun _ _ _ _ _ _ us hl=>match us,hl with | [_,_],_=>rfl
  have D2:Def0 K mg "lay" zs2 zP2:=⟨_,_,F2,b2,mg_of X G a2⟩
  have F3:=Zx (st:=zs3) l3 c3 k3
  have b3:=F3.binds (ps:=zP3) fun _ _ _ _ _ _ us hl=>match us,hl with | [_,_],_=>rfl
  have D3:Def0 K mg "take" zs3 zP3:=⟨_,_,F3,b3,mg_of X G a3⟩
  have F4:=Zx (st:=zs4) l4 c4 k4
  have b4:=F4.binds (ps:=zP4) fun _ _ _ _ _ _ us hl=>match us,hl with | [_,_],_=>rfl
  have D4:Def0 K mg "plus" zs4 zP4:=⟨_,_,F4,b4,mg_of X G a4⟩
  have F5:=Zx (st:=zs5) l5 c5 k5
  have b5:=F5.binds (ps:=zP5) fun _ _ _ _ _ _ us hl=>match us,hl with | [_,_],_=>rfl
  have D5:Def0 K mg "offset" zs5 zP5:=⟨_,_,F5,b5,mg_of X G a5⟩
  have F6:=Zx (st:=zs6) l6 c6 k6
  have b6:=F6.binds (ps:=zP6) fun _ _ _ _ _ _ us hl=>match us,hl with | [_,_],_=>rfl
  have D6:Def0 K mg "past" zs6 zP6:=⟨_,_,F6,b6,mg_of X G a6⟩
  have F7:=Zx (st:=zs7) l7 c7 k7
  have b7:=F7.binds (ps:=zP7) fun _ _ _ _ _ _ us hl=>match us,hl with | [_,_,_,_,_],_=>rfl
  have D7:Mk0 K mg "End" "End.__init__" zs7 zP7:=⟨_,_,F7,b7,⟨mk_End,a7,i7,kc_End⟩,mg_of X G aC_End⟩
  have F8:=Zx (st:=zs8) l8 c8 k8
  have b8:=F8.binds (ps:=zP8) fun _ _ _ _ _ _ us hl=>match us,hl with | [_,_],_=>rfl
  have D8:Def0 K mg "start_timer" zs8 zP8:=⟨_,_,F8,b8,mg_of X G a8⟩
  have F9:=Zx (st:=zs9) l9 c9 k9
  have b9:=F9.binds (ps:=zP9) fun _ _ _ _ _ _ us hl=>match us,hl with | [_],_=>rfl
  have D9:Def0 K mg "state" zs9 zP9:=⟨_,_,F9,b9,mg_of X G a9⟩
  have F10:=Zx (st:=ZkN) l10 c10 k10
  have b10:=F10.binds (ps:=Zpd) fun _ _ _ _ _ _ us hl=>match us,hl with | [_],_=>rfl
  have D10:Def0 K mg "error" ZkN Zpd:=⟨_,_,F10,b10,mg_of X G a10⟩
  have F11:=Zx (st:=ZkM) l11 c11 k11
  have b11:=F11.binds (ps:=Zpc) fun _ _ _ _ _ _ us hl=>match us,hl with | [_],_=>rfl
  have D11:Def0 K mg "our_window" ZkM Zpc:=⟨_,_,F11,b11,mg_of X G a11⟩
  have F12:=Zx (st:=ZkL) l12 c12 k12
  have b12:=F12.binds (ps:=Zpb) fun _ _ _ _ _ _ us hl=>match us,hl with | [_],_=>rfl
  have D12:Def0 K mg "has_sent_fin" ZkL Zpb:=⟨_,_,F12,b12,mg_of X G a12⟩
  have F13:=Zx (st:=ZkK) l13 c13 k13
  have b13:=F13.binds (ps:=Zpa) fun _ _ _ _ _ _ us hl=>match us,hl with | [_],_=>rfl
  have D13:Def0 K mg "folded" ZkK Zpa:=⟨_,_,F13,b13,mg_of X G a13⟩
  have F14:=Zx (st:=ZkJ) l14 c14 k14
  have b14:=F14.binds (ps:=Zo9) fun _ _ _ _ _ _ us hl=>match us,hl with | [_],_=>rfl
  have D14:Def0 K mg "sum_of" ZkJ Zo9:=⟨_,_,F14,b14,mg_of X G a14⟩
  have F15:=Zx (st:=ZkI) l15 c15 k15
  have b15:=F15.binds (ps:=Zo8) fun _ _ _ _ _ _ us hl=>match us,hl with | [_],_=>rfl
  have D15:Def0 K mg "length" ZkI Zo8:=⟨_,_,F15,b15,mg_of X G a15⟩
  have F16:=Zx (st:=ZkH) l16 c16 k16
  have b16:=F16.binds (ps:=Zo7) fun _ _ _ _ _ _ us hl=>match us,hl with | [_,_],_=>rfl
  have D16:Def0 K mg "has" ZkH Zo7:=⟨_,_,F16,b16,mg_of X G a16⟩
  have F17:=Zx (st:=ZkG) l17 c17 k17
  have b17:=F17.binds (ps:=Zo6) fun _ _ _ _ _ _ us hl=>match us,hl with | [_,_],_=>rfl
  have D17:Def0 K mg "bears" ZkG Zo6:=⟨_,_,F17,b17,mg_of X G a17⟩
  have F18:=Zx (st:=ZkF) l18 c18 k18
  have b18:=F18.binds (ps:=Zo5) fun _ _ _ _ _ _ us hl=>match us,hl with | [_],_=>rfl
  have D18:Def0 K mg "put" ZkF Zo5:=⟨_,_,F18,b18,mg_of X G a18⟩
  have F19:=Zx (st:=ZkE) l19 c19 k19
  have b19:=F19.binds (ps:=Zo4) fun _ _ _ _ _ _ us hl=>match us,hl with | [_],_=>rfl
  have D19:Def0 K mg "bytes_ahead_of_sum" ZkE Zo4:=⟨_,_,F19,b19,mg_of X G a19⟩
  have F20:=Zx (st:=ZkD) l20 c20 k20
  have b20:=F20.binds (ps:=Zo3) fun _ _ _ _ _ _ us hl=>match us,hl with | [_],_=>rfl
  have D20:Def0 K mg "byte_of_head" ZkD Zo3:=⟨_,_,F20,b20,mg_of X G a20⟩
  have F21:=Zx (st:=ZkC) l21 c21 k21
  have b21:=F21.binds (ps:=Zo2) fun _ _ _ _ _ _ us hl=>match us,hl with | [_],_=>rfl
  have D21:Def0 K mg "bytes_of_most" ZkC Zo2:=⟨_,_,F21,b21,mg_of X G a21⟩
  have F22:=Zx (st:=ZkB) l22 c22 k22
  have b22:=F22.binds (ps:=Zo1) fun _ _ _ _ _ _ us hl=>match us,hl with | [_],_=>rfl
  have D22:Def0 K mg "two_bytes" ZkB Zo1:=⟨_,_,F22,b22,mg_of X G a22⟩
  have F23:=Zx (st:=ZkA) l23 c23 k23
  have b23:=F23.binds (ps:=Zo0) fun _ _ _ _ _ _ us hl=>match us,hl with | [_],_=>rfl
  have D23:Def0 K mg "four_bytes" ZkA Zo0:=⟨_,_,F23,b23,mg_of X G a23⟩
  have F24:=Zx (st:=Zkz) l24 c24 k24
  have b24:=F24.binds (ps:=ZoZ) fun _ _ _ _ _ _ us hl=>match us,hl with | [_],_=>rfl
  have D24:Def0 K mg "is_right" Zkz ZoZ:=⟨_,_,F24,b24,mg_of X G a24⟩
  have F25:=Zx (st:=Zky) l25 c25 k25
  have b25:=F25.binds (ps:=ZoY) fun _ _ _ _ _ _ us hl=>match us,hl with | [_],_=>rfl
  have D25:Def0 K mg "head_of" Zky ZoY:=⟨_,_,F25,b25,mg_of X G a25⟩
  have F26:=Zx (st:=Zkx) l26 c26 k26
  have b26:=F26.binds (ps:=ZoX) fun _ _ _ _ _ _ us hl=>match us,hl with | [_],_=>rfl
  have D26:Def0 K mg "is_right_long_head" Zkx ZoX:=⟨_,_,F26,b26,mg_of X G a26⟩
  have F27:=Zx (st:=Zkw) l27 c27 k27
  have b27:=F27.binds (ps:=ZoW) fun _ _ _ _ _ _ us hl=>match us,hl with | [_],_=>rfl
  have D27:Def0 K mg "get" Zkw ZoW:=⟨_,_,F27,b27,mg_of X G a27⟩
  have F28:=Zx (st:=Zkv) l28 c28 k28
  have b28:=F28.binds (ps:=ZoV) fun _ _ _ _ _ _ us hl=>match us,hl with | [_,_],_=>rfl
  have D28:Def0 K mg "two_at" Zkv ZoV:=⟨_,_,F28,b28,mg_of X G a28⟩
  have F29:=Zx (st:=Zku) l29 c29 k29
  have b29:=F29.binds (ps:=ZoU) fun _ _ _ _ _ _ us hl=>match us,hl with | [_,_],_=>rfl
  have D29:Def0 K mg "four_at" Zku ZoU:=⟨_,_,F29,b29,mg_of X G a29⟩
  have F30:=Zx (st:=Zkt) l30 c30 k30
  have b30:=F30.binds (ps:=ZoT) fun _ _ _ _ _ _ us hl=>match us,hl with | [_,_,_,_],_=>rfl
  have D30:Def0 K mg "opened" Zkt ZoT:=⟨_,_,F30,b30,mg_of X G a30⟩
  have F31:=Zx (st:=Zks) l31 c31 k31
  have b31:=F31.binds (ps:=ZoS) fun _ _ _ _ _ _ us hl=>match us,hl with | [_,_],_=>rfl
  have D31:Def0 K mg "write" Zks ZoS:=⟨_,_,F31,b31,mg_of X G a31⟩
  have F32:=Zx (st:=Zkr) l32 c32 k32
  have b32:=F32.binds (ps:=ZoR) fun _ _ _ _ _ _ us hl=>match us,hl with | [_,_],_=>rfl
  have D32:Def0 K mg "read" Zkr ZoR:=⟨_,_,F32,b32,mg_of X G a32⟩
  have F33:=Zx (st:=Zkq) l33 c33 k33
  have b33:=F33.binds (ps:=ZoQ) fun _ _ _ _ _ _ us hl=>match us,hl with | [_],_=>rfl
  have D33:Def0 K mg "close" Zkq ZoQ:=⟨_,_,F33,b33,mg_of X G a33⟩
  have F34:=Zx (st:=Zkp) l34 c34 k34
  have b34:=F34.binds (ps:=ZoP) fun _ _ _ _ _ _ us hl=>match us,hl with | [_],_=>rfl
  have D34:Def0 K mg "abort" Zkp ZoP:=⟨_,_,F34,b34,mg_of X G a34⟩
  have F35:=Zx (st:=Zko) l35 c35 k35
  have b35:=F35.binds (ps:=ZoO) fun _ _ _ _ _ _ us hl=>match us,hl with | [_],_=>rfl
  have D35:Def0 K mg "reset_for" Zko ZoO:=⟨_,_,F35,b35,mg_of X G a35⟩
  have F36:=Zx (st:=Zkn) l36 c36 k36
  have b36:=F36.binds (ps:=ZoN) fun _ _ _ _ _ _ us hl=>match us,hl with | [_,_],_=>rfl
  have D36:Def0 K mg "owe_reset_for" Zkn ZoN:=⟨_,_,F36,b36,mg_of X G a36⟩
  have F37:=Zx (st:=Zkm) l37 c37 k37
  have b37:=F37.binds (ps:=ZoM) fun _ _ _ _ _ _ us hl=>match us,hl with | [_,_],_=>rfl
  have D37:Def0 K mg "come_to_closed" Zkm ZoM:=⟨_,_,F37,b37,mg_of X G a37⟩
  have F38:=Zx (st:=Zkl) l38 c38 k38
  have b38:=F38.binds (ps:=ZoL) fun _ _ _ _ _ _ us hl=>match us,hl with | [_,_],_=>rfl
  have D38:Def0 K mg "come_to_listen" Zkl ZoL:=⟨_,_,F38,b38,mg_of X G a38⟩
  have F39:=Zx (st:=Zkk) l39 c39 k39
  have b39:=F39.binds (ps:=ZoK) fun _ _ _ _ _ _ us hl=>match us,hl with | [_,_],_=>rfl
  have D39:Def0 K mg "hear_syn" Zkk ZoK:=⟨_,_,F39,b39,mg_of X G a39⟩
  have F40:=Zx (st:=Zkj) l40 c40 k40
  have b40:=F40.binds (ps:=ZoJ) fun _ _ _ _ _ _ us hl=>match us,hl with | [_,_,_],_=>rfl
  have D40:Def0 K mg "come_to_syn_sent" Zkj ZoJ:=⟨_,_,F40,b40,mg_of X G a40⟩
  have F41:=Zx (st:=Zki) l41 c41 k41
  have b41:=F41.binds (ps:=ZoI) fun _ _ _ _ _ _ us hl=>match us,hl with | [_,_],_=>rfl
  have D41:Def0 K mg "answers_syn" Zki ZoI:=⟨_,_,F41,b41,mg_of X G a41⟩
  have F42:=Zx (st:=Zkh) l42 c42 k42
  have b42:=F42.binds (ps:=ZoH) fun _ _ _ _ _ _ us hl=>match us,hl with | [_,_],_=>rfl
  have D42:Def0 K mg "refuse" Zkh ZoH:=⟨_,_,F42,b42,mg_of X G a42⟩
  have F43:=Zx (st:=Zkg) l43 c43 k43
  have b43:=F43.binds (ps:=ZoG) fun _ _ _ _ _ _ us hl=>match us,hl with | [_,_,_],_=>rfl
  have D43:Def0 K mg "go_on_from_syn_sent" Zkg ZoG:=⟨_,_,F43,b43,mg_of X G a43⟩
  have F44:=Zx (st:=Zkf) l44 c44 k44
  have b44:=F44.binds (ps:=ZoF) fun _ _ _ _ _ _ us hl=>match us,hl with | [_,_,_],_=>rfl
  have D44:Def0 K mg "arrive" Zkf ZoF:=⟨_,_,F44,b44,mg_of X G a44⟩
  have F45:=Zx (st:=Zke) l45 c45 k45
  have b45:=F45.binds (ps:=ZoE) fun _ _ _ _ _ _ us hl=>match us,hl with | [_,_],_=>rfl
  have D45:Def0 K mg "is_for" Zke ZoE:=⟨_,_,F45,b45,mg_of X G a45⟩
  have F46:=Zx (st:=Zkd) l46 c46 k46
  have b46:=F46.binds (ps:=ZoD) fun _ _ _ _ _ _ us hl=>match us,hl with | [_,_,_],_=>rfl
  have D46:Def0 K mg "come_to_stream" Zkd ZoD:=⟨_,_,F46,b46,mg_of X G a46⟩
  have F47:=Zx (st:=Zkc) l47 c47 k47
  have b47:=F47.binds (ps:=ZoC) fun _ _ _ _ _ _ us hl=>match us,hl with | [_,_],_=>rfl
  have D47:Def0 K mg "fits" Zkc ZoC:=⟨_,_,F47,b47,mg_of X G a47⟩
  have F48:=Zx (st:=Zkb) l48 c48 k48
  have b48:=F48.binds (ps:=ZoB) fun _ _ _ _ _ _ us hl=>match us,hl with | [_,_],_=>rfl
  have D48:Def0 K mg "is_in_window" Zkb ZoB:=⟨_,_,F48,b48,mg_of X G a48⟩
  have F49:=Zx (st:=Zka) l49 c49 k49
  have b49:=F49.binds (ps:=ZoA) fun _ _ _ _ _ _ us hl=>match us,hl with | [_,_,_],_=>rfl
  have D49:Def0 K mg "turn_away" Zka ZoA:=⟨_,_,F49,b49,mg_of X G a49⟩
  have F50:=Zx (st:=Zj9) l50 c50 k50
  have b50:=F50.binds (ps:=Zoz) fun _ _ _ _ _ _ us hl=>match us,hl with | [_,_],_=>rfl
  have D50:Def0 K mg "hear_reset" Zj9 Zoz:=⟨_,_,F50,b50,mg_of X G a50⟩
  have F51:=Zx (st:=Zj8) l51 c51 k51
  have b51:=F51.binds (ps:=Zoy) fun _ _ _ _ _ _ us hl=>match us,hl with | [_,_,_],_=>rfl
  have D51:Def0 K mg "goes_on_behind_answer" Zj8 Zoy:=⟨_,_,F51,b51,mg_of X G a51⟩
  have F52:=Zx (st:=Zj7) l52 c52 k52
  have b52:=F52.binds (ps:=Zox) fun _ _ _ _ _ _ us hl=>match us,hl with | [_,_],_=>rfl
  have D52:Def0 K mg "has_answered_syn" Zj7 Zox:=⟨_,_,F52,b52,mg_of X G a52⟩
  have F53:=Zx (st:=Zj6) l53 c53 k53
  have b53:=F53.binds (ps:=Zow) fun _ _ _ _ _ _ us hl=>match us,hl with | [_,_],_=>rfl
  have D53:Def0 K mg "take_window" Zj6 Zow:=⟨_,_,F53,b53,mg_of X G a53⟩
  have F54:=Zx (st:=Zj5) l54 c54 k54
  have b54:=F54.binds (ps:=Zov) fun _ _ _ _ _ _ us hl=>match us,hl with | [_,_,_],_=>rfl
  have D54:Def0 K mg "hear_answer" Zj5 Zov:=⟨_,_,F54,b54,mg_of X G a54⟩
  have F55:=Zx (st:=Zj4) l55 c55 k55
  have b55:=F55.binds (ps:=Zou) fun _ _ _ _ _ _ us hl=>match us,hl with | [_,_],_=>rfl
  have D55:Def0 K mg "is_newer" Zj4 Zou:=⟨_,_,F55,b55,mg_of X G a55⟩
  have F56:=Zx (st:=Zj3) l56 c56 k56
  have b56:=F56.binds (ps:=Zot) fun _ _ _ _ _ _ us hl=>match us,hl with | [_,_],_=>rfl
  have D56:Def0 K mg "end_what_is_acknowledged" Zj3 Zot:=⟨_,_,F56,b56,mg_of X G a56⟩
  have F57:=Zx (st:=Zj2) l57 c57 k57
  have b57:=F57.binds (ps:=Zos) fun _ _ _ _ _ _ us hl=>match us,hl with | [_,_,_],_=>rfl
  have D57:Def0 K mg "hear_stream" Zj2 Zos:=⟨_,_,F57,b57,mg_of X G a57⟩
  have F58:=Zx (st:=Zj1) l58 c58 k58
  have b58:=F58.binds (ps:=Zor) fun _ _ _ _ _ _ us hl=>match us,hl with | [_,_],_=>rfl
  have D58:Def0 K mg "keep_data" Zj1 Zor:=⟨_,_,F58,b58,mg_of X G a58⟩
  have F59:=Zx (st:=Zj0) l59 c59 k59
  have b59:=F59.binds (ps:=Zoq) fun _ _ _ _ _ _ us hl=>match us,hl with | [_,_],_=>rfl
  have D59:Def0 K mg "keep_fin" Zj0 Zoq:=⟨_,_,F59,b59,mg_of X G a59⟩
  have F60:=Zx (st:=ZjZ) l60 c60 k60
  have b60:=F60.binds (ps:=Zop) fun _ _ _ _ _ _ us hl=>match us,hl with | [_],_=>rfl
  have D60:Def0 K mg "draw_in_order" ZjZ Zop:=⟨_,_,F60,b60,mg_of X G a60⟩
  have F61:=Zx (st:=ZjY) l61 c61 k61
  have b61:=F61.binds (ps:=Zoo) fun _ _ _ _ _ _ us hl=>match us,hl with | [_,_],_=>rfl
  have D61:Def0 K mg "hear_fin" ZjY Zoo:=⟨_,_,F61,b61,mg_of X G a61⟩
  have F62:=Zx (st:=ZjX) l62 c62 k62
  have b62:=F62.binds (ps:=Zon) fun _ _ _ _ _ _ us hl=>match us,hl with | [_,_],_=>rfl
  have D62:Def0 K mg "send" ZjX Zon:=⟨_,_,F62,b62,mg_of X G a62⟩
  have F63:=Zx (st:=ZjW) l63 c63 k63
  have b63:=F63.binds (ps:=Zom) fun _ _ _ _ _ _ us hl=>match us,hl with | [_,_],_=>rfl
  have D63:Def0 K mg "going" ZjW Zom:=⟨_,_,F63,b63,mg_of X G a63⟩
  have F64:=Zx (st:=ZjV) l64 c64 k64
  have b64:=F64.binds (ps:=Zol) fun _ _ _ _ _ _ us hl=>match us,hl with | [_],_=>rfl
  have D64:Def0 K mg "paid_reset" ZjV Zol:=⟨_,_,F64,b64,mg_of X G a64⟩
  have F65:=Zx (st:=ZjU) l65 c65 k65
  have b65:=F65.binds (ps:=Zok) fun _ _ _ _ _ _ us hl=>match us,hl with | [_,_],_=>rfl
  have D65:Def0 K mg "is_due" ZjU Zok:=⟨_,_,F65,b65,mg_of X G a65⟩
  have F66:=Zx (st:=ZjT) l66 c66 k66
  have b66:=F66.binds (ps:=Zoj) fun _ _ _ _ _ _ us hl=>match us,hl with | [_,_],_=>rfl
  have D66:Def0 K mg "again" ZjT Zoj:=⟨_,_,F66,b66,mg_of X G a66⟩
  have F67:=Zx (st:=ZjS) l67 c67 k67
  have b67:=F67.binds (ps:=Zoi) fun _ _ _ _ _ _ us hl=>match us,hl with | [_],_=>rfl
  have D67:Def0 K mg "most_at_once" ZjS Zoi:=⟨_,_,F67,b67,mg_of X G a67⟩
  have F68:=Zx (st:=ZjR) l68 c68 k68
  have b68:=F68.binds (ps:=Zoh) fun _ _ _ _ _ _ us hl=>match us,hl with | [_],_=>rfl
  have D68:Def0 K mg "paid_syn" ZjR Zoh:=⟨_,_,F68,b68,mg_of X G a68⟩
  have F69:=Zx (st:=ZjQ) l69 c69 k69
  have b69:=F69.binds (ps:=Zog) fun _ _ _ _ _ _ us hl=>match us,hl with | [_,_,_,_],_=>rfl
  have D69:Def0 K mg "segment_of" ZjQ Zog:=⟨_,_,F69,b69,mg_of X G a69⟩
  have F70:=Zx (st:=ZjP) l70 c70 k70
  have b70:=F70.binds (ps:=Zof) fun _ _ _ _ _ _ us hl=>match us,hl with | [_,_],_=>rfl
  have D70:Def0 K mg "going_as_new" ZjP Zof:=⟨_,_,F70,b70,mg_of X G a70⟩
  have F71:=Zx (st:=ZjO) l71 c71 k71
  have b71:=F71.binds (ps:=Zoe) fun _ _ _ _ _ _ us hl=>match us,hl with | [_,_],_=>rfl
  have D71:Def0 K mg "new_syn" ZjO Zoe:=⟨_,_,F71,b71,mg_of X G a71⟩
  have F72:=Zx (st:=ZjN) l72 c72 k72
  have b72:=F72.binds (ps:=Zod) fun _ _ _ _ _ _ us hl=>match us,hl with | [_],_=>rfl
  have D72:Def0 K mg "has_more" ZjN Zod:=⟨_,_,F72,b72,mg_of X G a72⟩
  have F73:=Zx (st:=ZjM) l73 c73 k73
  have b73:=F73.binds (ps:=Zoc) fun _ _ _ _ _ _ us hl=>match us,hl with | [_],_=>rfl
  have D73:Def0 K mg "has_new_data" ZjM Zoc:=⟨_,_,F73,b73,mg_of X G a73⟩
  have F74:=Zx (st:=ZjL) l74 c74 k74
  have b74:=F74.binds (ps:=Zob) fun _ _ _ _ _ _ us hl=>match us,hl with | [_],_=>rfl
  have D74:Def0 K mg "unsent" ZjL Zob:=⟨_,_,F74,b74,mg_of X G a74⟩
  have F75:=Zx (st:=ZjK) l75 c75 k75
  have b75:=F75.binds (ps:=Zoa) fun _ _ _ _ _ _ us hl=>match us,hl with | [_],_=>rfl
  have D75:Def0 K mg "has_new_fin" ZjK Zoa:=⟨_,_,F75,b75,mg_of X G a75⟩
  have F76:=Zx (st:=ZjJ) l76 c76 k76
  have b76:=F76.binds (ps:=Zn9) fun _ _ _ _ _ _ us hl=>match us,hl with | [_,_],_=>rfl
  have D76:Def0 K mg "new_piece" ZjJ Zn9:=⟨_,_,F76,b76,mg_of X G a76⟩
  have F77:=Zx (st:=ZjI) l77 c77 k77
  have b77:=F77.binds (ps:=Zn8) fun _ _ _ _ _ _ us hl=>match us,hl with | [_,_],_=>rfl
  have D77:Def0 K mg "new_data" ZjI Zn8:=⟨_,_,F77,b77,mg_of X G a77⟩
  have F78:=Zx (st:=ZjH) l78 c78 k78
  have b78:=F78.binds (ps:=Zn7) fun _ _ _ _ _ _ us hl=>match us,hl with | [_],_=>rfl
  have D78:Def0 K mg "new_fin" ZjH Zn7:=⟨_,_,F78,b78,mg_of X G a78⟩
  have F79:=Zx (st:=ZjG) l79 c79 k79
  have b79:=F79.binds (ps:=Zn6) fun _ _ _ _ _ _ us hl=>match us,hl with | [_,_],_=>rfl
  have D79:Def0 K mg "going_as_probe" ZjG Zn6:=⟨_,_,F79,b79,mg_of X G a79⟩
  have F80:=Zx (st:=ZjF) l80 c80 k80
  have b80:=F80.binds (ps:=Zn5) fun _ _ _ _ _ _ us hl=>match us,hl with | [_],_=>rfl
  have D80:Def0 K mg "going_as_answer" ZjF Zn5:=⟨_,_,F80,b80,mg_of X G a80⟩
  have F81:=Zx (st:=ZjE) l81 c81 k81
  have b81:=F81.binds (ps:=Zn4) fun _ _ _ _ _ _ us hl=>match us,hl with | [_,_],_=>rfl
  have D81:Def0 K mg "_law_cell" ZjE Zn4:=⟨_,_,F81,b81,mg_of X G a81⟩
  have F82:=Zx (st:=ZjD) l82 c82 k82
  have b82:=F82.binds (ps:=Zn3) fun _ _ _ _ _ _ us hl=>match us,hl with | [_,_],_=>rfl
  have D82:Def0 K mg "_law_mix" ZjD Zn3:=⟨_,_,F82,b82,mg_of X G a82⟩
  have F83:=Zx (st:=ZjC) l83 c83 k83
  have b83:=F83.binds (ps:=Zn2) fun _ _ _ _ _ _ us hl=>match us,hl with | [_],_=>rfl
  have D83:Def0 K mg "_law_two" ZjC Zn2:=⟨_,_,F83,b83,mg_of X G a83⟩
  have F84:=Zx (st:=ZjB) l84 c84 k84
  have b84:=F84.binds (ps:=Zn1) fun _ _ _ _ _ _ us hl=>match us,hl with | [_],_=>rfl
  have D84:Def0 K mg "_law_folded" ZjB Zn1:=⟨_,_,F84,b84,mg_of X G a84⟩
  have F85:=Zx (st:=ZjA) l85 c85 k85
  have b85:=F85.binds (ps:=Zn0) fun _ _ _ _ _ _ us hl=>match us,hl with | [_],_=>rfl
  have D85:Def0 K mg "_law_bytes" ZjA Zn0:=⟨_,_,F85,b85,mg_of X G a85⟩
  have F86:=Zx (st:=Zib) l86 c86 k86
  have b86:=F86.binds (ps:=ZnZ) fun _ _ _ _ _ _ us hl=>match us,hl with | [_],_=>rfl
  have D86:Def0 K mg "_law_read" Zib ZnZ:=⟨_,_,F86,b86,mg_of X G a86⟩
  have F87:=Zx (st:=Zjz) l87 c87 k87
  have b87:=F87.binds (ps:=ZnY) fun _ _ _ _ _ _ us hl=>match us,hl with | [_],_=>rfl
  have D87:Def0 K mg "_law_byte" Zjz ZnY:=⟨_,_,F87,b87,mg_of X G a87⟩
  have F88:=Zx (st:=Zjy) l88 c88 k88
  have b88:=F88.binds (ps:=ZnX) fun _ _ _ _ _ _ us hl=>match us,hl with | [_,_],_=>rfl
  have D88:Def0 K mg "_law_plus" Zjy ZnX:=⟨_,_,F88,b88,mg_of X G a88⟩
  have F89:=Zx (st:=Zjx) l89 c89 k89
  have b89:=F89.binds (ps:=ZnW) fun _ _ _ _ _ _ us hl=>match us,hl with | [_],_=>rfl
  have D89:Def0 K mg "_law_first" Zjx ZnW:=⟨_,_,F89,b89,mg_of X G a89⟩
  have F90:=Zx (st:=Zjw) l90 c90 k90
  have b90:=F90.binds (ps:=ZnV) fun _ _ _ _ _ _ us hl=>match us,hl with | [_,_,_,_,_,_],_=>rfl
  have D90:Def0 K mg "_law_segment" Zjw ZnV:=⟨_,_,F90,b90,mg_of X G a90⟩
  have F91:=Zx (st:=Zjv) l91 c91 k91
  have b91:=F91.binds (ps:=ZnU) fun _ _ _ _ _ _ us hl=>match us,hl with | [_,_],_=>rfl
  have D91:Def0 K mg "_law_given" Zjv ZnU:=⟨_,_,F91,b91,mg_of X G a91⟩
  have F92:=Zx (st:=Zju) l92 c92 k92
  have b92:=F92.binds (ps:=ZnT) fun _ _ _ _ _ _ us hl=>match us,hl with | [_,_,_,_],_=>rfl
  have D92:Def0 K mg "_law_opened" Zju ZnT:=⟨_,_,F92,b92,mg_of X G a92⟩
  have F93:=Zx (st:=Zf8) l93 c93 k93
  have b93:=F93.binds (ps:=ZnS) fun _ _ _ _ _ _ us hl=>match us,hl with | [_],_=>rfl
  have D93:Def0 K mg "law" Zf8 ZnS:=⟨_,_,F93,b93,mg_of X G a93⟩
  refine ⟨fnOf "law" "law" (Zq Zf8) (Zn Zf8) (Zg Zf8) .none kV93 dc93 pm93 an93 cd93 ct93,fun s v=>.of_eq rfl,fun base _ _=>?_⟩
  exact Zr1 law_true (Zt4 F93 D0 D1 D2 D3 D4 D5 D6 D7 D8 D9 D10 D11 D12 D13 D14 D15 D16 D17 D18 D19 D20 D21 D22 D23 D24 D25 D26 D27 D28 D29 D30 D31 D32 D33 D34 D35 D36 D37 D38 D39 D40 D41 D42 D43 D44 D45 D46 D47 D48 D49 D50 D51 D52 D53 D54 D55 D56 D57 D58 D59 D60 D61 D62 D63 D64 D65 D66 D67 D68 D69 D70 D71 D72 D73 D74 D75 D76 D77 D78 D79 D80 D81 D82 D83 D84 D85 D86 D87 D88 D89 D90 D91 D92 g)
theorem ZyI {l:OpenLaw} {q:Program} {loose:List Str} {XP:(Str→Option Value)→Heap→Prop} {YP:World→Heap→Prop} {d:DefRec} {K:Params→Frag} (hn:l.most=some 63) (hdf:d.params.defaults=[])
    (hY:∀(w:World) (h:Heap),YP w h→(K w.params).In h)
    (F:∀(w:World) (mg:Str→Option Value) (fa:Addr) (h:Heap),(K w.params).In h→h.Ns mainGlobals mg→mg d.name=some (.ref fa)→
      ∃fd:FuncData,(∀(s:Shared) (u:Value),BindsTo s fd ⟨[u],[]⟩ [("_law_script",u)])∧∀base:Heap,(K w.params).In base→base.Ns mainGlobals mg→FnOk l.prog w (K w.params) mg base CX0 10 fa fd ["_law_script"] (Zmu (K w.params))) :
    WalkO q loose XP YP l.row.toRowW d [] (fun f vs=>PySem.call f vs):=
  L2.Zra (n:=63) (k:=10) (x:="_law_script") (CX:=fun _=>CX0) (sp:=fun w=>Zmu (K w.params)) hn (by decide) hdf ⟨rfl,by decide,by decide⟩ hY F (fun _ H a ns hl hO hS=>⟨a,ns,rfl,hO,hS,hl,fun _=>rfl⟩) fun _ _ _ _ _ z=>z
end My
open PySem PySem.W PyProof.Rows
set_option maxRecDepth 100000 in
set_option maxHeartbeats 0 in
theorem PySem.Challenge.cw_wirestream_k25_aborted_holds : PySem.Challenge.rw_wirestream_k25_aborted.Holds := by
  w_on; o_law; k_head; (case hw=>w_witness2)
  k_fill
  refine My.ZyI (l:=PySem.Challenge.rw_wirestream_k25_aborted) rfl rfl (fun w h Y=>PySem.W.kIn_of Y) ?F
  case F=>
    intro w mg fa h KX G hmg
    refine' My.Zul KX G hmg ?aC_End ?aC_Pile ?a0 ?i0 ?l0 ?c0 ?k0 ?a1 ?l1 ?c1 ?k1 ?a2 ?l2 ?c2 ?k2 ?a3 ?l3 ?c3 ?k3 ?a4 ?l4 ?c4 ?k4 ?a5 ?l5 ?c5 ?k5 ?a6 ?l6 ?c6 ?k6 ?a7 ?i7 ?l7 ?c7 ?k7 ?a8 ?l8 ?c8 ?k8 ?a9 ?l9 ?c9 ?k9 ?a10 ?l10 ?c10 ?k10 ?a11 ?l11 ?c11 ?k11 ?a12 ?l12 ?c12 ?k12 ?a13 ?l13 ?c13 ?k13 ?a14 ?l14 ?c14 ?k14 ?a15 ?l15 ?c15 ?k15 ?a16 ?l16 ?c16 ?k16 ?a17 ?l17 ?c17 ?k17 ?a18 ?l18 ?c18 ?k18 ?a19 ?l19 ?c19 ?k19 ?a20 ?l20 ?c20 ?k20 ?a21 ?l21 ?c21 ?k21 ?a22 ?l22 ?c22 ?k22 ?a23 ?l23 ?c23 ?k23 ?a24 ?l24 ?c24 ?k24 ?a25 ?l25 ?c25 ?k25 ?a26 ?l26 ?c26 ?k26 ?a27 ?l27 ?c27 ?k27 ?a28 ?l28 ?c28 ?k28 ?a29 ?l29 ?c29 ?k29 ?a30 ?l30 ?c30 ?k30 ?a31 ?l31 ?c31 ?k31 ?a32 ?l32 ?c32 ?k32 ?a33 ?l33 ?c33 ?k33 ?a34 ?l34 ?c34 ?k34 ?a35 ?l35 ?c35 ?k35 ?a36 ?l36 ?c36 ?k36 ?a37 ?l37 ?c37 ?k37 ?a38 ?l38 ?c38 ?k38 ?a39 ?l39 ?c39 ?k39 ?a40 ?l40 ?c40 ?k40 ?a41 ?l41 ?c41 ?k41 ?a42 ?l42 ?c42 ?k42 ?a43 ?l43 ?c43 ?k43 ?a44 ?l44 ?c44 ?k44 ?a45 ?l45 ?c45 ?k45 ?a46 ?l46 ?c46 ?k46 ?a47 ?l47 ?c47 ?k47 ?a48 ?l48 ?c48 ?k48 ?a49 ?l49 ?c49 ?k49 ?a50 ?l50 ?c50 ?k50 ?a51 ?l51 ?c51 ?k51 ?a52 ?l52 ?c52 ?k52 ?a53 ?l53 ?c53 ?k53 ?a54 ?l54 ?c54 ?k54 ?a55 ?l55 ?c55 ?k55 ?a56 ?l56 ?c56 ?k56 ?a57 ?l57 ?c57 ?k57 ?a58 ?l58 ?c58 ?k58 ?a59 ?l59 ?c59 ?k59 ?a60 ?l60 ?c60 ?k60 ?a61 ?l61 ?c61 ?k61 ?a62 ?l62 ?c62 ?k62 ?a63 ?l63 ?c63 ?k63 ?a64 ?l64 ?c64 ?k64 ?a65 ?l65 ?c65 ?k65 ?a66 ?l66 ?c66 ?k66 ?a67 ?l67 ?c67 ?k67 ?a68 ?l68 ?c68 ?k68 ?a69 ?l69 ?c69 ?k69 ?a70 ?l70 ?c70 ?k70 ?a71 ?l71 ?c71 ?k71 ?a72 ?l72 ?c72 ?k72 ?a73 ?l73 ?c73 ?k73 ?a74 ?l74 ?c74 ?k74 ?a75 ?l75 ?c75 ?k75 ?a76 ?l76 ?c76 ?k76 ?a77 ?l77 ?c77 ?k77 ?a78 ?l78 ?c78 ?k78 ?a79 ?l79 ?c79 ?k79 ?a80 ?l80 ?c80 ?k80 ?a81 ?l81 ?c81 ?k81 ?a82 ?l82 ?c82 ?k82 ?a83 ?l83 ?c83 ?k83 ?a84 ?l84 ?c84 ?k84 ?a85 ?l85 ?c85 ?k85 ?a86 ?l86 ?c86 ?k86 ?a87 ?l87 ?c87 ?k87 ?a88 ?l88 ?c88 ?k88 ?a89 ?l89 ?c89 ?k89 ?a90 ?l90 ?c90 ?k90 ?a91 ?l91 ?c91 ?k91 ?a92 ?l92 ?c92 ?k92 ?a93 ?l93 ?c93 ?k93 ?pg_End ?hd_End ?po_End ?sa_End ?mk_End ?kc_End ?pg_Pile ?hd_Pile ?po_Pile ?sa_Pile ?mk_Pile ?kc_Pile ?zA0 ?zA1 ?zA2 ?zA3 ?zA4 ?zA5 ?zA6 ?zA7 ?zA8 ?zA9 ?zA10 ?zA11 ?zA12 ?zA13 ?zA14 ?zA15 ?zA16 ?zA17 ?zA18 ?zA19 ?zA20 ?zA21 ?zA22 ?zA23 ?zA24 ?zA25 ?zg0 ?zg1 ?zg2 ?zg3 ?zg4 ?zg5 ?zg6 ?zg7 ?zg8 ?zg9 ?zg10 ?zg11 ?zg12 ?zg13 ?zg14 ?zg15 ?zg16 ?zg17 ?zg18 ?zg19 ?zg20 ?zg21 ?zg22 ?zg23 ?zg24 ?zg25 ?zg26 ?zg27 ?zg28 ?zg29 ?zg30 ?zg31 ?zg32 ?zg33 ?zg34 ?zg35 ?zg36 ?zg37 ?zg38 ?zg39 ?zg40 ?zg41 ?zg42 ?zg43 ?z_all ?z_bool ?z_enumerate ?z_int ?z_isinstance ?z_len ?z_list ?z_max ?z_min ?z_range ?z_sum ?z_tuple
    case aC_End | aC_Pile | a0 | i0 | l0 | c0 | k0 | a1 | l1 | c1 | k1 | a2 | l2 | c2 | k2 | a3 | l3 | c3 | k3 | a4 | l4 | c4 | k4 | a5 | l5 | c5 | k5 | a6 | l6 | c6 | k6 | a7 | i7 | l7 | c7 | k7 | a8 | l8 | c8 | k8 | a9 | l9 | c9 | k9 | a10 | l10 | c10 | k10 | a11 | l11 | c11 | k11 | a12 | l12 | c12 | k12 | a13 | l13 | c13 | k13 | a14 | l14 | c14 | k14 | a15 | l15 | c15 | k15 | a16 | l16 | c16 | k16 | a17 | l17 | c17 | k17 | a18 | l18 | c18 | k18 | a19 | l19 | c19 | k19 | a20 | l20 | c20 | k20 | a21 | l21 | c21 | k21 | a22 | l22 | c22 | k22 | a23 | l23 | c23 | k23 | a24 | l24 | c24 | k24 | a25 | l25 | c25 | k25 | a26 | l26 | c26 | k26 | a27 | l27 | c27 | k27 | a28 | l28 | c28 | k28 | a29 | l29 | c29 | k29 | a30 | l30 | c30 | k30 | a31 | l31 | c31 | k31 | a32 | l32 | c32 | k32 | a33 | l33 | c33 | k33 | a34 | l34 | c34 | k34 | a35 | l35 | c35 | k35 | a36 | l36 | c36 | k36 | a37 | l37 | c37 | k37 | a38 | l38 | c38 | k38 | a39 | l39 | c39 | k39 | a40 | l40 | c40 | k40 | a41 | l41 | c41 | k41 | a42 | l42 | c42 | k42 | a43 | l43 | c43 | k43 | a44 | l44 | c44 | k44 | a45 | l45 | c45 | k45 | a46 | l46 | c46 | k46 | a47 | l47 | c47 | k47 | a48 | l48 | c48 | k48 | a49 | l49 | c49 | k49 | a50 | l50 | c50 | k50 | a51 | l51 | c51 | k51 | a52 | l52 | c52 | k52 | a53 | l53 | c53 | k53 | a54 | l54 | c54 | k54 | a55 | l55 | c55 | k55 | a56 | l56 | c56 | k56 | a57 | l57 | c57 | k57 | a58 | l58 | c58 | k58 | a59 | l59 | c59 | k59 | a60 | l60 | c60 | k60 | a61 | l61 | c61 | k61 | a62 | l62 | c62 | k62 | a63 | l63 | c63 | k63 | a64 | l64 | c64 | k64 | a65 | l65 | c65 | k65 | a66 | l66 | c66 | k66 | a67 | l67 | c67 | k67 | a68 | l68 | c68 | k68 | a69 | l69 | c69 | k69 | a70 | l70 | c70 | k70 | a71 | l71 | c71 | k71 | a72 | l72 | c72 | k72 | a73 | l73 | c73 | k73 | a74 | l74 | c74 | k74 | a75 | l75 | c75 | k75 | a76 | l76 | c76 | k76 | a77 | l77 | c77 | k77 | a78 | l78 | c78 | k78 | a79 | l79 | c79 | k79 | a80 | l80 | c80 | k80 | a81 | l81 | c81 | k81 | a82 | l82 | c82 | k82 | a83 | l83 | c83 | k83 | a84 | l84 | c84 | k84 | a85 | l85 | c85 | k85 | a86 | l86 | c86 | k86 | a87 | l87 | c87 | k87 | a88 | l88 | c88 | k88 | a89 | l89 | c89 | k89 | a90 | l90 | c90 | k90 | a91 | l91 | c91 | k91 | a92 | l92 | c92 | k92 | a93 | l93 | c93 | k93 | pg_End | hd_End | po_End | sa_End | mk_End | kc_End | pg_Pile | hd_Pile | po_Pile | sa_Pile | mk_Pile | kc_Pile | zA0 | zA1 | zA2 | zA3 | zA4 | zA5 | zA6 | zA7 | zA8 | zA9 | zA10 | zA11 | zA12 | zA13 | zA14 | zA15 | zA16 | zA17 | zA18 | zA19 | zA20 | zA21 | zA22 | zA23 | zA24 | zA25 | zg0 | zg1 | zg2 | zg3 | zg4 | zg5 | zg6 | zg7 | zg8 | zg9 | zg10 | zg11 | zg12 | zg13 | zg14 | zg15 | zg16 | zg17 | zg18 | zg19 | zg20 | zg21 | zg22 | zg23 | zg24 | zg25 | zg26 | zg27 | zg28 | zg29 | zg30 | zg31 | zg32 | zg33 | zg34 | zg35 | zg36 | zg37 | zg38 | zg39 | zg40 | zg41 | zg42 | zg43 | z_all | z_bool | z_enumerate | z_int | z_isinstance | z_len | z_list | z_max | z_min | z_range | z_sum | z_tuple=>k_is
#print axioms PySem.Challenge.cw_wirestream_k25_aborted_holds
