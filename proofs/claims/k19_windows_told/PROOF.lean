import PyProof.Rows.All
import Wide.All
import OpenK.AllK
import Wide.FinOn
import Lean
import PyProof.EqAt
import PyProof.EqKinds
import PyProof.TupleCall
import PySem.Challenge.RW_wirestream_k19_windows_told
set_option compiler.extract_closed false
set_option bootstrap.genMatcherCode false
set_option Elab.async false
set_option linter.all false
set_option maxRecDepth 100000
namespace L2
open PySem PySem.Spec PyProof.Rows
abbrev Key:=Sum Int Str
def Zis:Key→Value→Bool
  | .inl k,v=>Value.isInt k v
  | .inr x,v=>Value.isStrOf x v
def ZyM (w:World):Key→Int
  | .inl k=>hashInt k
  | .inr x=>hashStr w x
theorem Zar:∀{k:Key} {v:Value},Zis k v=true→(∃i t,k=Sum.inl i∧v=Value.int i t)∨(∃x t,k=Sum.inr x∧v=Value.str x t)
  | .inl i,v,h=>by
    obtain ⟨t,e⟩:=Value.isInt_shape (k:=i) (v:=v) h
    exact .inl ⟨i,t,rfl,e⟩
  | .inr x,v,h=>by
    obtain ⟨t,e⟩:=Value.isStrOf_shape (x:=x) (v:=v) h
    exact .inr ⟨x,t,rfl,e⟩
theorem Znp (i:Int) (t:Tok):Zis (.inl i) (.int i t)=true:=by simp [Zis,Value.isInt]
theorem Zno (x:Str) (t:Tok):Zis (.inr x) (.str x t)=true:=by simp [Zis,Value.isStrOf]
theorem ZtO (a b:Int):decide ((Sum.inl a:Key)=Sum.inl b)=(a == b):=by
  by_cases e:a=b
  · subst e; simp
  · have h:¬(Sum.inl a:Key)=Sum.inl b:=fun q=>e (Sum.inl.inj q)
    rw [decide_eq_false h]
    exact (beq_eq_false_iff_ne.mpr e).symm
theorem ZtL (a b:Str):decide ((Sum.inr a:Key)=Sum.inr b)=decide (a=b):=by
  by_cases e:a=b
  · subst e; simp
  · have h:¬(Sum.inr a:Key)=Sum.inr b:=fun q=>e (Sum.inr.inj q)
    rw [decide_eq_false h,decide_eq_false e]
theorem ZtN (a:Int) (b:Str):decide ((Sum.inl a:Key)=Sum.inr b)=false:=decide_eq_false (fun q=>nomatch q)
theorem ZtM (a:Str) (b:Int):decide ((Sum.inr a:Key)=Sum.inl b)=false:=decide_eq_false (fun q=>nomatch q)
def ZaJ (prog:Program) (w:World):PySem.KeyKind prog w Key where
  is:=Zis
  hash:=ZyM w
  inj:=fun v a b ha hb=>by
    rcases Zar ha with ⟨i,t,rfl,rfl⟩ | ⟨x,t,rfl,rfl⟩
    · rcases Zar hb with ⟨j,u,rfl,e⟩ | ⟨y,u,rfl,e⟩
      · injection e with e1 _; rw [e1]
      · exact nomatch e
    · rcases Zar hb with ⟨j,u,rfl,e⟩ | ⟨y,u,rfl,e⟩
      · exact nomatch e
      · injection e with e1 _; rw [e1]
  byValue:=fun k v h=>by
    rcases Zar h with ⟨i,t,rfl,rfl⟩ | ⟨x,t,rfl,rfl⟩<;>rfl
  pyHash:=fun hv h=>by
    rcases Zar hv with ⟨i,t,rfl,rfl⟩ | ⟨x,t,rfl,rfl⟩
    · exact wpAny_pyHash_int h
    · exact wpAny_pyHash_str h
  eqBool:=fun hu hv h=>by
    rcases Zar hu with ⟨i,t,rfl,rfl⟩ | ⟨x,t,rfl,rfl⟩
    · rcases Zar hv with ⟨j,u,rfl,rfl⟩ | ⟨y,u,rfl,rfl⟩
      · rw [ZtO] at h; exact wpAny_eqBool_int h
      · rw [ZtN] at h; exact SeqAt.EqAt.int_str i t y u _ _ _ _ h
    · rcases Zar hv with ⟨j,u,rfl,rfl⟩ | ⟨y,u,rfl,rfl⟩
      · rw [ZtM] at h; exact SeqAt.EqAt.str_int x t j u _ _ _ _ h
      · rw [ZtL] at h; exact wpAny_eqBool_str h
  «strs»:=fun k x t v h=>by
    rcases Zar h with ⟨i,u,rfl,e⟩ | ⟨y,u,rfl,e⟩
    · exact nomatch e
    · injection e with e1 _
      subst e1
      cases v<;>rfl
theorem ZkX (prog:Program) (w:World) (i:Int) (t:Tok):(ZaJ prog w).is (.inl i) (.int i t)=true:=Znp i t
theorem ZkW (prog:Program) (w:World) (x:Str) (t:Tok):(ZaJ prog w).is (.inr x) (.str x t)=true:=Zno x t
end L2
namespace L2
open PySem PySem.Spec PyProof.Rows
inductive V where
  | non | bl (b:Bool) | int (i:Int) | str (x:Str) | byt (b:Array UInt8) | flt (b:UInt64) | ref (a:Addr) | ty (n:String)
  deriving DecidableEq
def RelV:V→Value→Prop
  | .non,u=>u=Value.none
  | .bl b,u=>u=Value.bool b
  | .int i,u=>∃t,u=Value.int i t
  | .str x,u=>∃t,u=Value.str x t
  | .byt b,u=>∃t,u=Value.bytes b t
  | .flt b,u=>∃t,u=Value.float b t
  | .ref a,u=>u=Value.ref a
  | .ty n,u=>u=Value.type n
abbrev Vals:List V→List Value→Prop:=Paired RelV
theorem Vals.length {xs:List V} {us:List Value} (r:Vals xs us):xs.length=us.length:=Paired.length r
theorem Vals.get:∀{xs:List V} {us:List Value} {i:Nat} {x:V},Vals xs us→xs[i]?=some x→∃u,us[i]?=some u∧RelV x u
  | _,_,_,_,.nil,e=>by simp at e
  | _,_,0,_,.cons r _,e=>by simp at e; subst e; exact ⟨_,rfl,r⟩
  | _,_,i+1,x,.cons _ t,e=>by
    obtain ⟨u,h1,h2⟩:=Vals.get (i:=i) (x:=x) t (by simpa using e)
    exact ⟨u,by simpa using h1,h2⟩
theorem Vals.set {x:V} {u:Value} (r:RelV x u):∀{xs:List V} {us:List Value} (i:Nat),Vals xs us→Vals (xs.set i x) (us.set i u)
  | _,_,_,.nil=>.nil
  | _,_,0,.cons _ t=>.cons r t
  | _,_,i+1,.cons q t=>.cons q (Vals.set r i t)
theorem Vals.append:∀{xs ys:List V} {us ws:List Value},Vals xs us→Vals ys ws→Vals (xs++ys) (us++ws)
  | _,_,_,_,.nil,s=>s
  | _,_,_,_,.cons r t,s=>.cons r (Vals.append t s)
theorem Vals.take:∀{xs:List V} {us:List Value} (n:Nat),Vals xs us→Vals (xs.take n) (us.take n)
  | _,_,0,_=>.nil
  | _,_,_+1,.nil=>.nil
  | _,_,n+1,.cons r t=>.cons r (Vals.take n t)
theorem Vals.drop:∀{xs:List V} {us:List Value} (n:Nat),Vals xs us→Vals (xs.drop n) (us.drop n)
  | _,_,0,r=>r
  | _,_,_+1,.nil=>.nil
  | _,_,n+1,.cons _ t=>Vals.drop n t
theorem Vals.none_of:∀{xs:List V} {us:List Value} {i:Nat},Vals xs us→xs[i]?=none→us[i]?=none:=fun {xs us i} r e=>by
  have h1:=r.length
  have h2:xs.length≤i:=List.getElem?_eq_none_iff.mp e
  exact List.getElem?_eq_none_iff.mpr (by omega)
def RelO:Option V→Option Value→Prop
  | some v,some u=>RelV v u
  | none,none=>True
  | _,_=>False
def KV {κ:Type}:List (κ×V)→List (κ×Value)→Prop:=Paired fun (p:κ×V) (q:κ×Value)=>p.1=q.1∧RelV p.2 q.2
def kV:Key→V
  | .inl i=>.int i
  | .inr x=>.str x
inductive HO where
  | lst (xs:List V)
  | tup (xs:List V)
  | dK (kvs:List (Key×V)) | dT (kvs:List (List Key×V))
  | set (S:Int→Bool) (n:Nat)
  | ins (C dx:Addr) (fs:List (Str×V))
  | own (x:Addr)
  | xd (fs:List (Str×V))
  | met (f x:Addr)
  | rng (lo hi:Int)
  | frz (o:Obj) (u:HO)
  | tbl (ps:Array Value)
  | ext (φ:Heap→Prop)
abbrev Hp:=Addr→Option HO
def upd (H:Hp) (a:Addr) (o:HO):Hp:=fun b=>if b=a then some o else H b
theorem zF {H:Hp} {a:Addr} {o:HO}:upd H a o a=some o:=by unfold upd; rw [if_pos rfl]
theorem ZQ {H:Hp} {a b:Addr} {o:HO} (h:b≠a):upd H a o b=H b:=by unfold upd; rw [if_neg h]
theorem zl {H:Hp} {a b:Addr} {o:HO} (h:H a=some o) (h':H b=none):a≠b:=by
  intro e; subst e; rw [h] at h'; cases h'
section
variable (P:Program) (w:World)
def ObjOk (H:Hp) (h:Heap) (a:Addr):HO→Prop
  | .lst xs=>xs.length≤sizeLine∧∃(its:List Value) (n:Nat),Vals xs its∧h.get? a=some { cls:=.type "list",data:=.seq its.toArray n }
  | .tup xs=>xs.length≤sizeLine∧∃its:List Value,Vals xs its∧IsTup h a its.toArray
  | .dK kvs=>kvs.length≤sizeLine∧(a == sysModules)=false∧∃vs,KV kvs vs∧h.DictOf (ZaJ P w) a vs
  | .dT kvs=>kvs.length≤sizeLine∧(a == sysModules)=false∧∃xs:List (List Key×Addr×Value),
      Paired (fun (p:List Key×V) (q:List Key×Addr×Value)=>p.1=q.1∧H q.2.1=some (.tup (p.1.map kV))∧RelV p.2 q.2.2) kvs xs∧
      ∃o es ep,h.get? a=some o∧o.ExactDict∧o.data=.dict es ep∧es.toList=xs.map (entryOfKey (tupleKind (ZaJ P w)))∧(xs.map (·.1)).Nodup
  | .set S n=>h.SetOf (intKind P w) a S n
  | .ins C dx fs=>H dx=some (.own a)∧fs.length≤1000∧dx≠a∧h.get? a=some (PySem.W.instObj C dx)∧
      ∃mA,h.Ns1 dx mA∧(∀f,RelO (fs.lookup f) (mA f))∧PySem.Within mA (fs.map (·.1))
  | .own _=>∃o,h.get? a=some o
  | .xd fs=>∃mA,h.Ns1 a mA∧∀f,RelO (fs.lookup f) (mA f)
  | .rng lo hi=>∃t u v,h.get? a=some { cls:=.type "range",data:=.fields #[.int lo t,.int hi u,.int 1 v] }
  | .frz o u=>h.get? a=some o∧ObjOk H h a u
  | .tbl ps=>h.get? a=some { cls:=.none,data:=.fields ps }
  | .met f x=>h.get? a=some (PySem.W.methodObj (.ref f) (.ref x))
  | .ext φ=>φ h∧(∃o,h.get? a=some o)∧∀h1 h2:Heap,φ h1→(∀o,h1.get? a=some o→h2.get? a=some o)→φ h2
def HOk (H:Hp) (h:Heap):Prop:=∀a o,H a=some o→ObjOk P w H h a o
end
section
variable {P:Program} {w:World} {H H':Hp} {h h':Heap} {a:Addr} {o:HO}
theorem ObjOk.lt (x:ObjOk P w H h a o):a<h.objs.size:=by
  cases o with
  | lst xs=>obtain ⟨_,_,_,_,e⟩:=x; exact Heap.lt_size e
  | tup xs=>obtain ⟨_,_,_,p⟩:=x; exact p.lt
  | dK kvs=>obtain ⟨_,_,_,_,o,_,_,e,_⟩:=x; exact Heap.lt_size e
  | dT kvs=>obtain ⟨_,_,_,_,o,_,_,e,_⟩:=x; exact Heap.lt_size e
  | set S n=>obtain ⟨o,_,_,_,e,_⟩:=x; exact Heap.lt_size e
  | ins C dx fs=>obtain ⟨_,_,_,e,_⟩:=x; exact Heap.lt_size e
  | own y=>obtain ⟨_,e⟩:=x; exact Heap.lt_size e
  | xd fs=>obtain ⟨_,⟨_,_,_,e,_⟩,_⟩:=x; exact Heap.lt_size e
  | rng lo hi=>obtain ⟨_,_,_,e⟩:=x; exact Heap.lt_size e
  | frz ob u=>obtain ⟨e,_⟩:=x; exact Heap.lt_size e
  | tbl ps=>exact Heap.lt_size (show h.get? a=some _ from x)
  | met f y=>exact Heap.lt_size (show h.get? a=some _ from x)
  | ext φ=>obtain ⟨_,⟨_,e⟩,_⟩:=x; exact Heap.lt_size e
theorem Paired.mapP {α β:Type} {F G:α→β→Prop}:∀{l₁:List α} {l₂:List β},Paired F l₁ l₂→(∀a b,F a b→G a b)→Paired G l₁ l₂
  | _,_,.nil,_=>.nil
  | _,_,.cons r t,f=>.cons (f _ _ r) (Paired.mapP t f)
theorem ObjOk.stay (x:ObjOk P w H h a o) (k:∀b u,(b=a∨H b=some (.own a))→h.get? b=some u→h'.get? b=some u)
    (ho:∀b,H b=some (.own a)→H' b=some (.own a)) (ht:∀b xs,H b=some (.tup xs)→H' b=some (.tup xs)):ObjOk P w H' h' a o:=by
  induction o with
  | lst xs=>obtain ⟨z,its,n,r,e⟩:=x; exact ⟨z,its,n,r,k _ _ (.inl rfl) e⟩
  | tup xs=>obtain ⟨z,its,r,ob,e,c⟩:=x; exact ⟨z,its,r,ob,k _ _ (.inl rfl) e,c⟩
  | dK kvs=>obtain ⟨z,y,vs,r,ob,es,ep,e,c⟩:=x; exact ⟨z,y,vs,r,ob,es,ep,k _ _ (.inl rfl) e,c⟩
  | dT kvs=>
    obtain ⟨z,y,xs,r,ob,es,ep,e,c⟩:=x
    exact ⟨z,y,xs,Paired.mapP r fun p q z=>⟨z.1,ht _ _ z.2.1,z.2.2⟩,ob,es,ep,k _ _ (.inl rfl) e,c⟩
  | set S n=>obtain ⟨ob,es,ep,t,e,c⟩:=x; exact ⟨ob,es,ep,t,k _ _ (.inl rfl) e,c⟩
  | ins C dx fs=>
    obtain ⟨d,z,ne,e,mA,⟨od,es,ep,e2,c⟩,r⟩:=x
    exact ⟨ho _ d,z,ne,k _ _ (.inl rfl) e,mA,⟨od,es,ep,k _ _ (.inr d) e2,c⟩,r⟩
  | own y=>obtain ⟨ob,e⟩:=x; exact ⟨ob,k _ _ (.inl rfl) e⟩
  | xd fs=>obtain ⟨mA,⟨od,es,ep,e,c⟩,r⟩:=x; exact ⟨mA,⟨od,es,ep,k _ _ (.inl rfl) e,c⟩,r⟩
  | rng lo hi=>obtain ⟨t,u,v,e⟩:=x; exact ⟨t,u,v,k _ _ (.inl rfl) e⟩
  | frz ob u ih=>obtain ⟨e,q⟩:=x; exact ⟨k _ _ (.inl rfl) e,ih q⟩
  | tbl ps=>
    have e:h.get? a=some { cls:=.none,data:=.fields ps }:=x
    show h'.get? a=some { cls:=.none,data:=.fields ps }
    exact k a _ (.inl rfl) e
  | met f y=>
    have e:h.get? a=some (PySem.W.methodObj (.ref f) (.ref y)):=x
    show h'.get? a=some (PySem.W.methodObj (.ref f) (.ref y))
    exact k a _ (.inl rfl) e
  | ext φ=>obtain ⟨p,⟨o,e⟩,st⟩:=x; exact ⟨st _ _ p fun o q=>k _ _ (.inl rfl) q,⟨o,k _ _ (.inl rfl) e⟩,st⟩
theorem HOk.lt (x:HOk P w H h) (e:H a=some o):a<h.objs.size:=(x a o e).lt
theorem HOk.fresh (x:HOk P w H h) (e:h.objs.size≤a):H a=none:=by
  cases q:H a with
  | none=>rfl
  | some u=>exact absurd (Nat.lt_of_lt_of_le (x.lt q) e) (Nat.lt_irrefl _)
theorem HOk.kept (x:HOk P w H h) (k:∀b u,h.get? b=some u→h'.get? b=some u):HOk P w H h':=fun a o e=>
  (x a o e).stay (fun b u _ q=>k b u q) (fun _ q=>q) fun _ _ q=>q
theorem HOk.laid (x:HOk P w H h) (k:∀b u,h.get? b=some u→h'.get? b=some u) (hp:h.objs.size≤a) (new:ObjOk P w (upd H a o) h' a o):HOk P w (upd H a o) h':=fun b u e=>by
  have hn:=x.fresh hp
  by_cases hb:b=a
  · subst hb; rw [zF] at e; cases e; exact new
  · rw [ZQ hb] at e
    exact (x b u e).stay (fun c v _ q=>k c v q) (fun c q=>by rw [ZQ (zl q hn)]; exact q) fun c xs q=>by rw [ZQ (zl q hn)]; exact q
end
def Rd (H:Hp) (a:Addr) (u:HO):Prop:=H a=some u∨∃o,H a=some (.frz o u)
theorem Rd.of {H:Hp} {a:Addr} {u:HO} (h:H a=some u):Rd H a u:=.inl h
theorem Rd.ok {P:Program} {w:World} {H:Hp} {h:Heap} {a:Addr} {u:HO} (r:Rd H a u) (x:HOk P w H h):ObjOk P w H h a u:=by
  rcases r with r | ⟨o,r⟩
  · exact x a u r
  · obtain ⟨_,q⟩:=x a _ r
    exact q
def Mut:Option HO→Prop
  | some (.lst _)=>True
  | some (.dK _)=>True
  | some (.dT _)=>True
  | some (.set _ _)=>True
  | some (.ins _ _ _)=>True
  | some (.ext _)=>True
  | _=>False
section
variable {P:Program} {w:World} {H:Hp} {h h':Heap} {x e:Addr} {o':HO}
theorem HOk.write (ok:HOk P w H h) (mu:Mut (H x)) (he:e=x∨H e=some (.own x)) (k:∀b u,b≠e→h.get? b=some u→h'.get? b=some u) (heo:∃u,h'.get? e=some u)
    (new:ObjOk P w (upd H x o') h' x o'):HOk P w (upd H x o') h':=fun b u q=>by
  have nown:∀c y,H c=some (.own y)→c≠x:=fun c y r z=>by subst z; rw [r] at mu; exact mu
  have ntup:∀c xs,H c=some (.tup xs)→c≠x:=fun c xs r z=>by subst z; rw [r] at mu; exact mu
  by_cases hb:b=x
  · subst hb; rw [zF] at q; cases q; exact new
  · rw [ZQ hb] at q
    by_cases hbe:b=e
    · have q':H b=some (.own x):=by
        rcases he with z | z
        · exact absurd (hbe.trans z) hb
        · rw [hbe]; exact z
      rw [q] at q'; cases q'
      obtain ⟨v,hv⟩:=heo
      exact ⟨v,by rw [hbe]; exact hv⟩
    · refine (ok b u q).stay (fun c v hc r=>k c v ?_ r) (fun c r=>by rw [ZQ (nown c b r)]; exact r) fun c xs r=>by rw [ZQ (ntup c xs r)]; exact r
      rcases hc with rfl | hc
      · exact hbe
      · rintro rfl
        rcases he with z | z
        · exact nown c b hc z
        · rw [hc] at z; cases z; exact hb rfl
end
structure Un (fs ex:List Addr) (H H':Hp) (h h':Heap):Prop where
  keep:∀b o,h.get? b=some o→H b=none→b∉fs→b∉ex→h'.get? b=some o
  slot:∀b o,h.get? b=some o→H b=none→b∈fs→b∉ex→∃sl,h'.get? b=some { o with slots:=sl }
  free:∀b o,h.get? b=some o→H b=none→b∉ex→H' b=none
  there:∀b o,h.get? b=some o→b∉ex→∃o',h'.get? b=some o'
  tups:∀b xs,H b=some (.tup xs)→H' b=some (.tup xs)
  frzs:∀b o u,H b=some (.frz o u)→H' b=some (.frz o u)
  tbls:∀b ps,H b=some (.tbl ps)→∃more,H' b=some (.tbl (ps++more))
section
variable {fs fs' ex ex':List Addr} {H H1 H2:Hp} {h h1 h2 h':Heap} {a x e:Addr} {o:HO}
theorem Un.any (u:Un fs ex H H1 h h1) {b:Addr} {ob:Obj} (q:h.get? b=some ob) (n:H b=none) (hx:b∉ex):∃sl,h1.get? b=some { ob with slots:=sl }:=by
  by_cases hb:b∈fs
  · exact u.slot b ob q n hb hx
  · exact ⟨ob.slots,u.keep b ob q n hb hx⟩
theorem Un.trans (a:Un fs ex H H1 h h1) (b:Un fs ex H1 H2 h1 h2):Un fs ex H H2 h h2 where
  keep:=fun c ob q n hc hx=>b.keep c ob (a.keep c ob q n hc hx) (a.free c ob q n hx) hc hx
  slot:=fun c ob q n hc hx=>by
    obtain ⟨sl,e1⟩:=a.slot c ob q n hc hx
    obtain ⟨sl',e2⟩:=b.slot c _ e1 (a.free c ob q n hx) hc hx
    exact ⟨sl',e2⟩
  free:=fun c ob q n hx=>by
    obtain ⟨o',e1⟩:=a.there c ob q hx
    exact b.free c o' e1 (a.free c ob q n hx) hx
  there:=fun c ob q hx=>by
    obtain ⟨o',e1⟩:=a.there c ob q hx
    exact b.there c o' e1 hx
  tups:=fun c xs q=>b.tups c xs (a.tups c xs q)
  frzs:=fun c ob xs q=>b.frzs c ob xs (a.frzs c ob xs q)
  tbls:=fun c ps q=>by
    obtain ⟨m1,e1⟩:=a.tbls c ps q
    obtain ⟨m2,e2⟩:=b.tbls c _ e1
    exact ⟨m1++m2,by rw [e2,Array.append_assoc]⟩
theorem Un.kept (k:∀b u,h.get? b=some u→h'.get? b=some u):Un fs ex H H h h':=
  ⟨fun b ob q _ _ _=>k b ob q,fun b ob q _ _ _=>⟨ob.slots,k b ob q⟩,fun _ _ _ n _=>n,fun b ob q _=>⟨ob,k b ob q⟩,fun _ _ q=>q,fun _ _ _ q=>q,fun _ ps q=>⟨#[],by rw [q]; simp⟩⟩
theorem Un.refl:Un fs ex H H h h:=Un.kept fun _ _ q=>q
theorem Un.laid (k:∀b u,h.get? b=some u→h'.get? b=some u) (hp:h.objs.size≤a) (hn:H a=none):Un fs ex H (upd H a o) h h' where
  keep:=fun b u q _ _ _=>k b u q
  slot:=fun b u q _ _ _=>⟨u.slots,k b u q⟩
  free:=fun b u q n _=>by rw [ZQ (Nat.ne_of_lt (Nat.lt_of_lt_of_le (Heap.lt_size q) hp))]; exact n
  there:=fun b u q _=>⟨u,k b u q⟩
  tups:=fun b xs q=>by rw [ZQ (zl q hn)]; exact q
  frzs:=fun b u xs q=>by rw [ZQ (zl q hn)]; exact q
  tbls:=fun b ps q=>⟨#[],by rw [ZQ (zl q hn),q]; simp⟩
theorem Un.write (mu:Mut (H x)) (he:e=x∨H e=some (.own x)) (k:∀b u,b≠e→h.get? b=some u→h'.get? b=some u) (heo:∃u,h'.get? e=some u):Un fs ex H (upd H x o) h h':=by
  have hx:∀b,H b=none→b≠x:=fun b n z=>by subst z; rw [n] at mu; exact mu
  have hb:∀b,H b=none→b≠e:=fun b n z=>by
    subst z
    rcases he with r | r
    · exact hx b n r
    · rw [n] at r; cases r
  have hm:∀b u,H b=some u→¬Mut (some u)→b≠x:=fun b u q nm z=>by subst z; rw [q] at mu; exact nm mu
  refine ⟨fun b u q n _ _=>k b u (hb b n) q,fun b u q n _ _=>⟨u.slots,k b u (hb b n) q⟩,fun b u q n _=>by rw [ZQ (hx b n)]; exact n,fun b u q _=>?_,
    fun b xs q=>by rw [ZQ (hm b _ q fun z=>z)]; exact q,fun b u xs q=>by rw [ZQ (hm b _ q fun z=>z)]; exact q,fun b ps q=>⟨#[],by rw [ZQ (hm b _ q fun z=>z),q]; simp⟩⟩
  by_cases hbe:b=e
  · subst hbe; exact heo
  · exact ⟨u,k b u hbe q⟩
theorem Un.mono (u:Un fs ex H H1 h h1) (hs:∀b∈fs,b∈fs') (hx:∀b∈ex,b∈ex'):Un fs' ex' H H1 h h1:=
  ⟨fun b ob q n hb he=>u.keep b ob q n (fun z=>hb (hs b z)) fun z=>he (hx b z),fun _ _ q n _ he=>u.any q n fun z=>he (hx _ z),fun b ob q n he=>u.free b ob q n fun z=>he (hx b z),fun b ob q he=>u.there b ob q fun z=>he (hx b z),u.tups,u.frzs,u.tbls⟩
end
def trk (h:Heap) (H:Hp):List Addr:=(List.range h.objs.size).filter fun a=>(H a).isSome
def Zi2 (h:Heap) (H:Hp):Heap:=PySem.W.hideAll h (trk h H)
theorem Znt (h:Heap) (H:Hp):(Zi2 h H).objs.size=h.objs.size:=PySem.W.hideAll_size _ _
theorem Zqb {h:Heap} {H:Hp} {b:Addr} {o:Obj} (e:h.get? b=some o) (n:H b=none):(Zi2 h H).get? b=some o:=
  PySem.W.hideAll_get _ e fun hm=>by
    have q:(H b).isSome=true:=(List.mem_filter.mp hm).2
    rw [n] at q; simp at q
theorem Zry {h:Heap} {H:Hp} {b:Addr} {o:Obj} (e:(Zi2 h H).get? b=some o):h.get? b=some o∧H b=none:=by
  have e':h.get? b=some o:=PySem.W.of_hideAll (trk h H) e
  refine ⟨e',?_⟩
  cases q:H b with
  | none=>rfl
  | some x=>
    have hm:b∈trk h H:=List.mem_filter.mpr ⟨List.mem_range.mpr (Heap.lt_size e'),by simp [q]⟩
    have z:(Zi2 h H).get? b=none:=PySem.W.hideAll_none (trk h H) hm
    rw [z] at e; cases e
def Zr5 (g h:Heap) (L:Addr):List (Addr×Obj):=(List.range h.objs.size).filterMap fun a=>if a=L∨(g.get? a).isSome=true then none else (h.get? a).map fun o=>(a,o)
def rest (g h:Heap) (L d:Addr):List (Addr×Obj):=(Zr5 g h L).filter fun p=>decide (p.1≠d)
end L2
namespace L2
open PySem PySem.Spec PyProof.Rows
structure Mod (K:PySem.W.Frag) (mg:Str→Option Value) (base:Heap):Prop where
  kin:K.In base
  glob:base.Ns mainGlobals mg
  blt:∃mb,base.Ns builtinsNs mb∧∀x:Str,x≠"__name__"→mb x=bootBuiltins x
  nolimit:base.NoLimit
structure Cx where
  prog:Program
  w:World
  K:PySem.W.Frag
  mg:Str→Option Value
  base:Heap
  A:Around
  N:List Str
  s₀:Shared
  H₀:Hp
  env:Env
  outer:List Env
  stack:List Env
  ex:List Addr
  fn:Str→Bool
  calm:Bool
  pn:List (Addr×Obj)
  xe:Value→Shared→Prop
def frs (l:List Env):List Addr:=l.filterMap (·.frame)
abbrev Cx.fs (X:Cx):List Addr:=frs X.outer
def Vis (sc:Scope) (x:Str):Prop:=sc.names.lookup x=some .local∨sc.names.lookup x=some .cell∨sc.names.lookup x=some .free
def Loc (sc:Scope) (x:Str):Prop:=sc.names.lookup x=some .local∨sc.names.lookup x=some .cell
def Zzb (env:Env) (h:Heap) (m:Str→Option Value) (x:Str) (u:Value):Prop:=
  (env.kindOf x=some .local∧m x=some u)∨((env.kindOf x=some .cell∨env.kindOf x=some .free)∧∃c,env.cells.lookup x=some c∧h.IsCell c (some u))
structure Cx.Ok (X:Cx):Prop where
  mod:Mod X.K X.mg X.base
  kind:X.env.scope.kind=.function
  glob:X.env.globals=mainGlobals
  blt:X.env.builtins=builtinsNs
  above:X.s₀.heap.objs.size≤X.env.locals
  inj:∀x y c,X.env.cells.lookup x=some c→X.env.cells.lookup y=some c→x=y
  has:∀x,(X.env.kindOf x=some .cell∨X.env.kindOf x=some .free)→∃c,X.env.cells.lookup x=some c
  cab:∀x c,X.fn x=true→X.env.cells.lookup x=some c→X.s₀.heap.objs.size≤c
  hd:X.calm=true→X.A.handled=none
  frames:X.A.frames=some X.stack
  stk:X.stack=X.outer∨(X.stack=X.env::X.outer∧X.env.frame=some X.env.locals)
  exf:∀b∈X.ex,b≠X.env.locals∧∀x c,X.env.cells.lookup x=some c→c≠b
  bs:∀b o,X.base.get? b=some o→X.s₀.heap.get? b=some o∧X.H₀ b=none
  bsz:X.base.objs.size≤X.s₀.heap.objs.size
  noex:∀b o,X.base.get? b=some o→b∉X.ex
  exfs:∀b∈X.ex,b∉X.fs
  funs:X.s₀.heap.FunFrames X.base X.outer
  frf:∀b∈X.fs,X.H₀ b=none
structure Inv (X:Cx) (pins:List (Addr×Obj)) (σ:List (Option V)) (H:Hp) (s:Shared):Prop where
  ok:X.Ok
  os:s.os=X.s₀.os
  bare:AllBare s.gens
  base:Un X.fs X.ex X.H₀ H X.s₀.heap s.heap
  loc:∃m,s.heap.Ns X.env.locals m∧∀(i:Nat) (x:Str) (v:V),X.N[i]?=some x→σ[i]?=some (some v)→Vis X.env.scope x→∃u,RelV v u∧Zzb X.env s.heap m x u
  cell:∀x c,X.env.cells.lookup x=some c→∃v,s.heap.IsCell c v
  free:H X.env.locals=none
  freeC:∀x c,X.env.cells.lookup x=some c→H c=none
  pin:∀p∈X.pn++pins,s.heap.get? p.1=some p.2∧H p.1=none∧p.1≠X.env.locals∧p.1∉X.fs∧∀v,p.2.data≠.cell v
  hok:HOk X.prog X.w H s.heap
  len:σ.length=X.N.length
section
variable {X:Cx} {pins:List (Addr×Obj)} {σ:List (Option V)} {H H':Hp} {s:Shared} {h':Heap}
theorem Cx.Ok.nofr (ok:X.Ok) {b:Addr} {o:Obj} (e:X.base.get? b=some o):b∉X.fs:=fun hb=>by
  have:=(ok.funs.mem hb).1
  rw [e] at this; cases this
theorem Inv.bs (I:Inv X pins σ H s):∀b o,X.base.get? b=some o→s.heap.get? b=some o∧H b=none:=fun b o e=>
  ⟨I.base.keep b o (I.ok.bs b o e).1 (I.ok.bs b o e).2 (I.ok.nofr e) (I.ok.noex b o e),I.base.free b o (I.ok.bs b o e).1 (I.ok.bs b o e).2 (I.ok.noex b o e)⟩
theorem Inv.bk (I:Inv X pins σ H s):∀b o,X.base.get? b=some o→s.heap.get? b=some o:=fun b o e=>(I.bs b o e).1
theorem Inv.mod (I:Inv X pins σ H s):Mod X.K X.mg X.base:=I.ok.mod
theorem Inv.kIn (I:Inv X pins σ H s):X.K.In s.heap:=I.ok.mod.kin.keeps I.bk
theorem Inv.nolimit (I:Inv X pins σ H s):s.heap.NoLimit:=I.ok.mod.nolimit.keeps I.bk
theorem Inv.fr (I:Inv X pins σ H s):∃m,Fr X.base X.env.locals s.heap m:=
  let ⟨m,hn,_⟩:=I.loc
  ⟨m,hn,I.bk,Nat.le_trans I.ok.bsz I.ok.above⟩
theorem Inv.lt (I:Inv X pins σ H s):X.env.locals<s.heap.objs.size:=let ⟨_,hn,_⟩:=I.loc; hn.lt
theorem Inv.sz (I:Inv X pins σ H s):X.s₀.heap.objs.size≤s.heap.objs.size:=Nat.le_trans I.ok.above (Nat.le_of_lt I.lt)
theorem Inv.nofs (I:Inv X pins σ H s) {a:Addr} (h:s.heap.objs.size≤a):a∉X.fs:=fun hb=>by
  obtain ⟨_,o,ho,_⟩:=I.ok.funs.mem hb
  exact absurd (Nat.lt_of_lt_of_le (Heap.lt_size ho) (Nat.le_trans I.sz h)) (Nat.lt_irrefl _)
theorem Inv.cne (I:Inv X pins σ H s):∀x c,X.env.cells.lookup x=some c→c≠X.env.locals:=fun x c e z=>by
  obtain ⟨v,o,ho,hd⟩:=I.cell x c e
  obtain ⟨m,⟨o',es,ep,ho',hd',_⟩,_⟩:=I.loc
  rw [z,ho'] at ho; cases ho; rw [hd'] at hd; cases hd
theorem Inv.funs (I:Inv X pins σ H s):s.heap.FunFrames X.base X.outer:=by
  have all:∀(l:List Env),(∀b∈frs l,b∈X.fs)→X.s₀.heap.FunFrames X.base l→s.heap.FunFrames X.base l:=by
    intro l
    induction l with
    | nil=>intro _ _; trivial
    | cons env r ih=>
      intro hs hl
      obtain ⟨hk,⟨L,o,hf,hn,ho,hd⟩,hr⟩:=hl
      have hL:L∈X.fs:=hs L (by unfold frs; rw [List.filterMap_cons,hf]; exact List.mem_cons_self)
      obtain ⟨sl,e⟩:=I.base.slot L o ho (I.ok.frf L hL) hL fun z=>I.ok.exfs L z hL
      exact ⟨hk,⟨L,_,hf,hn,e,hd⟩,ih (fun b hb=>hs b (by unfold frs; rw [List.filterMap_cons,hf]; exact List.mem_cons_of_mem _ hb)) hr⟩
  exact all X.outer (fun _ hb=>hb) I.ok.funs
theorem Inv.stack (I:Inv X pins σ H s):s.heap.FunFrames X.base X.stack:=by
  rcases I.ok.stk with e | ⟨e,hf⟩
  · rw [e]; exact I.funs
  · rw [e]
    obtain ⟨m,hn,_⟩:=I.loc
    refine .cons (by rw [I.ok.kind]; decide) hf hn ?_ I.funs
    exact Heap.get?_none_of_le (Nat.le_trans I.ok.bsz I.ok.above)
theorem Inv.stkSub (I:Inv X pins σ H s):∀b∈frs X.stack,b∈X.env.locals::X.fs:=fun b hb=>by
  rcases I.ok.stk with e | ⟨e,hf⟩
  · rw [e] at hb; exact List.mem_cons_of_mem _ hb
  · rw [e] at hb
    unfold frs at hb
    rw [List.filterMap_cons,hf] at hb
    exact hb
theorem Inv.stkFree (I:Inv X pins σ H s):∀b∈frs X.stack,H b=none:=fun b hb=>by
  rcases List.mem_cons.mp (I.stkSub b hb) with e | hb
  · rw [e]; exact I.free
  · obtain ⟨_,o,ho,_⟩:=I.ok.funs.mem hb
    exact I.base.free b o ho (I.ok.frf b hb) fun z=>I.ok.exfs b z hb
theorem Inv.step {g':Array GenState} {t':Nat} {d':Drawn} {ch:List Addr} (I:Inv X pins σ H s)
    (hch:∀b∈ch,(b∈X.ex∨X.s₀.heap.objs.size≤b)∧b≠X.env.locals∧(∀x c,X.env.cells.lookup x=some c→c≠b)∧∀p∈X.pn++pins,p.1≠b)
    (keep:∀b o,b≠X.env.locals→b∉X.fs→b∉ch→s.heap.get? b=some o→H b=none→h'.get? b=some o)
    (slot:∀b o,b≠X.env.locals→b∈X.fs→b∉ch→s.heap.get? b=some o→H b=none→∃sl,h'.get? b=some { o with slots:=sl }) (free:∀b o,b∉ch→s.heap.get? b=some o→H b=none→H' b=none)
    (there:∀b o,b∉ch→s.heap.get? b=some o→∃o',h'.get? b=some o')
    (tups:∀b xs,H b=some (.tup xs)→H' b=some (.tup xs)) (frzs:∀b o u,H b=some (.frz o u)→H' b=some (.frz o u)) (tbls:∀b ps,H b=some (.tbl ps)→∃more,H' b=some (.tbl (ps++more)))
    (ns:∀m,s.heap.Ns X.env.locals m→h'.Ns X.env.locals m) (hok:HOk X.prog X.w H' h') (hg:AllBare g') :
    Inv X pins σ H' { s with heap:=h',gens:=g',drawn:=d',toks:=t' }:=by
  have neL:∀b o,X.s₀.heap.get? b=some o→b≠X.env.locals:=fun b o e=>Nat.ne_of_lt (Nat.lt_of_lt_of_le (Heap.lt_size e) I.ok.above)
  have neC:∀b o,X.s₀.heap.get? b=some o→b∉X.ex→b∉ch:=fun b o e hx hb=>by
    rcases (hch b hb).1 with z | z
    · exact hx z
    · exact absurd (Nat.lt_of_lt_of_le (Heap.lt_size e) z) (Nat.lt_irrefl _)
  have cellK:∀x c,X.env.cells.lookup x=some c→∀v,s.heap.IsCell c v→h'.IsCell c v:=fun x c e v ⟨o,ho,hd⟩=>by
    have nch:c∉ch:=fun z=>(hch c z).2.2.1 x c e rfl
    by_cases hc:c∈X.fs
    · obtain ⟨sl,q⟩:=slot c o (I.cne x c e) hc nch ho (I.freeC x c e)
      exact ⟨_,q,hd⟩
    · exact ⟨o,keep c o (I.cne x c e) hc nch ho (I.freeC x c e),hd⟩
  refine ⟨I.ok,I.os,hg,⟨fun b o e n hb hx=>?_,fun b o e n hb hx=>?_,fun b o e n hx=>?_,fun b o e hx=>?_,fun b xs e=>tups b xs (I.base.tups b xs e),fun b o xs e=>frzs b o xs (I.base.frzs b o xs e),fun b ps e=>?_⟩,?_,fun x c e=>?_,?_,fun x c e=>?_,fun p hp=>?_,hok,I.len⟩
  · exact keep b o (neL b o e) hb (neC b o e hx) (I.base.keep b o e n hb hx) (I.base.free b o e n hx)
  · obtain ⟨sl,e1⟩:=I.base.slot b o e n hb hx
    obtain ⟨sl',e2⟩:=slot b _ (neL b o e) hb (neC b o e hx) e1 (I.base.free b o e n hx)
    exact ⟨sl',e2⟩
  · obtain ⟨o',e1⟩:=I.base.there b o e hx
    exact free b o' (neC b o e hx) e1 (I.base.free b o e n hx)
  · obtain ⟨o',e1⟩:=I.base.there b o e hx
    exact there b o' (neC b o e hx) e1
  · obtain ⟨m1,e1⟩:=I.base.tbls b ps e
    obtain ⟨m2,e2⟩:=tbls b _ e1
    exact ⟨m1++m2,by rw [e2,Array.append_assoc]⟩
  · obtain ⟨m,hn,hl⟩:=I.loc
    refine ⟨m,ns m hn,fun i x v e1 e2 e3=>?_⟩
    obtain ⟨u,r,l⟩:=hl i x v e1 e2 e3
    refine ⟨u,r,?_⟩
    rcases l with l | ⟨k,c,e,z⟩
    · exact .inl l
    · exact .inr ⟨k,c,e,cellK x c e _ z⟩
  · obtain ⟨v,z⟩:=I.cell x c e
    exact ⟨v,cellK x c e v z⟩
  · obtain ⟨m,⟨o,_,_,ho,_⟩,_⟩:=I.loc
    exact free _ o (fun z=>(hch _ z).2.1 rfl) ho I.free
  · obtain ⟨v,o,ho,hd⟩:=I.cell x c e
    exact free c o (fun z=>(hch c z).2.2.1 x c e rfl) ho (I.freeC x c e)
  · obtain ⟨e,n,ne,nf,d⟩:=I.pin p hp
    have nch:p.1∉ch:=fun z=>(hch p.1 z).2.2.2 p hp rfl
    exact ⟨keep p.1 p.2 ne nf nch e n,free p.1 p.2 nch e n,ne,nf,d⟩
theorem Inv.un {t':Nat} (I:Inv X pins σ H s) (u:Un X.fs [] H H' s.heap h') (hok:HOk X.prog X.w H' h'):Inv X pins σ H' { s with heap:=h',toks:=t' }:=by
  obtain ⟨m,⟨o,es,ep,ho,r⟩,_⟩:=id I.loc
  obtain ⟨sl,hL⟩:=u.any ho I.free (by simp)
  exact I.step (g':=s.gens) (d':=s.drawn) (ch:=[]) (fun _ z=>nomatch z) (fun b o _ hb _ e n=>u.keep b o e n hb (by simp)) (fun b o _ hb _ e n=>u.slot b o e n hb (by simp)) (fun b o _ e n=>u.free b o e n (by simp)) (fun b o _ e=>u.there b o e (by simp)) u.tups u.frzs u.tbls (fun m' hm=>by
    obtain ⟨o',es',ep',ho',r'⟩:=hm
    rw [ho] at ho'; cases ho'
    exact ⟨_,es',ep',hL,r'⟩) hok I.bare
theorem Inv.call {g':Array GenState} {t':Nat} {d':Drawn} {ch:List Addr} (I:Inv X pins σ H s) (u:Un (frs X.stack) ch H H' s.heap h') (hok:HOk X.prog X.w H' h') (hg:AllBare g')
    (hch:∀b∈ch,(b∈X.ex∨X.s₀.heap.objs.size≤b)∧b≠X.env.locals∧(∀x c,X.env.cells.lookup x=some c→c≠b)∧∀p∈X.pn++pins,p.1≠b) :
    Inv X pins σ H' { s with heap:=h',gens:=g',drawn:=d',toks:=t' }:=by
  obtain ⟨m,⟨o,es,ep,ho,r⟩,_⟩:=id I.loc
  obtain ⟨sl,hL⟩:=u.any ho I.free fun z=>(hch _ z).2.1 rfl
  exact I.step (ch:=ch) hch (fun b o hL hb hc e n=>u.keep b o e n (fun z=>(List.mem_cons.mp (I.stkSub b z)).elim hL hb) hc) (fun b o _ _ hc e n=>u.any e n hc) (fun b o hc e n=>u.free b o e n hc) (fun b o hc e=>u.there b o e hc) u.tups u.frzs u.tbls (fun m' hm=>by
    obtain ⟨o',es',ep',ho',r'⟩:=hm
    rw [ho] at ho'; cases ho'
    exact ⟨_,es',ep',hL,r'⟩) hok hg
theorem Inv.turned {t':Nat} {it:Addr} (I:Inv X pins σ H s) (k:∀b o,b≠it→s.heap.get? b=some o→h'.get? b=some o) (hn:H it=none) (hL:it≠X.env.locals)
    (h1:it∈X.ex∨X.s₀.heap.objs.size≤it) (h2:∀x c,X.env.cells.lookup x=some c→c≠it) (h3:∀p∈X.pn++pins,p.1≠it):Inv X pins σ H { s with heap:=h',toks:=t' }:=by
  have nit:∀b u,H b=some u→b≠it:=fun b u e z=>by rw [z,hn] at e; cases e
  refine I.step (g':=s.gens) (d':=s.drawn) (ch:=[it]) (fun b hb=>?_) (fun b o _ _ hc e _=>k b o (fun z=>hc (by simp [z])) e) (fun b o _ _ hc e _=>⟨o.slots,k b o (fun z=>hc (by simp [z])) e⟩) (fun _ _ _ _ n=>n)
    (fun b o hc e=>⟨o,k b o (fun z=>hc (by simp [z])) e⟩) (fun _ _ e=>e) (fun _ _ _ e=>e) (fun b ps e=>⟨#[],by rw [e]; simp⟩) (fun m hm=>?_) (fun b u e=>?_) I.bare
  · have e:b=it:=by simpa using hb
    subst e
    exact ⟨h1,hL,h2,h3⟩
  · obtain ⟨o,es,ep,ho,r⟩:=hm
    exact ⟨o,es,ep,k _ o (Ne.symm hL) ho,r⟩
  · refine (I.hok b u e).stay (fun c v hc q=>k c v ?_ q) (fun _ q=>q) fun _ _ q=>q
    rcases hc with z | z
    · rw [z]; exact nit b u e
    · exact nit c _ z
theorem Inv.tok (I:Inv X pins σ H s) (t:Nat):Inv X pins σ H { s with toks:=t }:=I.un (h':=s.heap) (t':=t) Un.refl I.hok
theorem Inv.kept {t':Nat} (I:Inv X pins σ H s) (k:∀b u,s.heap.get? b=some u→h'.get? b=some u):Inv X pins σ H { s with heap:=h',toks:=t' }:=I.un (Un.kept k) (I.hok.kept k)
theorem Inv.laid {a:Addr} {o:HO} {t':Nat} (I:Inv X pins σ H s) (k:∀b u,s.heap.get? b=some u→h'.get? b=some u) (hp:s.heap.objs.size≤a) (new:ObjOk X.prog X.w (upd H a o) h' a o) :
    Inv X pins σ (upd H a o) { s with heap:=h',toks:=t' }:=I.un (Un.laid k hp (I.hok.fresh hp)) (I.hok.laid k hp new)
theorem Inv.write {x e:Addr} {o:HO} {t':Nat} (I:Inv X pins σ H s) (mu:Mut (H x)) (he:e=x∨H e=some (.own x)) (k:∀b u,b≠e→s.heap.get? b=some u→h'.get? b=some u) (heo:∃u,h'.get? e=some u)
    (new:ObjOk X.prog X.w (upd H x o) h' x o):Inv X pins σ (upd H x o) { s with heap:=h',toks:=t' }:=I.un (Un.write mu he k heo) (I.hok.write mu he k heo new)
theorem Inv.pins_of {pins':List (Addr×Obj)} (I:Inv X pins σ H s) (h:∀p∈pins',s.heap.get? p.1=some p.2∧H p.1=none∧p.1≠X.env.locals∧p.1∉X.fs∧∀v,p.2.data≠.cell v):Inv X pins' σ H s:=
  ⟨I.ok,I.os,I.bare,I.base,I.loc,I.cell,I.free,I.freeC,fun p hp=>(List.mem_append.mp hp).elim (fun z=>I.pin p (List.mem_append_left _ z)) (h p),I.hok,I.len⟩
theorem ZkU {N:List Str} (hN:N.Nodup) {i j:Nat} {x:Str} (a:N[i]?=some x) (b:N[j]?=some x):i=j:=by
  obtain ⟨h1,e1⟩:=List.getElem?_eq_some_iff.mp a
  obtain ⟨h2,e2⟩:=List.getElem?_eq_some_iff.mp b
  exact (List.getElem_inj hN).mp (e1.trans e2.symm)
theorem Zm5 {M:Model} {A:Around} {E:Value→Shared→Prop} {i:Nat} {x:Str} {v:V} {u:Value} {Q:Unit→Shared→Prop} (I:Inv X pins σ H s) (hN:X.N.Nodup) (hi:X.N[i]?=some x) (hx:Loc X.env.scope x) (r:RelV v u)
    (h:∀s',Inv X pins (σ.set i (some v)) H s'→(∃a,Heap.SameBut a s.heap s'.heap∧(a=X.env.locals∨X.env.cells.lookup x=some a))→Q () s') (hf:X.fn x=true∨X.env.scope.names.lookup x=some .local:=by first | exact .inl rfl | exact .inr rfl | assumption):wpAny M A (storeName X.env x u) Q E s:=by
  obtain ⟨m,hn,hl⟩:=id I.loc
  have hcls:(X.env.scope.kind == .class || (X.env.scope.kind == .module && X.env.locals != X.env.globals))=false:=by rw [I.ok.kind]; rfl
  have hiσ:i < σ.length:=by rw [I.len]; exact (List.getElem?_eq_some_iff.mp hi).1
  have cne:=I.cne
  have tracked:∀{a:Addr} {h':Heap},(∃o,s.heap.get? a=some o∧H a=none)→Heap.SameBut a s.heap h'→HOk X.prog X.w H h':=fun {a h'} ha hs b ob e=>by
    obtain ⟨_,_,hfree⟩:=ha
    refine (I.hok b ob e).stay (fun c w' hc q=>(hs.2 c ?_).trans q) (fun _ q=>q) fun _ _ q=>q
    rintro rfl
    rcases hc with rfl | hc
    · rw [hfree] at e; cases e
    · rw [hfree] at hc; cases hc
  rcases hx with hk | hk
  · refine wpAny_storeName_local hk hn (fun h' hn' hs=>?_) hcls
    obtain ⟨oL,_,_,hoL,_⟩:=id hn
    refine h _ ⟨I.ok,I.os,I.bare,⟨fun b o e n hb hx=>?_,fun b o e n hb hx=>?_,I.base.free,fun b o e hx=>?_,I.base.tups,I.base.frzs,I.base.tbls⟩,⟨_,hn',fun j y v' e1 e2 e3=>?_⟩,fun y c e=>?_,I.free,I.freeC,fun p hp=>?_,tracked ⟨oL,hoL,I.free⟩ hs,by simpa using I.len⟩ ⟨_,hs,.inl rfl⟩
    · exact (hs.2 b (Nat.ne_of_lt (Nat.lt_of_lt_of_le (Heap.lt_size e) I.ok.above))).trans (I.base.keep b o e n hb hx)
    · obtain ⟨sl,e1⟩:=I.base.slot b o e n hb hx
      exact ⟨sl,(hs.2 b (Nat.ne_of_lt (Nat.lt_of_lt_of_le (Heap.lt_size e) I.ok.above))).trans e1⟩
    · obtain ⟨o',e1⟩:=I.base.there b o e hx
      exact ⟨o',(hs.2 b (Nat.ne_of_lt (Nat.lt_of_lt_of_le (Heap.lt_size e) I.ok.above))).trans e1⟩
    · by_cases hj:j=i
      · subst hj
        rw [hi] at e1; cases e1
        rw [List.getElem?_set_self hiσ] at e2
        cases e2
        exact ⟨u,r,.inl ⟨hk,by simp⟩⟩
      · rw [List.getElem?_set_ne (Ne.symm hj)] at e2
        obtain ⟨u',r',q⟩:=hl j y v' e1 e2 e3
        refine ⟨u',r',?_⟩
        rcases q with ⟨k,e⟩ | ⟨k,c,e,z⟩
        · refine .inl ⟨k,?_⟩
          have:y≠x:=fun e=>hj (ZkU hN e1 (e ▸ hi))
          simp [this,e]
        · exact .inr ⟨k,c,e,z.sameBut hs (cne y c e)⟩
    · obtain ⟨w',z⟩:=I.cell y c e
      exact ⟨w',z.sameBut hs (cne y c e)⟩
    · obtain ⟨e,n,ne,nf,d⟩:=I.pin p hp
      exact ⟨(hs.2 p.1 ne).trans e,n,ne,nf,d⟩
  · have hfn:X.fn x=true:=by
      rcases hf with z | z
      · exact z
      · rw [z] at hk; cases hk
    obtain ⟨c,hc⟩:=I.ok.has x (.inl hk)
    obtain ⟨w',z⟩:=I.cell x c hc
    refine wpAny_storeName_cell I.ok.kind hk hc z (fun h' hc' hs=>?_)
    obtain ⟨oc,hoc,hocd⟩:=id z
    refine h { s with heap:=h' } ⟨I.ok,I.os,I.bare,⟨fun b o e n hb hx=>?_,fun b o e n hb hx=>?_,I.base.free,fun b o e hx=>?_,I.base.tups,I.base.frzs,I.base.tbls⟩,⟨m,hn.sameBut hs (Ne.symm (cne x c hc)),fun j y v' e1 e2 e3=>?_⟩,fun y c' e=>?_,I.free,I.freeC,fun p hp=>?_,tracked ⟨oc,hoc,I.freeC x c hc⟩ hs,by simpa using I.len⟩ ⟨c,hs,.inr hc⟩
    · exact (hs.2 b (Nat.ne_of_lt (Nat.lt_of_lt_of_le (Heap.lt_size e) (I.ok.cab x c hfn hc)))).trans (I.base.keep b o e n hb hx)
    · obtain ⟨sl,e1⟩:=I.base.slot b o e n hb hx
      exact ⟨sl,(hs.2 b (Nat.ne_of_lt (Nat.lt_of_lt_of_le (Heap.lt_size e) (I.ok.cab x c hfn hc)))).trans e1⟩
    · obtain ⟨o',e1⟩:=I.base.there b o e hx
      exact ⟨o',(hs.2 b (Nat.ne_of_lt (Nat.lt_of_lt_of_le (Heap.lt_size e) (I.ok.cab x c hfn hc)))).trans e1⟩
    · by_cases hj:j=i
      · subst hj
        rw [hi] at e1; cases e1
        rw [List.getElem?_set_self hiσ] at e2
        cases e2
        exact ⟨u,r,.inr ⟨.inl hk,c,hc,hc'⟩⟩
      · rw [List.getElem?_set_ne (Ne.symm hj)] at e2
        obtain ⟨u',r',q⟩:=hl j y v' e1 e2 e3
        refine ⟨u',r',?_⟩
        rcases q with q | ⟨k,c',e,z'⟩
        · exact .inl q
        · refine .inr ⟨k,c',e,z'.sameBut hs ?_⟩
          rintro rfl
          exact hj (ZkU hN e1 (I.ok.inj _ _ _ e hc ▸ hi))
    · by_cases hcc:c'=c
      · subst hcc; exact ⟨_,hc'⟩
      · obtain ⟨w2,z2⟩:=I.cell y c' e
        exact ⟨w2,z2.sameBut hs hcc⟩
    · obtain ⟨e,n,ne,nf,d⟩:=I.pin p hp
      refine ⟨(hs.2 p.1 ?_).trans e,n,ne,nf,d⟩
      intro q
      rw [q,hoc] at e
      have q':oc=p.2:=Option.some.inj e
      exact d w' (by rw [←q']; exact hocd)
theorem ZkF {M:Model} {A:Around} {E:Value→Shared→Prop} {i:Nat} {x:Str} {v:V} {u:Value} {Q:Unit→Shared→Prop} (I:Inv X pins σ H s) (hN:X.N.Nodup) (hi:X.N[i]?=some x) (hx:Loc X.env.scope x) (r:RelV v u)
    (h:∀s',Inv X pins (σ.set i (some v)) H s'→Q () s') (hf:X.fn x=true∨X.env.scope.names.lookup x=some .local:=by first | exact .inl rfl | exact .inr rfl | assumption):wpAny M A (storeName X.env x u) Q E s:=
  Zm5 I hN hi hx r (fun s' I' _=>h s' I') hf
theorem Inv.call' {s':Shared} {ch:List Addr} (I:Inv X pins σ H s) (ho:s'.os=s.os) (u:Un (frs X.stack) ch H H' s.heap s'.heap) (hok:HOk X.prog X.w H' s'.heap) (hg:AllBare s'.gens)
    (hch:∀b∈ch,(b∈X.ex∨X.s₀.heap.objs.size≤b)∧b≠X.env.locals∧(∀x c,X.env.cells.lookup x=some c→c≠b)∧∀p∈X.pn++pins,p.1≠b):Inv X pins σ H' s':=by
  obtain ⟨h',g',d',t',o'⟩:=s'
  have e:o'=s.os:=ho
  subst e
  exact I.call (g':=g') (t':=t') (d':=d') u hok hg hch
end
abbrev XK:=Value→Option Addr→Hp→Prop
abbrev St:=List (Option V)
abbrev VK:=V→Hp→Prop
abbrev TE:=St→Hp→VK→Prop
abbrev TT:=St→Hp→(Bool→Hp→Prop)→Prop
abbrev TA:=St→Hp→(List V→Hp→Prop)→Prop
structure ZeY where
  nx:St→Hp→Prop
  rt:VK
  bk:St→Hp→Prop:=fun _ _=>False
  ct:St→Hp→Prop:=fun _ _=>False
abbrev TS:=ZeY→St→Hp→Prop
def EP (X:Cx) (pins:List (Addr×Obj)) (σ:St) (Q:VK) (u:Value) (s':Shared):Prop:=∃v H',Inv X pins σ H' s'∧RelV v u∧Q v H'
def TP (X:Cx) (pins:List (Addr×Obj)) (σ:St) (Q:Bool→Hp→Prop) (b:Bool) (s':Shared):Prop:=∃H',Inv X pins σ H' s'∧Q b H'
def AP (X:Cx) (pins:List (Addr×Obj)) (σ:St) (Q:List V→Hp→Prop) (us:List Value) (s':Shared):Prop:=∃vs H',Inv X pins σ H' s'∧Vals vs us∧Q vs H'
def SP (X:Cx) (pins:List (Addr×Obj)) (D:ZeY) (f:Flow) (s':Shared):Prop:=
  match f with
  | .next=>∃σ' H',Inv X pins σ' H' s'∧D.nx σ' H'
  | .brk=>∃σ' H',Inv X pins σ' H' s'∧D.bk σ' H'
  | .cont=>∃σ' H',Inv X pins σ' H' s'∧D.ct σ' H'
  | .ret u=>∃v σ' H',Inv X pins σ' H' s'∧RelV v u∧D.rt v H'
def PE (X:Cx) (e:Expr) (t:TE):Prop:=
  ∀(pins:List (Addr×Obj)) (s:Shared) (σ:St) (H:Hp) (Q:VK),Inv X pins σ H s→t σ H Q→wpAny (model X.prog X.w) X.A (eval e X.env) (EP X pins σ Q) X.xe s
def PT (X:Cx) (e:Expr) (t:TT):Prop:=
  ∀(pins:List (Addr×Obj)) (s:Shared) (σ:St) (H:Hp) (Q:Bool→Hp→Prop),Inv X pins σ H s→t σ H Q→wpAny (model X.prog X.w) X.A (isTrue e X.env (eval e X.env)) (TP X pins σ Q) X.xe s
def PW (X:Cx) (e:Expr) (t:TT):Prop:=
  ∀(whole:Sem Value) (pins:List (Addr×Obj)) (s:Shared) (σ:St) (H:Hp) (Q:Bool→Hp→Prop),Inv X pins σ H s→t σ H Q→wpAny (model X.prog X.w) X.A (isTrue e X.env whole) (TP X pins σ Q) X.xe s
theorem PW.pt {X:Cx} {e:Expr} {t:TT} (h:PW X e t):PT X e t:=h _
def PA (X:Cx) (es:List Expr) (t:TA):Prop:=
  ∀(pos:Pos) (pins:List (Addr×Obj)) (s:Shared) (σ:St) (H:Hp) (Q:List V→Hp→Prop),Inv X pins σ H s→t σ H Q→wpAny (model X.prog X.w) X.A (spliced (backTo pos (starEach es X.env))) (AP X pins σ Q) X.xe s
def PS (X:Cx) (st:Stmt) (t:TS):Prop:=
  ∀(pins:List (Addr×Obj)) (s:Shared) (σ:St) (H:Hp) (D:ZeY),Inv X pins σ H s→t D σ H→wpAny (model X.prog X.w) X.A (exec st X.env) (SP X pins D) X.xe s
def PSs (X:Cx) (st:List Stmt) (t:TS):Prop:=
  ∀(pins:List (Addr×Obj)) (s:Shared) (σ:St) (H:Hp) (D:ZeY),Inv X pins σ H s→t D σ H→wpAny (model X.prog X.w) X.A (execs st X.env) (SP X pins D) X.xe s
theorem thn {α:Type} {t:Sem α} {Q Q':α→Shared→Prop} {M:Model} {A:Around} {E:Value→Shared→Prop} {s:Shared} (h:wpAny M A t Q E s) (hQ:∀a s,Q a s→Q' a s):wpAny M A t Q' E s:=wpAny_mono h hQ fun _ _ x=>x
end L2
namespace L2
open PySem PySem.Spec PyProof.Rows
section
variable {X:Cx}
theorem bin {a b:Expr} {ta tb:TE} (ha:PE X a ta) (hb:PE X b tb) {pins:List (Addr×Obj)} {s:Shared} {σ:St} {H:Hp} {R:V→V→Hp→Prop} (I:Inv X pins σ H s) (h:ta σ H fun x H1=>tb σ H1 fun y H2=>R x y H2)
    {α:Type} {Q:α→Shared→Prop} {f:Value→Value→Sem α}
    (hf:∀v u s2 x y H2,Inv X pins σ H2 s2→RelV x v→RelV y u→R x y H2→wpAny (model X.prog X.w) X.A (f v u) Q X.xe s2) :
    wpAny (model X.prog X.w) X.A (eval a X.env) (fun v s₁=>wpAny (model X.prog X.w) X.A (eval b X.env) (fun u s₂=>wpAny (model X.prog X.w) X.A (f v u) Q X.xe s₂) X.xe s₁) X.xe s:=by
  refine thn (ha pins s σ H _ I h) fun v s1 ⟨x,H1,I1,r1,q1⟩=>?_
  refine thn (hb pins s1 σ H1 _ I1 q1) fun u s2 ⟨y,H2,I2,r2,q2⟩=>?_
  exact hf v u s2 x y H2 I2 r1 r2 q2
def Zym (i:Nat):TE:=fun σ H Q=>∃v,σ[i]?=some (some v)∧Q v H
def tC (v:V):TE:=fun _ H Q=>Q v H
theorem Zpt {i:Nat} {x:Str} {pos:Pos} (hN:X.N[i]?=some x) (hv:Vis X.env.scope x) (hd:(x == ("__debug__":Str))=false:=by decide) (hcd:(x == ("__classdict__":Str))=false:=by decide):PE X (.Name x pos) (Zym i):=by
  intro pins s σ H Q I h
  obtain ⟨v,e,h⟩:=h
  obtain ⟨m,hn,hl⟩:=I.loc
  obtain ⟨u,r,l⟩:=hl i x v hN e hv
  have fin:EP X pins σ Q u s:=⟨v,H,I,r,h⟩
  rcases l with ⟨hk,hm⟩ | ⟨hk,c,hc,hcell⟩
  · exact wpAny_Name (wpAny_loadName_local I.ok.kind hk hn hm fin) hd
  · rcases hk with hk | hk
    · exact wpAny_Name (wpAny_loadName_cell I.ok.kind hk hc hcell fin) hd
    · exact wpAny_Name (wpAny_loadName_free I.ok.kind hk hc hcell fin hcd) hd
theorem Ztw {i j pos}:PE X (.Constant (.int i) j pos) (tC (.int i)):=fun _ _ _ H _ I h=>wpAny_Constant_int ⟨.int i,H,I.tok _,⟨_,rfl⟩,h⟩
theorem Zvb {b j pos}:PE X (.Constant (.bool b) j pos) (tC (.bl b)):=fun _ _ _ H _ I h=>Constant_bool ⟨.bl b,H,I,rfl,h⟩
theorem Ztv {j pos}:PE X (.Constant .none j pos) (tC .non):=fun _ _ _ H _ I h=>Constant_none ⟨.non,H,I,rfl,h⟩
def Gl (X:Cx) (x:Str):Prop:=X.env.kindOf x=some .globalImplicit
theorem ZgX {E:Value→Shared→Prop} {pins:List (Addr×Obj)} {s:Shared} {σ:St} {H:Hp} {x:Str} {u:Value} {pos:Pos} {Q:Value→Shared→Prop} (I:Inv X pins σ H s) (hg:Gl X x) (hm:X.mg x=some u) (h:Q u s)
    (hd:(x == ("__debug__":Str))=false:=by decide):wpAny (model X.prog X.w) X.A (eval (.Name x pos) X.env) Q E s:=
  Calls.Name_function_global I.ok.kind hg (Calls.loadGlobal_global (by rw [I.ok.glob]; exact I.mod.glob.keeps I.bk) hm h) hd
theorem Zhs {E:Value→Shared→Prop} {pins:List (Addr×Obj)} {s:Shared} {σ:St} {H:Hp} {x:Str} {u:Value} {pos:Pos} {Q:Value→Shared→Prop} (I:Inv X pins σ H s) (hg:Gl X x) (hm:X.mg x=none) (hv:bootBuiltins x=some u) (h:Q u s)
    (hn:x≠"__name__":=by decide) (hd:(x == ("__debug__":Str))=false:=by decide):wpAny (model X.prog X.w) X.A (eval (.Name x pos) X.env) Q E s:=by
  obtain ⟨mb,h1,h2⟩:=I.mod.blt
  exact Calls.Name_function_global I.ok.kind hg (Calls.loadGlobal_builtin (by rw [I.ok.glob]; exact I.mod.glob.keeps I.bk) hm (by rw [I.ok.blt]; exact h1.keeps I.bk) ((h2 x hn).trans hv) h) hd
theorem Zmp {x:Str} {v:V} {u:Value} {pos:Pos} (hg:Gl X x) (hm:X.mg x=some u) (r:RelV v u) (hd:(x == ("__debug__":Str))=false:=by decide):PE X (.Name x pos) (tC v):=
  fun _ _ _ H _ I h=>ZgX I hg hm ⟨v,H,I,r,h⟩ hd
theorem Zrv {x:Str} {v:V} {u:Value} {pos:Pos} (hg:Gl X x) (hm:X.mg x=none) (hv:bootBuiltins x=some u) (r:RelV v u) (hn:x≠"__name__":=by decide) (hd:(x == ("__debug__":Str))=false:=by decide):PE X (.Name x pos) (tC v):=
  fun _ _ _ H _ I h=>Zhs I hg hm hv ⟨v,H,I,r,h⟩ hn hd
variable {a b:Expr} {ta tb:TE} {pos:Pos}
def PC (X:Cx) (op:CmpOp) (a b:Expr) (t:TE):Prop:=
  ∀(pins:List (Addr×Obj)) (s:Shared) (σ:St) (H:Hp) (Q:VK),Inv X pins σ H s→t σ H Q→
    wpAny (model X.prog X.w) X.A (eval a X.env) (fun v s₁=>wpAny (model X.prog X.w) X.A (eval b X.env) (fun u s₂=>wpAny (model X.prog X.w) X.A (compareOp op v u) (EP X pins σ Q) X.xe s₂) X.xe s₁) X.xe s
theorem ZpO (b:Expr) {op:CmpOp} (h:op≠.In) (h2:op≠.NotIn):behindInMarks op b=false:=by
  have e1:(op == CmpOp.In)=false:=by cases op<;>first | rfl | exact absurd rfl h
  have e2:(op == CmpOp.NotIn)=false:=by cases op<;>first | rfl | exact absurd rfl h2
  cases b<;>simp [behindInMarks,e1,e2]
def tB (t:TE):TT:=fun σ H Q=>t σ H fun x H1=>∃c,x=.bl c∧Q c H1
theorem Ztm {op:CmpOp} {t:TE} (h:PC X op a b t) (h1:behindInMarks op b=false:=by first | exact ZpO _ (by decide) (by decide) | rfl):PT X (.Compare a [op] [b] pos) (tB t):=by
  intro pins s σ H Q I hw
  refine wpAny_isTrue_Compare1 (thn (h pins s σ H _ I hw) fun v s1 h1=>thn h1 fun u s2 h2=>thn h2 fun c s3 ⟨x,H1,I1,r1,q1⟩=>?_) h1
  obtain ⟨d,rfl,q⟩:=q1
  cases r1
  exact wpAny_truthy_bool ⟨H1,I1,q⟩
variable {tA tB':TT} {rest:List Expr}
def Zyx (t u:TT):TT:=fun σ H Q=>t σ H fun c H1=>if c=true then u σ H1 Q else Q false H1
def tOr (t u:TT):TT:=fun σ H Q=>t σ H fun c H1=>if c=true then Q true H1 else u σ H1 Q
def Zys (t:TT):TT:=fun σ H Q=>t σ H fun c H1=>Q (!c) H1
theorem Zrf (ha:PT X a tA):PW X (.BoolOp .And [a] pos) tA:=by
  intro wh pins s σ H Q I h
  refine isTrue_and (thn (ha pins s σ H Q I h) fun c s1 e=>?_)
  cases c with
  | true=>exact isTrue_and_nil e
  | false=>exact e
theorem Zti (ha:PT X a tA):PW X (.BoolOp .Or [a] pos) tA:=by
  intro wh pins s σ H Q I h
  refine isTrue_or (thn (ha pins s σ H Q I h) fun c s1 e=>?_)
  cases c with
  | false=>exact isTrue_or_nil e
  | true=>exact e
theorem Ztj (ha:PT X a tA) (hb:PW X (.BoolOp .And (b::rest) pos) tB'):PW X (.BoolOp .And (a::b::rest) pos) (Zyx tA tB'):=by
  intro wh pins s σ H Q I h
  refine isTrue_and (thn (ha pins s σ H _ I h) fun c s1 ⟨H1,I1,q1⟩=>?_)
  cases c with
  | true=>exact hb wh pins s1 σ H1 Q I1 q1
  | false=>exact ⟨H1,I1,q1⟩
theorem Zu1 (ha:PT X a tA) (hb:PW X (.BoolOp .Or (b::rest) pos) tB'):PW X (.BoolOp .Or (a::b::rest) pos) (tOr tA tB'):=by
  intro wh pins s σ H Q I h
  refine isTrue_or (thn (ha pins s σ H _ I h) fun c s1 ⟨H1,I1,q1⟩=>?_)
  cases c with
  | true=>exact ⟨H1,I1,q1⟩
  | false=>exact hb wh pins s1 σ H1 Q I1 q1
theorem Ztl (ha:PT X a tA):PT X (.UnaryOp .Not a pos) (Zys tA):=by
  intro pins s σ H Q I h
  exact isTrue_not (ha pins s σ H (fun c H1=>Q (!c) H1) I h)
def ZuQ (ta tb:TE):TE:=fun σ H Q=>ta σ H fun x H1=>∃c,x=.bl c∧if c=true then tb σ H1 Q else Q (.bl false) H1
def Zyr (ta tb:TE):TE:=fun σ H Q=>ta σ H fun x H1=>∃c,x=.bl c∧if c=true then Q (.bl true) H1 else tb σ H1 Q
theorem Ztu {op} {t:TE} (h:PE X a t):PE X (.BoolOp op [a] pos) t:=fun pins s σ H Q I hw=>BoolOp_one (h pins s σ H Q I hw)
theorem Zty (ha:PE X a ta) (hb:PE X (.BoolOp .And (b::rest) pos) tb):PE X (.BoolOp .And (a::b::rest) pos) (ZuQ ta tb):=by
  intro pins s σ H Q I h
  refine BoolOp_and (thn (ha pins s σ H _ I h) fun v s1 ⟨x,H1,I1,r1,q1⟩=>?_)
  obtain ⟨c,rfl,q1⟩:=q1
  cases r1
  refine wpAny_truthy_bool ?_
  cases c with
  | true=>exact hb pins s1 σ H1 Q I1 q1
  | false=>exact ⟨.bl false,H1,I1,rfl,q1⟩
theorem Zu7 (ha:PE X a ta) (hb:PE X (.BoolOp .Or (b::rest) pos) tb):PE X (.BoolOp .Or (a::b::rest) pos) (Zyr ta tb):=by
  intro pins s σ H Q I h
  refine BoolOp_or (thn (ha pins s σ H _ I h) fun v s1 ⟨x,H1,I1,r1,q1⟩=>?_)
  obtain ⟨c,rfl,q1⟩:=q1
  cases r1
  refine wpAny_truthy_bool ?_
  cases c with
  | false=>exact hb pins s1 σ H1 Q I1 q1
  | true=>exact ⟨.bl true,H1,I1,rfl,q1⟩
def tIf (t:TT) (ta tb:TE):TE:=fun σ H Q=>t σ H fun c H1=>if c=true then ta σ H1 Q else tb σ H1 Q
theorem Zpx {c:Expr} (hc:PT X c tA) (ha:PE X a ta) (hb:PE X b tb):PE X (.IfExp c a b pos) (tIf tA ta tb):=by
  intro pins s σ H Q I h
  refine wpAny_IfExp (thn (hc pins s σ H _ I h) fun d s1 ⟨H1,I1,q1⟩=>?_)
  cases d with
  | true=>exact ha pins s1 σ H1 Q I1 q1
  | false=>exact hb pins s1 σ H1 Q I1 q1
end
end L2
namespace L2
open PySem PySem.Spec PyProof.Rows
def SqL (K:PySem.W.Frag) (H:Hp) (a:Addr) (xs:List V):Prop:=
  Rd H a (.lst xs)∨
    ∃(o:Obj) (its:Array Value) (n:Nat),K.lookup a=some o∧o.cls=.type "list"∧o.dict=none∧o.data=.seq its n∧its.size≤sizeLine∧Vals xs its.toList
def SqT (K:PySem.W.Frag) (H:Hp) (a:Addr) (xs:List V):Prop:=
  Rd H a (.tup xs)∨
    ∃(o:Obj) (its:Array Value) (n:Nat),K.lookup a=some o∧o.cls=.type "tuple"∧o.data=.seq its n∧its.size≤sizeLine∧Vals xs its.toList
def Zy8:Value→Option V
  | .none=>some .non
  | .bool b=>some (.bl b)
  | .int i _=>some (.int i)
  | .str x _=>some (.str x)
  | .bytes b _=>some (.byt b)
  | .float b _=>some (.flt b)
  | .ref a=>some (.ref a)
  | .type n=>some (.ty n)
  | _=>none
theorem RelV.abs {x:V} {u:Value} (r:RelV x u):Zy8 u=some x:=by
  cases x with
  | non=>cases r; rfl
  | bl _=>cases r; rfl
  | int _=>obtain ⟨t,rfl⟩:=r; rfl
  | str _=>obtain ⟨t,rfl⟩:=r; rfl
  | byt _=>obtain ⟨t,rfl⟩:=r; rfl
  | flt _=>obtain ⟨t,rfl⟩:=r; rfl
  | ref _=>cases r; rfl
  | ty _=>cases r; rfl
theorem RelV.inj {x y:V} {u:Value} (r:RelV x u) (q:RelV y u):x=y:=Option.some.inj (r.abs.symm.trans q.abs)
theorem Vals.inj:∀{xs ys:List V} {us:List Value},Vals xs us→Vals ys us→xs=ys
  | _,_,_,.nil,.nil=>rfl
  | _,_,_,.cons r t,.cons r' t'=>by rw [r.inj r',Vals.inj t t']
section
variable {X:Cx} {pins:List (Addr×Obj)} {σ:St} {H:Hp} {s:Shared} {a:Addr} {xs ys:List V}
theorem SqL.of {K:PySem.W.Frag} (h:H a=some (.lst xs)):SqL K H a xs:=.inl (.inl h)
theorem SqT.of {K:PySem.W.Frag} (h:H a=some (.tup xs)):SqT K H a xs:=.inl (.inl h)
theorem Inv.list (I:Inv X pins σ H s) (h:SqL X.K H a xs):∃its:List Value,Vals xs its∧PlainL s.heap a its.toArray∧xs.length≤sizeLine:=by
  rcases h with h | ⟨o,its,n,hk,hc,hd,hs,hz,r⟩
  · obtain ⟨z,its,n,r,e⟩:=h.ok I.hok
    exact ⟨its,r,⟨_,n,e,rfl,rfl,rfl⟩,z⟩
  · refine ⟨its.toList,r,⟨o,n,I.kIn a o hk,hc,hd,by simpa using hs⟩,?_⟩
    have e:=r.length
    simp only [Array.length_toList] at e
    omega
theorem Inv.tuple (I:Inv X pins σ H s) (h:SqT X.K H a xs):∃its:List Value,Vals xs its∧IsTup s.heap a its.toArray∧xs.length≤sizeLine:=by
  rcases h with h | ⟨o,its,n,hk,hc,hs,hz,r⟩
  · obtain ⟨z,its,r,p⟩:=h.ok I.hok
    exact ⟨its,r,p,z⟩
  · refine ⟨its.toList,r,⟨o,I.kIn a o hk,hc,n,by simpa using hs⟩,?_⟩
    have e:=r.length
    simp only [Array.length_toList] at e
    omega
theorem Inv.list_inj (I:Inv X pins σ H s) (h:SqL X.K H a xs) (h':SqL X.K H a ys):xs=ys:=by
  obtain ⟨its,r,⟨o,n,e,_,_,d⟩,_⟩:=I.list h
  obtain ⟨its',r',⟨o',n',e',_,_,d'⟩,_⟩:=I.list h'
  rw [e] at e'; cases e'
  rw [d] at d'
  injection d' with d1 _
  have:its=its':=by simpa using congrArg Array.toList d1
  subst this
  exact r.inj r'
theorem Inv.tuple_inj (I:Inv X pins σ H s) (h:SqT X.K H a xs) (h':SqT X.K H a ys):xs=ys:=by
  obtain ⟨its,r,⟨o,e,_,n,d⟩,_⟩:=I.tuple h
  obtain ⟨its',r',⟨o',e',_,n',d'⟩,_⟩:=I.tuple h'
  rw [e] at e'; cases e'
  rw [d] at d'
  injection d' with d1 _
  have:its=its':=by simpa using congrArg Array.toList d1
  subst this
  exact r.inj r'
end
abbrev Cx.wish (X:Cx) (E:Value→Shared→Prop):Cx:={ X with xe:=E }
abbrev Cx.nox (X:Cx):Cx:=X.wish fun _ _=>False
theorem Cx.Ok.wish {X:Cx} (ok:X.Ok) (E:Value→Shared→Prop):(X.wish E).Ok:=
  ⟨ok.mod,ok.kind,ok.glob,ok.blt,ok.above,ok.inj,ok.has,ok.cab,ok.hd,ok.frames,ok.stk,ok.exf,ok.bs,ok.bsz,ok.noex,ok.exfs,ok.funs,ok.frf⟩
theorem Cx.Ok.unwish {X:Cx} {E:Value→Shared→Prop} (ok:(X.wish E).Ok):X.Ok:=
  ⟨ok.mod,ok.kind,ok.glob,ok.blt,ok.above,ok.inj,ok.has,ok.cab,ok.hd,ok.frames,ok.stk,ok.exf,ok.bs,ok.bsz,ok.noex,ok.exfs,ok.funs,ok.frf⟩
section
variable {X:Cx} {pins:List (Addr×Obj)} {σ:St} {H:Hp} {s:Shared} {E:Value→Shared→Prop}
theorem Inv.wish (I:Inv X pins σ H s) (E:Value→Shared→Prop):Inv (X.wish E) pins σ H s:=⟨I.ok.wish E,I.os,I.bare,I.base,I.loc,I.cell,I.free,I.freeC,I.pin,I.hok,I.len⟩
theorem Inv.unwish (I:Inv (X.wish E) pins σ H s):Inv X pins σ H s:=⟨I.ok.unwish,I.os,I.bare,I.base,I.loc,I.cell,I.free,I.freeC,I.pin,I.hok,I.len⟩
theorem SP.unwish {D:ZeY} {f:Flow} {s':Shared} (h:SP (X.wish E) pins D f s'):SP X pins D f s':=by
  cases f with
  | next=>obtain ⟨σ',H',I,q⟩:=h; exact ⟨σ',H',I.unwish,q⟩
  | brk=>obtain ⟨σ',H',I,q⟩:=h; exact ⟨σ',H',I.unwish,q⟩
  | cont=>obtain ⟨σ',H',I,q⟩:=h; exact ⟨σ',H',I.unwish,q⟩
  | ret u=>obtain ⟨v,σ',H',I,r,q⟩:=h; exact ⟨v,σ',H',I.unwish,r,q⟩
theorem PE.nox {e:Expr} {t:TE} (h:PE X.nox e t):PE X e t:=fun pins s σ H Q I hw=>
  wpAny_mono (h pins s σ H Q (I.wish _) hw) (fun _ _ ⟨v,H',I',r,q⟩=>⟨v,H',I'.unwish,r,q⟩) fun _ _ z=>False.elim z
theorem PT.nox {e:Expr} {t:TT} (h:PT X.nox e t):PT X e t:=fun pins s σ H Q I hw=>
  wpAny_mono (h pins s σ H Q (I.wish _) hw) (fun _ _ ⟨H',I',q⟩=>⟨H',I'.unwish,q⟩) fun _ _ z=>False.elim z
theorem PSs.nox {st:List Stmt} {t:TS} (h:PSs X.nox st t):PSs X st t:=fun pins s σ H D I hw=>
  wpAny_mono (h pins s σ H D (I.wish _) hw) (fun _ _ q=>q.unwish) fun _ _ z=>False.elim z
end
section
variable {X:Cx} {st:Stmt} {rest:List Stmt} {t u:TS} {e:Expr} {te:TE} {pos:Pos}
def ZuM:TS:=fun D σ H=>D.nx σ H
def Zyp (t u:TS):TS:=fun D σ H=>t { D with nx:=u D } σ H
theorem Zrj:PSs X [] ZuM:=fun _ _ σ H _ I h=>wpAny_execs_nil ⟨σ,H,I,h⟩
theorem Zpm (h1:PS X st t) (h2:PSs X rest u):PSs X (st::rest) (Zyp t u):=by
  intro pins s σ H D I h
  refine wpAny_execs_cons (thn (h1 pins s σ H { D with nx:=u D } I h) fun f s1 q=>?_)
  cases f with
  | next=>
    obtain ⟨σ',H',I',q⟩:=q
    exact h2 pins s1 σ' H' D I' q
  | ret v=>exact q
  | brk=>exact q
  | cont=>exact q
theorem Zri (h1:PS X st t):PSs X [st] t:=by
  intro pins s σ H D I h
  refine wpAny_execs_cons (thn (h1 pins s σ H D I h) fun f s1 q=>?_)
  cases f with
  | next=>exact wpAny_execs_nil q
  | ret v=>exact q
  | brk=>exact q
  | cont=>exact q
theorem Inv.quiet {pins:List (Addr×Obj)} {σ:St} {H:Hp} {s:Shared} (I:Inv X pins σ H s):interactive X.env=false:=by simp [interactive,I.ok.kind]
def ZuN (te:TE):TS:=fun D σ H=>te σ H fun _ H1=>D.nx σ H1
theorem Zmn (he:PE X e te) (hs:swapsWith e none pos.line X.env=pure false:=by rfl):PS X (.Expr e pos) (ZuN te):=by
  intro pins s σ H D I h
  exact wpAny_Expr_any (thn (he pins s σ H _ I h) fun v s1 ⟨x,H1,I1,r1,q1⟩=>⟨σ,H1,I1,q1⟩) I.quiet hs
def Zyq (te:TE):TS:=fun D σ H=>te σ H D.rt
theorem Ztn (he:PE X e te):PS X (.Return (some e) pos) (Zyq te):=by
  intro pins s σ H D I h
  exact wpAny_Return_some (thn (he pins s σ H _ I h) fun v s1 ⟨x,H1,I1,r1,q1⟩=>⟨x,σ,H1,I1,r1,q1⟩)
def ZuK:TS:=fun D _ H=>D.rt .non H
theorem Zrk:PS X (.Return none pos) ZuK:=fun _ _ σ H _ I h=>wpAny_Return_none ⟨.non,σ,H,I,rfl,h⟩
def Zyu (c:TT) (t u:TS):TS:=fun D σ H=>c σ H fun b H1=>if b=true then t D σ H1 else u D σ H1
theorem Zu3 {c:Expr} {a b:List Stmt} {tc:TT} (hc:PT X c tc) (ha:PSs X a t) (hb:PSs X b u):PS X (.If c a b pos) (Zyu tc t u):=by
  intro pins s σ H D I h
  refine wpAny_If (thn (hc pins s σ H _ I h) fun d s1 ⟨H1,I1,q1⟩=>?_)
  cases d with
  | true=>exact ha pins s1 σ H1 D I1 q1
  | false=>exact hb pins s1 σ H1 D I1 q1
end
abbrev TG:=V→St→Hp→(St→Hp→Prop)→Prop
abbrev TGs:=List V→St→Hp→(St→Hp→Prop)→Prop
def PG (X:Cx) (target:Expr) (t:TG):Prop:=
  ∀(pins:List (Addr×Obj)) (s:Shared) (σ:St) (H:Hp) (v:V) (u:Value) (Q:St→Hp→Prop),Inv X pins σ H s→RelV v u→t v σ H Q→
    wpAny (model X.prog X.w) X.A (assign target X.env u) (fun _ s'=>∃σ' H',Inv X pins σ' H' s'∧Q σ' H') X.xe s
def PGs (X:Cx) (ts:List Expr) (t:TGs):Prop:=
  ∀(pins:List (Addr×Obj)) (s:Shared) (σ:St) (H:Hp) (vs:List V) (us:List Value) (Q:St→Hp→Prop),Inv X pins σ H s→Vals vs us→t vs σ H Q→
    wpAny (model X.prog X.w) X.A (assignInOrder ((assignEach ts X.env).map (·.2)) us) (fun _ s'=>∃σ' H',Inv X pins σ' H' s'∧Q σ' H') X.xe s
section
variable {X:Cx} {pos:Pos}
def Zlf (i:Nat):TG:=fun v σ H Q=>Q (σ.set i (some v)) H
theorem Zfz {i:Nat} {x:Str} (hN:X.N.Nodup) (hi:X.N[i]?=some x) (hx:Loc X.env.scope x) (hf:X.fn x=true∨X.env.scope.names.lookup x=some .local:=by first | exact .inl rfl | exact .inr rfl | assumption):PG X (.Name x pos) (Zlf i):=by
  intro pins s σ H v u Q I r h
  exact wpAny_assign_Name (ZkF I hN hi hx r (fun s' I'=>⟨_,H,I',h⟩) hf)
def Zy2:TGs:=fun vs σ H Q=>vs=[]∧Q σ H
def ZvA (t:TG) (u:TGs):TGs:=fun vs σ H Q=>∃v r,vs=v::r∧t v σ H fun σ' H'=>u r σ' H' Q
theorem Zrq:PGs X [] Zy2:=by
  intro pins s σ H vs us Q I r h
  obtain ⟨e,h⟩:=h
  subst e
  cases r
  exact assignInOrder_nil ⟨σ,H,I,h⟩
theorem ZkN {e:Expr} {es:List Expr} {t:TG} {u:TGs} (h1:PG X e t) (h2:PGs X es u)
    (hs:(assignEach (e::es) X.env).map (·.2)=assign e X.env::(assignEach es X.env).map (·.2):=by rfl):PGs X (e::es) (ZvA t u):=by
  intro pins s σ H vs us Q I r h
  obtain ⟨v,vr,e1,h⟩:=h
  subst e1
  cases r with
  | cons r rr=>
    rw [hs]
    refine assignInOrder_cons (thn (h1 pins s σ H _ _ _ I r h) fun _ s1 ⟨σ1,H1,I1,q1⟩=>?_)
    exact h2 pins s1 σ1 H1 _ _ Q I1 rr q1
def Zy1 (K:PySem.W.Frag) (n:Nat) (t:TGs):TG:=fun v σ H Q=>∃a xs,v=.ref a∧SqT K H a xs∧xs.length=n∧t xs σ H Q
theorem Zts {es:List Expr} {k:Nat} {t:TGs} {n:Nat} (hc:X.calm=true) (h:PGs X es t)
    (hn:(assignEach es X.env).length=n:=by rfl) (hst:(assignEach es X.env).findIdx? (·.1)=none:=by rfl):PG X (.Tuple es k pos) (Zy1 X.K n t):=by
  intro pins s σ H v u Q I r hw
  obtain ⟨a,xs,e1,hq,hl,hw⟩:=hw
  subst e1
  cases r
  obtain ⟨its,rv,ht,hz⟩:=I.tuple hq
  refine assign_Tuple_tuple (I.ok.hd hc) ht (by simp [hn,←hl,rv.length]) hst fun h' hx=>?_
  have I1:Inv X pins σ H { s with heap:=h' }:=I.kept (t':=s.toks) fun b o e=>hx b o (Nat.ne_of_lt (Heap.lt_size e)) e
  exact h pins _ σ H xs _ Q I1 (by simpa using rv) hw
def ZuP (te:TE) (g:TG):TS:=fun D σ H=>te σ H fun x H1=>g x σ H1 D.nx
theorem Zpo {i:Nat} {x:Str} {e:Expr} {te:TE} {pos':Pos} (hN:X.N.Nodup) (hi:X.N[i]?=some x) (hx:Loc X.env.scope x) (he:PE X e te) (hs:swapsWith e (some (.Name x pos')) pos.line X.env=pure false:=by rfl) (hf:X.fn x=true∨X.env.scope.names.lookup x=some .local:=by first | exact .inl rfl | exact .inr rfl | assumption) :
    PS X (.Assign [.Name x pos'] e pos) (ZuP te (Zlf i)):=by
  intro pins s σ H D I h
  refine wpAny_Assign_Name (thn (he pins s σ H _ I h) fun v s1 ⟨y,H1,I1,r1,q1⟩=>?_) hs
  exact ZkF I1 hN hi hx r1 (fun s2 I2=>⟨_,H1,I2,q1⟩) hf
end
section
variable {X:Cx} {pos:Pos}
def Zs5 (c:TT) (tb:TS):TS:=fun D σ H=>∃W:Nat→St→Hp→Prop,(∃m,W m σ H)∧∀m σ H,W m σ H→
  c σ H fun b H1=>if b=true then ∃N:St→Hp→Prop,(∀σ' H',N σ' H'→∃m',m'<m∧W m' σ' H')∧tb { D with nx:=N,ct:=N,bk:=D.nx } σ H1 else D.nx σ H1
theorem Zpn {c:Expr} {body:List Stmt} {tc:TT} {tb:TS} (hp:PassesOwn (model X.prog X.w) X.A X.env X.xe) (hc:PT X c tc) (hb:PSs X body tb):PS X (.While c body [] pos) (Zs5 tc tb):=by
  intro pins s σ H D I h
  obtain ⟨W,⟨m0,w0⟩,turn⟩:=h
  refine wpAny_While (codeAny_whileLoop (fun n s'=>∃σ' H',Inv X pins σ' H' s'∧W n σ' H') ?_ m0 ⟨σ,H,I,w0⟩)
  rintro n s1 ⟨σ1,H1,I1,w1⟩
  refine wpAny_passesOwn hp (thn (hc pins s1 σ1 H1 _ I1 (turn n σ1 H1 w1)) fun b s2 ⟨H2,I2,q2⟩=>?_)
  cases b with
  | true=>
    obtain ⟨N,hN,q2⟩:=q2
    rw [if_pos rfl]
    refine wpAny_passesOwn hp (thn (hb pins s2 σ1 H2 _ I2 q2) fun f s3 q3=>?_)
    cases f with
    | next=>
      obtain ⟨σ3,H3,I3,n3⟩:=q3
      obtain ⟨m',hm,w3⟩:=hN σ3 H3 n3
      exact ⟨m',hm,σ3,H3,I3,w3⟩
    | cont=>
      obtain ⟨σ3,H3,I3,n3⟩:=q3
      obtain ⟨m',hm,w3⟩:=hN σ3 H3 n3
      exact ⟨m',hm,σ3,H3,I3,w3⟩
    | brk=>exact q3
    | ret v=>exact q3
  | false=>
    rw [if_neg Bool.false_ne_true]
    exact wpAny_execs_nil ⟨σ1,H2,I2,q2⟩
end
structure It where
  go:Nat→Hp→Prop
  yld:Nat→Hp→V→Hp→Prop
  stop:Nat→Hp→Prop
def Zh5 (X:Cx) (pins:List (Addr×Obj)) (H:Hp) (b:Addr):Prop:=
  H b=none∧b≠X.env.locals∧b∉X.fs∧(b∈X.ex∨X.s₀.heap.objs.size≤b)∧(∀x c,X.env.cells.lookup x=some c→c≠b)∧∀p∈X.pn++pins,p.1≠b
theorem Inv.fpOk {X:Cx} {pins:List (Addr×Obj)} {σ:St} {H H':Hp} {s:Shared} {b:Addr} (I:Inv X pins σ H s) (hb:s.heap.objs.size≤b) (hn:H' b=none):Zh5 X pins H' b:=by
  refine ⟨hn,Nat.ne_of_gt (Nat.lt_of_lt_of_le I.lt hb),I.nofs hb,.inr (Nat.le_trans I.sz hb),fun x c e z=>?_,fun p hp z=>?_⟩
  · obtain ⟨v,q⟩:=I.cell x c e
    exact absurd (Nat.lt_of_lt_of_le q.lt (by rw [z]; exact hb)) (Nat.lt_irrefl _)
  · exact absurd (Nat.lt_of_lt_of_le (Heap.lt_size (I.pin p hp).1) (by rw [z]; exact hb)) (Nat.lt_irrefl _)
structure ZnF (P:Program) (w:World) (K:PySem.W.Frag) (tg:Expr) (J:It) (fp:List Addr) (it:Addr) (tn:Nat→Heap→Prop):Prop where
  mem:it∈fp
  obj:∀i h,tn i h→∀b∈fp,∃o,h.get? b=some o∧∀v,o.data≠.cell v
  keep:∀i h h',tn i h→(∀b∈fp,∀o,h.get? b=some o→h'.get? b=some o)→tn i h'
  item:∀(X:Cx),X.prog=P→X.w=w→X.K=K→X.calm=true→∀(i:Nat) (pins:List (Addr×Obj)) (s:Shared) (σ:St) (H:Hp) (E:Value→Shared→Prop),Inv X pins σ H s→(∀b∈fp,Zh5 X pins H b)→tn i s.heap→J.go i H→
    wpAny (model P w) X.A (pyNext (.ref it)) (fun r s1=>∃u,r=some u∧
      wpAny (model P w) X.A (letOwnedTupleGo tg (.ref it) u) (fun _ s2=>∃x H',Inv X pins σ H' s2∧RelV x u∧J.yld i H x H'∧tn (i+1) s2.heap∧∀b∈fp,H' b=none) E s1) E s
  done:∀(X:Cx),X.prog=P→X.w=w→X.K=K→X.calm=true→∀(i:Nat) (pins:List (Addr×Obj)) (s:Shared) (σ:St) (H:Hp) (E:Value→Shared→Prop),Inv X pins σ H s→(∀b∈fp,Zh5 X pins H b)→tn i s.heap→J.stop i H→
    wpAny (model P w) X.A (pyNext (.ref it)) (fun r s1=>r=none∧Inv X pins σ H s1) E s
  self:∀(A:Around) (i:Nat) (s:Shared) (Q:Value→Shared→Prop) (E:Value→Shared→Prop),tn i s.heap→Q (.ref it) s→wpAny (model P w) A (pyIter (.ref it)) Q E s
abbrev TI:=St→Hp→(It→Hp→Prop)→Prop
def PIE (X:Cx) (pins:List (Addr×Obj)) (σ:St) (tg:Expr) (R:It→Hp→Prop) (itv:Value) (s2:Shared):Prop:=
  ∃(it:Addr) (fp:List Addr) (tn:Nat→Heap→Prop) (J:It) (H':Hp),itv=.ref it∧Inv X pins σ H' s2∧ZnF X.prog X.w X.K tg J fp it tn∧tn 0 s2.heap∧(∀b∈fp,Zh5 X pins H' b)∧R J H'
def PI (X:Cx) (tg iter:Expr) (wi:TI):Prop:=
  ∀(pins:List (Addr×Obj)) (s:Shared) (σ:St) (H:Hp) (R:It→Hp→Prop),Inv X pins σ H s→wi σ H R→
    wpAny (model X.prog X.w) X.A (eval iter X.env) (fun v s1=>wpAny (model X.prog X.w) X.A (pyIter v) (PIE X pins σ tg R) X.xe s1) X.xe s
theorem Zqd {M:Model} {A:Around} {E:Value→Shared→Prop} {s:Shared} {tg:Expr} {it:Addr} {u:Value} {o:Obj} {n:String} {vs:Array Value} {Q:Unit→Shared→Prop} (ho:s.heap.get? it=some o) (hc:o.cls=.type n) (hd:o.data=.fields vs)
    (hn:["enumerate","zip","dict_itemiterator","dict_reverseitemiterator","odict_iterator","itertools.zip_longest","itertools.pairwise"].contains n=false) (hQ:Q () s):wpAny M A (letOwnedTupleGo tg (.ref it) u) Q E s:=by
  unfold letOwnedTupleGo
  cases tg<;>first
    | exact wpAny_pure hQ
    | (cases u<;>first
        | exact wpAny_pure hQ
        | (refine wpAny_bind (wpAny_load ho ?_)
           rw [hc,hd]
           show wpAny M A (if (["enumerate","zip","dict_itemiterator","dict_reverseitemiterator","odict_iterator","itertools.zip_longest","itertools.pairwise"].contains n && vs[0]? == some (rawInt _))=true then _ else _) Q E s
           rw [if_neg (by intro h; rw [hn,Bool.false_and] at h; cases h)]
           exact wpAny_pure hQ))
def Itl (K:PySem.W.Frag) (a:Addr):It:=
  ⟨fun i H=>∃xs x,SqL K H a xs∧xs[i]?=some x,fun i H x H'=>H'=H∧∀xs,SqL K H a xs→xs[i]?=some x,fun i H=>∃xs,SqL K H a xs∧xs.length≤i⟩
def Itt (K:PySem.W.Frag) (a:Addr):It:=
  ⟨fun i H=>∃xs x,SqT K H a xs∧xs[i]?=some x,fun i H x H'=>H'=H∧∀xs,SqT K H a xs→xs[i]?=some x,fun i H=>∃xs,SqT K H a xs∧xs.length≤i⟩
def Itr (lo:Int) (n:Nat):It:=⟨fun i _=>i<n,fun i H x H'=>H'=H∧x=.int (lo+i),fun i _=>n≤i⟩
theorem Zm0 {P:Program} {w:World} {K:PySem.W.Frag} {tg:Expr} (a it:Addr):ZnF P w K tg (Itl K a) [it] it (fun i h=>h.IsListIter it a i) where
  mem:=by simp
  obj:=fun i h st b hb=>by
    have e:b=it:=by simpa using hb
    subst e
    obtain ⟨o,e,c,d⟩:=st
    exact ⟨o,e,fun v z=>by rw [d] at z; cases z⟩
  keep:=fun i h h' st k=>st.at fun o e=>k it (by simp) o e
  item:=by
    intro X hP hw hK hc i pins s σ H E I hf st hg
    subst hP hw hK
    obtain ⟨xs,x,hq,hx⟩:=hg
    obtain ⟨its,rv,p,hz⟩:=I.list hq
    obtain ⟨u,hu,ru⟩:=rv.get hx
    obtain ⟨f0,f1,f2,f3,f4,f5⟩:=hf it (by simp)
    refine wpAny_pyNext_list_item st p.isList (x:=u) (by simpa using hu) fun h' st' sb=>?_
    have I1:Inv X pins σ H { s with heap:=h' }:=I.turned (t':=s.toks) (fun b o hb e=>(sb.2 b hb).trans e) f0 f1 f3 f4 f5
    obtain ⟨o,e,c,d⟩:=id st'
    exact ⟨u,rfl,Zqd (s:={ s with heap:=h' }) e c d (by decide) ⟨x,H,I1,ru,⟨rfl,fun ys hy=>by rw [I.list_inj hy hq]; exact hx⟩,st',fun b hb=>(hf b hb).1⟩⟩
  done:=by
    intro X hP hw hK hc i pins s σ H E I hf st hg
    subst hP hw hK
    obtain ⟨xs,hq,hx⟩:=hg
    obtain ⟨its,rv,p,hz⟩:=I.list hq
    obtain ⟨f0,f1,f2,f3,f4,f5⟩:=hf it (by simp)
    have hl:=rv.length
    exact wpAny_pyNext_list_end (I.ok.hd hc) st p.isList (by simp; omega) fun h' eb=>⟨rfl,I.turned (t':=s.toks) (fun b o hb e=>eb b o hb e) f0 f1 f3 f4 f5⟩
  self:=fun _ _ _ _ _ st h=>wpAny_pyIter_listiter st h
theorem Zlz {P:Program} {w:World} {K:PySem.W.Frag} {tg:Expr} (a it:Addr):ZnF P w K tg (Itt K a) [it] it (fun i h=>h.IsTupleIter it a i) where
  mem:=by simp
  obj:=fun i h st b hb=>by
    have e:b=it:=by simpa using hb
    subst e
    obtain ⟨o,e,c,d⟩:=st
    exact ⟨o,e,fun v z=>by rw [d] at z; cases z⟩
  keep:=fun i h h' st k=>st.at fun o e=>k it (by simp) o e
  item:=by
    intro X hP hw hK hc i pins s σ H E I hf st hg
    subst hP hw hK
    obtain ⟨xs,x,hq,hx⟩:=hg
    obtain ⟨its,rv,p,hz⟩:=I.tuple hq
    obtain ⟨u,hu,ru⟩:=rv.get hx
    obtain ⟨f0,f1,f2,f3,f4,f5⟩:=hf it (by simp)
    refine wpAny_pyNext_tuple_item st (show s.heap.IsTuple a its.toArray from p) (x:=u) (by simpa using hu) fun h' st' sb=>?_
    have I1:Inv X pins σ H { s with heap:=h' }:=I.turned (t':=s.toks) (fun b o hb e=>(sb.2 b hb).trans e) f0 f1 f3 f4 f5
    obtain ⟨o,e,c,d⟩:=id st'
    exact ⟨u,rfl,Zqd (s:={ s with heap:=h' }) e c d (by decide) ⟨x,H,I1,ru,⟨rfl,fun ys hy=>by rw [I.tuple_inj hy hq]; exact hx⟩,st',fun b hb=>(hf b hb).1⟩⟩
  done:=by
    intro X hP hw hK hc i pins s σ H E I hf st hg
    subst hP hw hK
    obtain ⟨xs,hq,hx⟩:=hg
    obtain ⟨its,rv,p,hz⟩:=I.tuple hq
    obtain ⟨f0,f1,f2,f3,f4,f5⟩:=hf it (by simp)
    have hl:=rv.length
    exact wpAny_pyNext_tuple_end (I.ok.hd hc) st (show s.heap.IsTuple a its.toArray from p) (by simp; omega) fun h' eb=>⟨rfl,I.turned (t':=s.toks) (fun b o hb e=>eb b o hb e) f0 f1 f3 f4 f5⟩
  self:=fun _ _ _ _ _ st h=>wpAny_pyIter_tupleiter st h
theorem ZlA {P:Program} {w:World} {K:PySem.W.Frag} {tg:Expr} (it:Addr) (lo:Int) (n:Nat):ZnF P w K tg (Itr lo n) [it] it (fun i h=>IsRangeIter h it (lo+(i:Nat)*1) ((n:Int)-(i:Nat)) 1) where
  mem:=by simp
  obj:=fun i h st b hb=>by
    have e:b=it:=by simpa using hb
    subst e
    exact ⟨_,st,fun v z=>by
      have z':Data.fields _=Data.cell v:=z
      cases z'⟩
  keep:=fun i h h' st k=>k it (by simp) _ st
  item:=by
    intro X hP hw hK hc i pins s σ H E I hf st hg
    subst hP hw hK
    obtain ⟨f0,f1,f2,f3,f4,f5⟩:=hf it (by simp)
    have W:=Walks.range (prog:=X.prog) (w:=X.w) (I.ok.hd hc) it lo 1 n
    refine W.item i s _ _ hg st fun v h' tk hv st' kk=>?_
    obtain ⟨t,rfl⟩:=hv
    have I1:Inv X pins σ H { s with heap:=h',toks:=tk }:=I.turned (fun b o hb e=>kk b o (by simpa using hb) e) f0 f1 f3 f4 f5
    refine ⟨_,rfl,Zqd (s:={ s with heap:=h',toks:=tk }) (n:="range_iterator") st' rfl rfl (by decide) ⟨.int (lo+i),H,I1,⟨t,?_⟩,⟨rfl,rfl⟩,st',fun b hb=>(hf b hb).1⟩⟩
    rw [Int.mul_one]
  done:=by
    intro X hP hw hK hc i pins s σ H E I hf st hg
    subst hP hw hK
    obtain ⟨f0,f1,f2,f3,f4,f5⟩:=hf it (by simp)
    exact wpAny_pyNext_range_end (I.ok.hd hc) st (by have:n≤i:=hg; omega) fun h' eb=>⟨rfl,I.turned (t':=s.toks) (fun b o hb e=>eb b o hb e) f0 f1 f3 f4 f5⟩
  self:=fun _ _ _ _ _ st h=>wpAny_pyIter_rangeiter st h
end L2
namespace L2
open PySem PySem.Spec PyProof.Rows
section
variable {X:Cx} {tg:Expr}
theorem Zph {pins:List (Addr×Obj)} {σ:St} {H:Hp} {s:Shared} {R:It→Hp→Prop} {E:Value→Shared→Prop} {lo hi:Int} {t u v:Tok} {tk:Nat} (I:Inv X pins σ H s) (h1 : -(2 ^ 62)≤lo) (h2:lo<2 ^ 62) (h3 : -(2 ^ 62)≤hi) (h4:hi<2 ^ 62)
    (q:R (Itr lo (hi-lo).toNat) H):wpAny (model X.prog X.w) X.A (pyIter (.ref s.heap.objs.size)) (PIE X pins σ tg R) E { s with heap:=s.heap.push { cls:=.type "range",data:=.fields #[.int lo t,.int hi u,.int 1 v] },toks:=tk }:=by
  refine wpAny_pyIter_range (IsRange.new ..) (small_one h1 h2 h3 h4) ?_
  have I1:Inv X pins σ H { s with heap:=s.heap.push { cls:=.type "range",data:=.fields #[.int lo t,.int hi u,.int 1 v] },toks:=tk }:=I.kept fun b o e=>Heap.get?_push_of_some _ e
  refine ⟨(s.heap.push { cls:=.type "range",data:=.fields #[.int lo t,.int hi u,.int 1 v] }).objs.size,[(s.heap.push { cls:=.type "range",data:=.fields #[.int lo t,.int hi u,.int 1 v] }).objs.size],_,_,H,rfl,
    I1.kept (t':=tk) fun b o e=>Heap.get?_push_of_some _ e,ZlA _ lo (hi-lo).toNat,?_,fun b hb=>?_,q⟩
  · have e1:lo+((0:Nat):Int)*1=lo:=by simp
    have e2:(((hi-lo).toNat:Nat):Int)-((0:Nat):Int)=Builtin.Range.rangeSize lo hi 1:=by rw [rangeSize_one]; split<;>omega
    show IsRangeIter _ _ (lo+((0:Nat):Int)*1) ((((hi-lo).toNat:Nat):Int)-((0:Nat):Int)) 1
    rw [e1,e2]
    exact Heap.get?_push_size _ rfl
  · have e:b=(s.heap.push { cls:=.type "range",data:=.fields #[.int lo t,.int hi u,.int 1 v] }).objs.size:=by simpa using hb
    subst e
    exact I1.fpOk (Nat.le_refl _) (I1.hok.fresh (Nat.le_refl _))
def Zvw (ta:TA):TI:=fun σ H R=>ta σ H fun vs H1=>∃j:Int,vs=[.int j]∧-(2 ^ 62)≤j∧j<2 ^ 62∧R (Itr 0 j.toNat) H1
theorem Zne {a:Expr} {ta:TA} {p pos:Pos} (hg:Gl X "range") (hm:X.mg "range"=none) (ha:PA X [a] ta) (hs:starEach [a] X.env=[(false,eval a X.env)]:=by rfl):PI X tg (.Call (.Name "range" p) [a] [] pos) (Zvw ta):=by
  intro pins s σ H R I h
  refine Call_ (Zhs I hg hm boot_range (PyProof.Rows.callWith_type1 (thn (ha pos pins s σ H _ I h) fun us s1 ⟨vs,H1,I1,r1,q1⟩=>?_) hs rfl))
  obtain ⟨j,e,q1,q2,q⟩:=q1
  subst e
  cases r1 with
  | cons r rr=>
    cases rr
    obtain ⟨t,rfl⟩:=r
    exact call_range_1 (Zph I1 (by omega) (by omega) q1 q2 (by simpa using q))
def Zyv (wi:TI) (g:TG) (tb:TS):TS:=fun D σ H=>wi σ H fun J H1=>∃W:Nat→Nat→St→Hp→Prop,(∃m,W 0 m σ H1)∧∀i m σ H,W i m σ H→
  (J.stop i H∧D.nx σ H)∨(J.go i H∧∃N:St→Hp→Prop,(∀σ' H',N σ' H'→∃m',m'<m∧W (i+1) m' σ' H')∧∀x H',J.yld i H x H'→g x σ H' fun σ2 H2=>tb { D with nx:=N,ct:=N,bk:=D.nx } σ2 H2)
def ZiQ (fp:List Addr) (h:Heap):List (Addr×Obj):=fp.filterMap fun b=>(h.get? b).map fun o=>(b,o)
theorem Zd2 {fp:List Addr} {h:Heap} {b:Addr} {o:Obj} (hb:b∈fp) (e:h.get? b=some o):(b,o)∈ZiQ fp h:=List.mem_filterMap.mpr ⟨b,hb,by rw [e]; rfl⟩
theorem Zni {fp:List Addr} {h:Heap} {p:Addr×Obj} (hp:p∈ZiQ fp h):p.1∈fp∧h.get? p.1=some p.2:=by
  obtain ⟨b,hb,e⟩:=List.mem_filterMap.mp hp
  cases q:h.get? b with
  | none=>rw [q] at e; cases e
  | some o=>
    rw [q] at e
    have e':(b,o)=p:=Option.some.inj e
    subst e'
    exact ⟨hb,q⟩
theorem Inv.pinned {pins:List (Addr×Obj)} {σ:St} {H:Hp} {s:Shared} {fp:List Addr} (I:Inv X pins σ H s) (hf:∀b∈fp,Zh5 X pins H b) (ho:∀b∈fp,∃o,s.heap.get? b=some o∧∀v,o.data≠.cell v):Inv X (pins++ZiQ fp s.heap) σ H s:=
  I.pins_of fun p hp=>(List.mem_append.mp hp).elim (fun z=>I.pin p (List.mem_append_right _ z)) fun z=>by
    obtain ⟨hb,e⟩:=Zni z
    obtain ⟨f0,f1,f2,_⟩:=hf p.1 hb
    obtain ⟨o,e',d⟩:=ho p.1 hb
    rw [e] at e'; cases e'
    exact ⟨e,f0,f1,f2,d⟩
theorem Inv.unpinned {pins pl:List (Addr×Obj)} {σ:St} {H:Hp} {s:Shared} (I:Inv X (pins++pl) σ H s):Inv X pins σ H s:=I.pins_of fun p hp=>I.pin p (List.mem_append_right _ (List.mem_append_left _ hp))
theorem Zpp {iter:Expr} {body:List Stmt} {wi:TI} {g:TG} {tb:TS} {pos:Pos} (hp:PassesOwn (model X.prog X.w) X.A X.env X.xe) (hc:X.calm=true) (hi:PI X tg iter wi) (hg:PG X tg g) (hb:PSs X body tb)
    (hs:∀x,foldedSetIterable iter X.env x=pure x:=by intro _; rfl):PS X (.For tg iter body [] pos) (Zyv wi g tb):=by
  intro pins s σ H D I h
  refine wpAny_For (thn (hi pins s σ H _ I h) fun v s1 h1=>thn h1 fun itv s2 h2=>?_) hs
  obtain ⟨it,fp,tn,J,H2,e,I2,T,st2,f2,W,⟨m0,w0⟩,turn⟩:=h2
  subst e
  have stat:∀{H':Hp},(∀b∈fp,H' b=none)→∀b∈fp,Zh5 X pins H' b:=fun hn b hb=>⟨hn b hb,(f2 b hb).2⟩
  refine codeAny_forLoop_any (fun n s'=>∃i σ' H',Inv X pins σ' H' s'∧tn i s'.heap∧(∀b∈fp,H' b=none)∧W i n σ' H') ?_ m0 ⟨0,σ,H2,I2,st2,fun b hb=>(f2 b hb).1,w0⟩
  rintro n s3 ⟨i,σ3,H3,I3,st3,fr3,w3⟩
  rcases turn i n σ3 H3 w3 with ⟨stop,qn⟩ | ⟨go,N,hN,step⟩
  · refine wpAny_passesOwn hp (thn (T.done X rfl rfl rfl hc i pins s3 σ3 H3 X.xe I3 (stat fr3) st3 stop) fun r s4 ⟨hr,I4⟩=>?_)
    subst hr
    exact wpAny_execs_nil ⟨σ3,H3,I4,qn⟩
  · refine wpAny_passesOwn hp (thn (T.item X rfl rfl rfl hc i pins s3 σ3 H3 X.xe I3 (stat fr3) st3 go) fun r s4 ⟨u,hr,h4⟩=>?_)
    subst hr
    refine wpAny_passesOwn hp (thn h4 fun _ s5 ⟨x,H5,I5,r5,y5,st5,fr5⟩=>?_)
    have I5':=I5.pinned (stat fr5) (T.obj _ _ st5)
    refine wpAny_passesOwn hp (thn (hg _ s5 σ3 H5 x u _ I5' r5 (step x H5 y5)) fun _ s6 ⟨σ6,H6,I6,q6⟩=>?_)
    refine wpAny_passesOwn hp (thn (hb _ s6 σ6 H6 _ I6 q6) fun f s7 q7=>?_)
    have again:∀{σ7:St} {H7:Hp},Inv X (pins++ZiQ fp s5.heap) σ7 H7 s7→N σ7 H7→∃m,m<n∧∃i σ' H',Inv X pins σ' H' s7∧tn i s7.heap∧(∀b∈fp,H' b=none)∧W i m σ' H':=fun {σ7 H7} I7 n7=>by
      obtain ⟨m',hm,w7⟩:=hN σ7 H7 n7
      refine ⟨m',hm,i+1,σ7,H7,I7.unpinned,T.keep _ _ _ st5 fun b hb o e=>(I7.pin (b,o) (List.mem_append_right _ (List.mem_append_right _ (Zd2 hb e)))).1,fun b hb=>?_,w7⟩
      obtain ⟨o,e,d⟩:=T.obj _ _ st5 b hb
      exact (I7.pin (b,o) (List.mem_append_right _ (List.mem_append_right _ (Zd2 hb e)))).2.1
    cases f with
    | next=>obtain ⟨σ7,H7,I7,n7⟩:=q7; exact again I7 n7
    | cont=>obtain ⟨σ7,H7,I7,n7⟩:=q7; exact again I7 n7
    | brk=>obtain ⟨σ7,H7,I7,q7⟩:=q7; exact ⟨σ7,H7,I7.unpinned,q7⟩
    | ret v=>obtain ⟨x7,σ7,H7,I7,r7,q7⟩:=q7; exact ⟨x7,σ7,H7,I7.unpinned,r7,q7⟩
end
end L2
namespace L2
open PySem PySem.Spec PyProof.Rows
abbrev R2:=V→V→Hp→VK→Prop
def OpR (X:Cx) (f:Value→Value→Sem Value) (r:R2):Prop:=
  ∀(pins:List (Addr×Obj)) (s:Shared) (σ:St) (H:Hp) (x y:V) (v u:Value) (Q:VK),Inv X pins σ H s→RelV x v→RelV y u→r x y H Q→
    wpAny (model X.prog X.w) X.A (f v u) (EP X pins σ Q) X.xe s
def UnR (X:Cx) (f:Value→Sem Value) (r:V→Hp→VK→Prop):Prop:=
  ∀(pins:List (Addr×Obj)) (s:Shared) (σ:St) (H:Hp) (x:V) (v:Value) (Q:VK),Inv X pins σ H s→RelV x v→r x H Q→
    wpAny (model X.prog X.w) X.A (f v) (EP X pins σ Q) X.xe s
def CallR (X:Cx) (f:Value) (r:List V→Hp→VK→Prop):Prop:=
  ∀(pins:List (Addr×Obj)) (s:Shared) (σ:St) (H:Hp) (xs:List V) (us:List Value) (Q:VK),Inv X pins σ H s→Vals xs us→r xs H Q→
    wpAny (model X.prog X.w) X.A (call f us) (EP X pins σ Q) X.xe s
def Zy9 (X:Cx) (r:V→Hp→(Bool→Hp→Prop)→Prop):Prop:=
  ∀(pins:List (Addr×Obj)) (s:Shared) (σ:St) (H:Hp) (x:V) (v:Value) (Q:Bool→Hp→Prop),Inv X pins σ H s→RelV x v→r x H Q→
    wpAny (model X.prog X.w) X.A (truthy v) (TP X pins σ Q) X.xe s
def tOp (r:R2) (ta tb:TE):TE:=fun σ H Q=>ta σ H fun x H1=>tb σ H1 fun y H2=>r x y H2 Q
def tUn (r:V→Hp→VK→Prop) (ta:TE):TE:=fun σ H Q=>ta σ H fun x H1=>r x H1 Q
def rI (C:Int→Int→Prop) (g:Int→Int→V):R2:=fun x y H Q=>∃i j,x=.int i∧y=.int j∧C i j∧Q (g i j) H
def rI0 (g:Int→Int→V):R2:=fun x y H Q=>∃i j,x=.int i∧y=.int j∧Q (g i j) H
def rU (g:Int→V):V→Hp→VK→Prop:=fun x H Q=>∃i,x=.int i∧Q (g i) H
section
variable {X:Cx} {a b c:Expr} {ta tb tc:TE} {pos:Pos}
theorem ZtX (ha:PE X a ta) (hb:PE X b tb) {pins:List (Addr×Obj)} {s:Shared} {σ:St} {H:Hp} {R:V→V→Hp→Prop} (I:Inv X pins σ H s)
    (h:ta σ H fun x H1=>tb σ H1 fun y H2=>R x y H2) {Q:Value→Shared→Prop} {f:Value→Value→Sem Value}
    (hf:∀v u s2 x y H2,Inv X pins σ H2 s2→RelV x v→RelV y u→R x y H2→wpAny (model X.prog X.w) X.A (f v u) Q X.xe s2) :
    wpAny (model X.prog X.w) X.A (eval a X.env) (fun v s₁=>wpAny (model X.prog X.w) X.A (eval b X.env) (fun u s₂=>wpAny (model X.prog X.w) X.A (f v u) Q X.xe s₂) X.xe s₁) X.xe s:=by
  refine thn (ha pins s σ H _ I h) fun v s1 ⟨x,H1,I1,r1,q1⟩=>?_
  refine thn (hb pins s1 σ H1 _ I1 q1) fun u s2 ⟨y,H2,I2,r2,q2⟩=>?_
  exact hf v u s2 x y H2 I2 r1 r2 q2
theorem Zu8 {op:Operator} {r:R2} (ho:OpR X (binaryOp op) r) (ha:PE X a ta) (hb:PE X b tb):PE X (.BinOp a op b pos) (tOp r ta tb):=by
  intro pins s σ H Q I h
  exact wpAny_BinOp (ZtX ha hb I h fun v u s2 x y H2 I2 rx ry q=>ho pins s2 σ H2 x y v u Q I2 rx ry q)
theorem Zu5 {op:UnaryOp} {r:V→Hp→VK→Prop} (ho:UnR X (unaryOp op) r) (ha:PE X a ta):PE X (.UnaryOp op a pos) (tUn r ta):=by
  intro pins s σ H Q I h
  exact UnaryOp_ (thn (ha pins s σ H _ I h) fun v s1 ⟨x,H1,I1,r1,q1⟩=>ho pins s1 σ H1 x v Q I1 r1 q1)
theorem opI {f:Value→Value→Sem Value} {C:Int→Int→Prop} {g:Int→Int→Int}
    (rule:∀(i j:Int) (t u:Tok) (s:Shared) (Q:Value→Shared→Prop) (E:Value→Shared→Prop),C i j→Q (.int (g i j) s.toks) { s with toks:=s.toks+1 }→wpAny (model X.prog X.w) X.A (f (.int i t) (.int j u)) Q E s) :
    OpR X f (rI C fun i j=>.int (g i j)):=by
  intro pins s σ H x y v u Q I rx ry h
  obtain ⟨i,j,rfl,rfl,hc,q⟩:=h
  obtain ⟨t,rfl⟩:=rx
  obtain ⟨t',rfl⟩:=ry
  exact rule i j t t' s _ _ hc ⟨.int (g i j),H,I.tok _,⟨_,rfl⟩,q⟩
theorem ZtI {f:Value→Value→Sem Value} {g:Int→Int→Int}
    (rule:∀(i j:Int) (t u:Tok) (s:Shared) (Q:Value→Shared→Prop) (E:Value→Shared→Prop),Q (.int (g i j) s.toks) { s with toks:=s.toks+1 }→wpAny (model X.prog X.w) X.A (f (.int i t) (.int j u)) Q E s) :
    OpR X f (rI0 fun i j=>.int (g i j)):=by
  intro pins s σ H x y v u Q I rx ry h
  obtain ⟨i,j,rfl,rfl,q⟩:=h
  obtain ⟨t,rfl⟩:=rx
  obtain ⟨t',rfl⟩:=ry
  exact rule i j t t' s _ _ ⟨.int (g i j),H,I.tok _,⟨_,rfl⟩,q⟩
theorem Zrx {f:Value→Value→Sem Value} {g:Int→Int→Bool}
    (rule:∀(i j:Int) (t u:Tok) (s:Shared) (Q:Value→Shared→Prop) (E:Value→Shared→Prop),Q (.bool (g i j)) s→wpAny (model X.prog X.w) X.A (f (.int i t) (.int j u)) Q E s) :
    OpR X f (rI0 fun i j=>.bl (g i j)):=by
  intro pins s σ H x y v u Q I rx ry h
  obtain ⟨i,j,rfl,rfl,q⟩:=h
  obtain ⟨t,rfl⟩:=rx
  obtain ⟨t',rfl⟩:=ry
  exact rule i j t t' s _ _ ⟨.bl (g i j),H,I,rfl,q⟩
def CMul (i j:Int):Prop:=(-(2 ^ 64)<i∧i<2 ^ 64)∨(-(2 ^ 64)<j∧j<2 ^ 64)
theorem CMul.ok {i j:Int} (h:CMul i j):IntMulOk i j:=by
  rcases h with ⟨h1,h2⟩ | ⟨h1,h2⟩
  · exact .of_left (intBits_le_64 h1 h2)
  · exact .of_right (intBits_le_64 h1 h2)
theorem op_add:OpR X (binaryOp .Add) (rI0 fun i j=>.int (i+j)):=ZtI fun _ _ _ _ _ _ _ q=>add_int q
theorem ZtA:OpR X (binaryOp .Sub) (rI0 fun i j=>.int (i-j)):=ZtI fun _ _ _ _ _ _ _ q=>sub_int q
theorem op_mul:OpR X (binaryOp .Mult) (rI CMul fun i j=>.int (i*j)):=opI fun _ _ _ _ _ _ _ hc q=>mul_int q hc.ok
theorem ZtD:OpR X (binaryOp .Mod) (rI (fun _ j=>0<j) fun i j=>.int (i % j)):=opI fun i j _ _ _ _ _ hc q=>by
  have h1:(0:Int)<j:=hc
  exact mod_int' (by omega) (by rw [Int.fmod_eq_emod_of_nonneg i (by omega)]; exact q)
theorem ZtH:OpR X (binaryOp .BitAnd) (rI0 fun i j=>.int (Builtin.bitAnd i j)):=ZtI fun _ _ _ _ _ _ _ q=>and_int q
theorem unI {f:Value→Sem Value} {g:Int→Int}
    (rule:∀(i:Int) (t:Tok) (s:Shared) (Q:Value→Shared→Prop) (E:Value→Shared→Prop),Q (.int (g i) s.toks) { s with toks:=s.toks+1 }→wpAny (model X.prog X.w) X.A (f (.int i t)) Q E s) :
    UnR X f (rU fun i=>.int (g i)):=by
  intro pins s σ H x v Q I rx h
  obtain ⟨i,rfl,q⟩:=h
  obtain ⟨t,rfl⟩:=rx
  exact rule i t s _ _ ⟨.int (g i),H,I.tok _,⟨_,rfl⟩,q⟩
theorem ZsN:UnR X (unaryOp .USub) (rU fun i=>.int (-i)):=unI fun _ _ _ _ _ q=>neg_int q
end
section
variable {X:Cx} {a b c:Expr} {ta tb tc:TE} {pos:Pos}
theorem Zqi {pins:List (Addr×Obj)} {σ:St} {H:Hp} {s:Shared} {Q:VK} {k k':Bool} (I:Inv X pins σ H s) (q:Q (.bl k) H) (e:k=k'):EP X pins σ Q (.bool k') s:=by
  subst e
  exact ⟨.bl k,H,I,rfl,q⟩
theorem Zvg:OpR X (compareOp .Lt) (rI0 fun i j=>.bl (decide (i<j))):=Zrx fun _ _ _ _ _ _ _ q=>lt_int q
theorem Zvh:OpR X (compareOp .LtE) (rI0 fun i j=>.bl (decide (i≤j))):=Zrx fun _ _ _ _ _ _ _ q=>le_int q
theorem Zvi:OpR X (compareOp .Gt) (rI0 fun i j=>.bl (decide (j<i))):=Zrx fun _ _ _ _ _ _ _ q=>gt_int q
theorem Zvj:OpR X (compareOp .GtE) (rI0 fun i j=>.bl (decide (j≤i))):=Zrx fun _ _ _ _ _ _ _ q=>ge_int q
theorem op_isN:OpR X (compareOp .Is) (fun x y H Q=>y=.non∧Q (.bl (decide (x=.non))) H):=by
  intro pins s σ H x y v u Q I rx ry h
  obtain ⟨rfl,q⟩:=h
  cases ry
  refine is_none_gen (Zqi I q ?_)
  cases x<;>first
    | (cases rx; rfl)
    | (obtain ⟨t,rfl⟩:=rx; rfl)
theorem op_notN:OpR X (compareOp .IsNot) (fun x y H Q=>y=.non∧Q (.bl (!decide (x=.non))) H):=by
  intro pins s σ H x y v u Q I rx ry h
  obtain ⟨rfl,q⟩:=h
  cases ry
  refine isnot_none_gen (Zqi I q ?_)
  cases x<;>first
    | (cases rx; rfl)
    | (obtain ⟨t,rfl⟩:=rx; rfl)
theorem OpR.or {f:Value→Value→Sem Value} {r r':R2} (h:OpR X f r) (h':OpR X f r'):OpR X f (fun x y H Q=>r x y H Q∨r' x y H Q):=by
  intro pins s σ H x y v u Q I rx ry q
  rcases q with q | q
  · exact h pins s σ H x y v u Q I rx ry q
  · exact h' pins s σ H x y v u Q I rx ry q
theorem ZpN (b:Expr) {op:CmpOp} (h:op≠.In:=by decide) (h2:op≠.NotIn:=by decide):behindInMarks op b=false:=by
  have e1:(op == CmpOp.In)=false:=by cases op<;>first | rfl | exact absurd rfl h
  have e2:(op == CmpOp.NotIn)=false:=by cases op<;>first | rfl | exact absurd rfl h2
  cases b<;>simp [behindInMarks,e1,e2]
theorem Zrt {op:CmpOp} {r:R2} (ho:OpR X (compareOp op) r) (ha:PE X a ta) (hb:PE X b tb) (hm:behindInMarks op b=false):PE X (.Compare a [op] [b] pos) (tOp r ta tb):=by
  intro pins s σ H Q I h
  exact wpAny_Compare1 (ZtX ha hb I h fun v u s2 x y H2 I2 rx ry q=>ho pins s2 σ H2 x y v u Q I2 rx ry q) hm
def Zsi (t:TE):TT:=fun σ H Q=>t σ H fun x H'=>∃k,x=.bl k∧Q k H'
theorem Zrh {op:CmpOp} {r:R2} (ho:OpR X (compareOp op) r) (ha:PE X a ta) (hb:PE X b tb) (hm:behindInMarks op b=false):PT X (.Compare a [op] [b] pos) (Zsi (tOp r ta tb)):=by
  intro pins s σ H Q I h
  refine wpAny_isTrue_Compare1 (thn (ha pins s σ H _ I h) fun v s1 ⟨x,H1,I1,r1,q1⟩=>thn (hb pins s1 σ H1 _ I1 q1) fun u s2 ⟨y,H2,I2,r2,q2⟩=>
    thn (ho pins s2 σ H2 x y v u _ I2 r1 r2 q2) fun c s3 ⟨z,H3,I3,r3,k,e,q3⟩=>?_) hm
  subst e
  cases r3
  exact wpAny_truthy_bool ⟨H3,I3,q3⟩
def ZlF (r r':R2) (ta tb tc:TE):TE:=fun σ H Q=>ta σ H fun x H1=>tb σ H1 fun y H2=>r x y H2 fun z H3=>∃k,z=.bl k∧
  (if k=true then tc σ H3 fun w' H4=>r' y w' H4 Q else Q (.bl false) H3)
theorem ZpB {op op':CmpOp} {r r':R2} (ho:OpR X (compareOp op) r) (ho':OpR X (compareOp op') r') (ha:PE X a ta) (hb:PE X b tb) (hc:PE X c tc)
    (hm:lastMarks [op,op'] [b,c]=false:=by with_unfolding_all rfl):PE X (.Compare a [op,op'] [b,c] pos) (ZlF r r' ta tb tc):=by
  intro pins s σ H Q I h
  refine Compare_chain (thn (ha pins s σ H _ I h) fun v s1 ⟨x,H1,I1,r1,q1⟩=>chain_link (thn (hb pins s1 σ H1 _ I1 q1) fun u s2 ⟨y,H2,I2,r2,q2⟩=>
    thn (ho pins s2 σ H2 x y v u _ I2 r1 r2 q2) fun d s3 ⟨z,H3,I3,r3,k,e,q3⟩=>?_)) hm
  subst e
  cases r3
  refine wpAny_truthy_bool ?_
  cases k with
  | false=>exact ite_ff ⟨.bl false,H3,I3,rfl,q3⟩
  | true=>exact ite_tt (chain_last (thn (hc pins s3 σ H3 _ I3 q3) fun w' s4 ⟨z',H4,I4,r4,q4⟩=>ho' pins s4 σ H4 y z' u w' Q I4 r2 r4 q4))
theorem Zpl {op op':CmpOp} {r r':R2} (ho:OpR X (compareOp op) r) (ho':OpR X (compareOp op') r') (ha:PE X a ta) (hb:PE X b tb) (hc:PE X c tc)
    (hm:lastMarks [op,op'] [b,c]=false:=by with_unfolding_all rfl):PT X (.Compare a [op,op'] [b,c] pos) (Zsi (ZlF r r' ta tb tc)):=by
  intro pins s σ H Q I h
  refine isTrue_chain (thn (ha pins s σ H _ I h) fun v s1 ⟨x,H1,I1,r1,q1⟩=>test_link (thn (hb pins s1 σ H1 _ I1 q1) fun u s2 ⟨y,H2,I2,r2,q2⟩=>
    thn (ho pins s2 σ H2 x y v u _ I2 r1 r2 q2) fun d s3 ⟨z,H3,I3,r3,k,e,q3⟩=>?_)) hm
  subst e
  cases r3
  refine wpAny_truthy_bool ?_
  cases k with
  | false=>
    obtain ⟨k',e',q'⟩:=q3
    cases e'
    exact ite_ff ⟨H3,I3,q'⟩
  | true=>
    refine ite_tt (test_last (thn (hc pins s3 σ H3 _ I3 q3) fun w' s4 ⟨z',H4,I4,r4,q4⟩=>thn (ho' pins s4 σ H4 y z' u w' _ I4 r2 r4 q4) fun d' s5 ⟨z2,H5,I5,r5,k2,e2,q5⟩=>?_))
    subst e2
    cases r5
    exact wpAny_truthy_bool ⟨H5,I5,q5⟩
def TruV (K:PySem.W.Frag) (x:V) (H:Hp) (k:Bool):Prop:=
  match x with
  | .non=>k=false
  | .bl b=>k=b
  | .int i=>k=(i != 0)
  | .str y=>y.length≤sizeLine∧k=((y.length:Int) != 0)
  | .byt y=>y.size≤sizeLine∧k=((y.size:Int) != 0)
  | .ref p=>(∃xs,SqL K H p xs∧k=!xs.isEmpty)∨(∃xs,SqT K H p xs∧k=!xs.isEmpty)∨∃kvs,H p=some (.dK kvs)∧k=!kvs.isEmpty
  | _=>False
theorem ZlW {κ:Type} {kvs:List (κ×V)} {vs:List (κ×Value)} (r:KV kvs vs):(!vs.isEmpty)=!kvs.isEmpty:=by
  cases r<;>rfl
theorem Zhu {xs:List V} {its:List Value} (r:Vals xs its):(!its.toArray.isEmpty)=!xs.isEmpty:=by
  cases r<;>simp
theorem Zge:(sizeLine:Nat)<2 ^ 63:=by rw [sizeLine_eq]; decide
theorem Zo6:Zy9 X (fun x H Q=>∃k,TruV X.K x H k∧Q k H):=by
  intro pins s σ H x v Q I rx h
  obtain ⟨k,e,q⟩:=h
  have hl:=Zge
  have hs:sizeLine=16777216:=sizeLine_eq
  cases x with
  | non=>
    cases rx
    have e':k=false:=e
    subst e'
    exact truthy_none ⟨H,I,q⟩
  | bl b=>
    cases rx
    have e':k=b:=e
    subst e'
    exact wpAny_truthy_bool ⟨H,I,q⟩
  | int i=>
    obtain ⟨t,rfl⟩:=rx
    have e':k=(i != 0):=e
    subst e'
    exact PySem.P.truthy_int ⟨H,I,q⟩
  | str y=>
    obtain ⟨t,rfl⟩:=rx
    obtain ⟨hy,e'⟩:y.length≤sizeLine∧k=((y.length:Int) != 0):=e
    subst e'
    exact PySem.P.truthy_str (by omega) ⟨H,I.tok _,q⟩
  | byt y=>
    obtain ⟨t,rfl⟩:=rx
    obtain ⟨hy,e'⟩:y.size≤sizeLine∧k=((y.size:Int) != 0):=e
    subst e'
    exact PySem.W.truthy_bytes (by omega) ⟨H,I.tok _,q⟩
  | ref p=>
    cases rx
    have e':(∃xs,SqL X.K H p xs∧k=!xs.isEmpty)∨(∃xs,SqT X.K H p xs∧k=!xs.isEmpty)∨∃kvs,H p=some (.dK kvs)∧k=!kvs.isEmpty:=e
    rcases e' with ⟨xs,hx,e'⟩ | ⟨xs,hx,e'⟩ | ⟨kvs,hx,e'⟩
    · subst e'
      obtain ⟨its,r,pl,hz⟩:=I.list hx
      have hlen:=r.length
      exact wpAny_truthy_list pl.isList (by simp only [List.size_toArray]; omega) ⟨H,I.tok _,by rw [Zhu r]; exact q⟩
    · subst e'
      obtain ⟨its,r,pl,hz⟩:=I.tuple hx
      have hlen:=r.length
      exact truthy_tuple pl (by simp only [List.size_toArray]; omega) ⟨H,I.tok _,by rw [Zhu r]; exact q⟩
    · subst e'
      obtain ⟨hz,hS,vs,r,m⟩:kvs.length≤sizeLine∧(p == sysModules)=false∧∃vs,KV kvs vs∧s.heap.DictOf (ZaJ X.prog X.w) p vs:=I.hok p _ hx
      have hlen:kvs.length=vs.length:=Paired.length r
      exact wpAny_truthy_dict hS m (by omega) ⟨H,I.tok _,by rw [ZlW r]; exact q⟩
  | _=>exact (show False from e).elim
theorem Zpk (ha:PE X a ta) (he:∀whole,isTrue a X.env whole=(do let v ←whole; standAt a.pos; holding [v] (truthy v))) :
    PT X a (fun σ H Q=>ta σ H fun x H'=>∃k,TruV X.K x H' k∧Q k H'):=by
  intro pins s σ H Q I h
  exact isTrue_plain (thn (ha pins s σ H _ I h) fun v s1 ⟨x,H1,I1,r1,q1⟩=>Zo6 pins s1 σ H1 x v Q I1 r1 q1) (he _)
theorem op_add_str:OpR X (binaryOp .Add) (fun x y H Q=>∃i j,x=.str i∧y=.str j∧i.length+j.length≤sizeLine∧Q (.str (i++j)) H):=by
  intro pins s σ H x y v u Q I rx ry h
  obtain ⟨i,j,rfl,rfl,hz,q⟩:=h
  obtain ⟨t,rfl⟩:=rx
  obtain ⟨t',rfl⟩:=ry
  exact add_str (fun t' tk=>⟨.str (i++j),H,I.tok _,⟨_,rfl⟩,q⟩) hz
theorem Zfs {x:V} {us:List Value} (r:Vals [x] us):∃u,us=[u]∧RelV x u:=by
  cases r with
  | cons r1 r2=>cases r2; exact ⟨_,rfl,r1⟩
theorem Zo4 {x y:V} {us:List Value} (r:Vals [x,y] us):∃u w',us=[u,w']∧RelV x u∧RelV y w':=by
  cases r with
  | cons r1 r2=>
    cases r2 with
    | cons r3 r4=>cases r4; exact ⟨_,_,rfl,r1,r3⟩
theorem ZnC (hc:X.calm=true):CallR X (.builtin "max") (fun xs H Q=>∃i j,xs=[.int i,.int j]∧Q (.int (if j > i then j else i)) H):=by
  intro pins s σ H xs us Q I r h
  obtain ⟨i,j,rfl,q⟩:=h
  obtain ⟨u,w',rfl,⟨t,rfl⟩,⟨t',rfl⟩⟩:=Zo4 r
  refine max_two_ints (I.ok.hd hc) fun h' tk k=>⟨_,H,I.kept k,?_,q⟩
  by_cases hj:j > i
  · rw [if_pos hj,if_pos hj]; exact ⟨_,rfl⟩
  · rw [if_neg hj,if_neg hj]; exact ⟨_,rfl⟩
theorem ZnB (hc:X.calm=true):CallR X (.builtin "min") (fun xs H Q=>∃i j,xs=[.int i,.int j]∧Q (.int (if j<i then j else i)) H):=by
  intro pins s σ H xs us Q I r h
  obtain ⟨i,j,rfl,q⟩:=h
  obtain ⟨u,w',rfl,⟨t,rfl⟩,⟨t',rfl⟩⟩:=Zo4 r
  refine min_two_ints (I.ok.hd hc) fun h' tk k=>⟨_,H,I.kept k,?_,q⟩
  by_cases hj:j<i
  · rw [if_pos hj,if_pos hj]; exact ⟨_,rfl⟩
  · rw [if_neg hj,if_neg hj]; exact ⟨_,rfl⟩
theorem ZnD:CallR X (.type "int") (fun xs H Q=>(∃i,xs=[.int i]∧Q (.int i) H)∨∃k,xs=[.bl k]∧Q (.int (if k then 1 else 0)) H):=by
  intro pins s σ H xs us Q I r h
  rcases h with ⟨i,rfl,q⟩ | ⟨k,rfl,q⟩
  · obtain ⟨u,rfl,t,rfl⟩:=Zfs r
    exact call_int_int ⟨.int i,H,I,⟨_,rfl⟩,q⟩
  · obtain ⟨u,rfl,r1⟩:=Zfs r
    cases r1
    exact call_int_bool ⟨.int (if k then 1 else 0),H,I.tok _,⟨_,rfl⟩,q⟩
end
end L2
namespace L2
open PySem PySem.Spec PyProof.Rows
structure ObjM (h:Heap) (x dx C:Addr) (mA:Str→Option Value):Prop where
  obj:h.get? x=some (PySem.W.instObj C dx)
  ns:h.Ns1 dx mA
  ne:dx≠x
theorem Znn {h:Heap} {dx:Addr} {mA:Str→Option Value} (n:h.Ns1 dx mA):∃od,h.get? dx=some od∧∀name,PySem.W.lookIn name od=some (mA name):=by
  obtain ⟨o,es,ep,ho,hd,hk,_,hm⟩:=n
  refine ⟨o,ho,fun name=>?_⟩
  have e:=hm name
  unfold nsFind findBy at e
  rw [←Array.find?_toList] at e
  unfold PySem.W.lookIn
  rw [hd]
  dsimp only
  split
  · rename_i y q
    rw [q] at e
    exact congrArg some e
  · rename_i q
    rw [q] at e
    have a:es.toList.any (·.refKey)=false:=by
      rw [List.any_eq_false]
      intro y hy
      obtain ⟨z,t,hkey⟩:=hk y (Array.mem_toList_iff.mp hy)
      simp [DictEntry.refKey,hkey]
    have a':¬es.toList.any (·.refKey)=true:=by rw [a]; exact Bool.false_ne_true
    rw [if_neg a']
    exact congrArg some e
theorem ObjM.look {h:Heap} {x dx C:Addr} {mA:Str→Option Value} (I:ObjM h x dx C mA):∃od,PySem.W.InstAt h x (PySem.W.instObj C dx) C (some od)∧∀name,PySem.W.lookIn name od=some (mA name):=
  let ⟨od,ho,hl⟩:=Znn I.ns
  ⟨od,⟨I.obj,rfl,rfl,ho⟩,hl⟩
section
variable {prog:Program} {w:World} {A:Around} {E:Value→Shared→Prop} {s:Shared} {K:PySem.W.Frag} {x dx C f:Addr} {mA:Str→Option Value} {name:Str} {v:Value}
theorem ZrP {expr:Bool} {Q:Value→Shared→Prop} (X:K.In s.heap) (I:ObjM s.heap x dx C mA) (hg:PySem.W.plainGet K C name=true) (hh:PySem.W.hasDictIn K C=true)
    (ha:PySem.W.findIn K (.ref C) name=some none) (hv:mA name=some v) (hv':PySem.W.handedIn v=true) (h:Q v { s with toks:=s.toks+1 }) :
    wpAny (model prog w) A (getAttr (.ref x) name expr) Q E s:=by
  obtain ⟨od,J,hl⟩:=I.look
  exact PySem.W.get_value X J (PySem.W.plainGet_of hg).1 (PySem.W.findObj_own hh ha rfl (by rw [hl,hv])) hv' h
theorem Zra {ns:List Str} {Q:Unit→Shared→Prop} (X:K.In s.heap) (I:ObjM s.heap x dx C mA)
    (hs:PySem.W.findIn K (.ref C) "__setattr__"=some (some (.builtin "object.__setattr__"))) (hp:PySem.W.plainOver K C=true) (ht:PySem.W.takerIn K C name=some none) (hh:PySem.W.hasDictIn K C=true)
    (hw:PySem.Within mA ns) (hsz:ns.length≤sizeLine)
    (h:∀h',ObjM h' x dx C (fun y=>if y=name then some v else mA y)→Heap.SameBut dx s.heap h'→Q () { s with heap:=h',toks:=s.toks+2 }) :
    wpAny (model prog w) A (setAttr (.ref x) name v) Q E s:=by
  obtain ⟨od,J,hl⟩:=I.look
  refine PySem.W.set_plain X J hs (PySem.W.osa_open (s:={ s with toks:=s.toks+1 }) (r:=none) X J hp ht fun b=>?_)
  obtain ⟨cd,hc,hd'⟩:=PySem.W.any_some hh
  have hx:s.heap.get? x=some ⟨.ref C,some dx,.plain,#[]⟩:=I.obj
  refine wpAny_bind (wpAny_pure (wpAny_bind (wpAny_bind (wpAny_loadPart hx (wpAny_bind (PySem.W.Looks.here (s:={ s with toks:=s.toks+1 }) (PySem.W.looks_clsIn X hc) ?_))))))
  rw [hd']
  refine wpAny_pure (a:=some dx) (wpAny_bind (wpAny_pure (wpAny_bind ?_)))
  refine wpAny_nsSet1 (s:={ s with toks:=s.toks+1 }) I.ns fun h' hn2 hs2=>?_
  obtain ⟨oD,esD,epD,hoD,hdD,hcD⟩:=hn2.count (PySem.Within.cons name v hw)
  refine wpAny_bind (wpAny_lookBehind hoD (by rw [hdD]; exact pastItsLine_dict (Nat.le_trans hcD (by rw [List.length_cons]; omega))) ?_)
  exact wpAny_pure (h _ ⟨(hs2.2 _ (Ne.symm I.ne)).trans I.obj,hn2,I.ne⟩ hs2)
theorem Zp1 {R:Result→Shared→Prop} {vs:List Value} {kw:List (Str×Value)} (X:K.In s.heap) (hm:PySem.W.makesIn K C=true)
    (hi:PySem.W.findIn K (.ref C) "__init__"=some (some (.ref f))) (hf:PySem.W.typeIn K (.ref f)=some (.type "function"))
    (h:codeAny (model prog w) (A.under (.builtin "type.__call__" ⟨.ref C::vs,kw⟩)) (.call (.ref f) ⟨.ref (s.heap.objs.size+1)::vs,kw⟩) (PySem.W.InitBack (s.heap.objs.size+1) R)
      { s with heap:=(s.heap.push PySem.W.emptyDict).push (PySem.W.instObj C s.heap.objs.size) }) :
    codeAny (model prog w) A (.call (.ref C) ⟨vs,kw⟩) R s:=by
  obtain ⟨hh,g,d,t,os⟩:=s
  exact PySem.W.make_core (PySem.W.makes_of X hm) (PySem.W.looks_findIn X hi) (fun self=>PySem.W.bind_fn X self hf) (.inl rfl) h
end
def ZdD (f:Str) (v:V):List (Str×V)→List (Str×V)
  | []=>[(f,v)]
  | (g,x)::r=>if g=f then (g,v)::r else (g,x)::ZdD f v r
theorem Zgw (f g:Str) (v:V):∀fs:List (Str×V),(ZdD f v fs).lookup g=if g=f then some v else fs.lookup g
  | []=>by
    show List.lookup g [(f,v)]=_
    by_cases h:g=f
    · have hb:(g == f)=true:=beq_iff_eq.mpr h
      simp only [List.lookup,hb,if_pos h]
    · have hb:(g == f)=false:=beq_eq_false_iff_ne.mpr h
      simp only [List.lookup,hb,if_neg h]
  | (k,x)::r=>by
    have ih:=Zgw f g v r
    rw [show ZdD f v ((k,x)::r)=(if k=f then (k,v)::r else (k,x)::ZdD f v r) from rfl]
    by_cases hk:k=f
    · rw [if_pos hk]
      by_cases h:g=k
      · have hb:(g == k)=true:=beq_iff_eq.mpr h
        simp only [List.lookup,hb,if_pos (h.trans hk)]
      · have hb:(g == k)=false:=beq_eq_false_iff_ne.mpr h
        simp only [List.lookup,hb,if_neg (fun e:g=f=>h (e.trans hk.symm))]
    · rw [if_neg hk]
      by_cases h:g=k
      · have hb:(g == k)=true:=beq_iff_eq.mpr h
        simp only [List.lookup,hb,if_neg (fun e:g=f=>hk (h.symm.trans e))]
      · have hb:(g == k)=false:=beq_eq_false_iff_ne.mpr h
        simp only [List.lookup,hb]
        exact ih
theorem Zgi (f:Str) (v:V):∀fs:List (Str×V),f∈(ZdD f v fs).map (·.1)∧∀g,g∈fs.map (·.1)→g∈(ZdD f v fs).map (·.1)
  | []=>⟨by simp [ZdD],fun g h=>by simp at h⟩
  | (k,x)::r=>by
    obtain ⟨i1,i2⟩:=Zgi f v r
    rw [show ZdD f v ((k,x)::r)=(if k=f then (k,v)::r else (k,x)::ZdD f v r) from rfl]
    by_cases hk:k=f
    · rw [if_pos hk]
      subst hk
      exact ⟨by simp,fun g h=>by simpa using h⟩
    · rw [if_neg hk]
      refine ⟨?_,fun g h=>?_⟩
      · rw [List.map_cons]
        exact List.mem_cons_of_mem _ i1
      · rw [List.map_cons] at h ⊢
        rcases List.mem_cons.mp h with e | e
        · exact List.mem_cons.mpr (.inl e)
        · exact List.mem_cons_of_mem _ (i2 g e)
theorem Zgx (f:Str) (v:V):∀fs:List (Str×V),(ZdD f v fs).length≤fs.length+1
  | []=>by simp [ZdD]
  | (k,x)::r=>by
    have ih:=Zgx f v r
    rw [show ZdD f v ((k,x)::r)=(if k=f then (k,v)::r else (k,x)::ZdD f v r) from rfl]
    by_cases hk:k=f
    · rw [if_pos hk,List.length_cons,List.length_cons]; omega
    · rw [if_neg hk,List.length_cons,List.length_cons]; omega
theorem RelO.some_of {v:V} {o:Option Value} (r:RelO (some v) o):∃u,o=some u∧RelV v u:=by
  cases o with
  | none=>exact (show False from r).elim
  | some u=>exact ⟨u,rfl,r⟩
theorem RelO.none_of {o:Option Value} (r:RelO none o):o=none:=by
  cases o with
  | none=>rfl
  | some u=>exact (show False from r).elim
theorem Znu {v:V} {u:Value} (r:RelV v u):PySem.W.handedIn u=true:=by
  cases v with
  | non=>cases (show u=Value.none from r); rfl
  | bl b=>cases (show u=Value.bool b from r); rfl
  | int i=>obtain ⟨t,e⟩:=(show ∃t,u=Value.int i t from r); cases e; rfl
  | str x=>obtain ⟨t,e⟩:=(show ∃t,u=Value.str x t from r); cases e; rfl
  | byt b=>obtain ⟨t,e⟩:=(show ∃t,u=Value.bytes b t from r); cases e; rfl
  | flt b=>obtain ⟨t,e⟩:=(show ∃t,u=Value.float b t from r); cases e; rfl
  | ref a=>cases (show u=Value.ref a from r); rfl
  | ty n=>cases (show u=Value.type n from r); rfl
section
variable {P:Program} {w:World} {H H':Hp} {h h':Heap} {a C dx:Addr} {fs fs':List (Str×V)}
theorem Zi0 (hok:HOk P w H h) (e:H a=some (.ins C dx fs)):∃mA,ObjM h a dx C mA∧(∀f,RelO (fs.lookup f) (mA f))∧PySem.Within mA (fs.map (·.1))∧fs.length≤1000∧H dx=some (.own a):=by
  obtain ⟨d,z,ne,ob,mA,n,r,q⟩:=(show ObjOk P w H h a (.ins C dx fs) from hok a _ e)
  exact ⟨mA,⟨ob,n,ne⟩,r,q,z,d⟩
end
structure Cls (K:PySem.W.Frag) (C:Addr):Prop where
  pg:PySem.W.plainGet K C Str.empty=true
  hd:PySem.W.hasDictIn K C=true
  po:PySem.W.plainOver K C=true
  sa:PySem.W.findIn K (.ref C) "__setattr__"=some (some (.builtin "object.__setattr__"))
theorem Cls.get {K:PySem.W.Frag} {C:Addr} (c:Cls K C) (f:Str):PySem.W.plainGet K C f=true:=c.pg
def NoAttr (K:PySem.W.Frag) (C:Addr) (f:Str):Prop:=PySem.W.findIn K (.ref C) f=some none
theorem NoAttr.taker {K:PySem.W.Frag} {C:Addr} {f:Str} (n:NoAttr K C f):PySem.W.takerIn K C f=some none:=by
  unfold PySem.W.takerIn
  rw [show PySem.W.findIn K (.ref C) f=some none from n]
  rfl
structure Con (K:PySem.W.Frag) (C:Addr) (f:Str) (v:V) (u:Value):Prop where
  at_:PySem.W.findIn K (.ref C) f=some (some u)
  rel:RelV v u
  get:PySem.W.specialIn K u "__get__"=some none
  cp:PySem.W.copiedNames.contains f=false
structure Zza (K:PySem.W.Frag) (C:Addr) (m:Str) (f:Addr):Prop where
  at_:PySem.W.findIn K (.ref C) m=some (some (.ref f))
  fn:PySem.W.isFn K (.ref f)=true
  kp:PySem.W.keepIn K (.ref f)=true
section
variable {X:Cx} {pins:List (Addr×Obj)} {σ:St} {H:Hp} {s:Shared} {a C dx:Addr} {fs:List (Str×V)} {f:Str} {v:V} {A:Around} {E:Value→Shared→Prop}
theorem ZlY {b:Bool} {Q:Value→Shared→Prop} (I:Inv X pins σ H s) (e:H a=some (.ins C dx fs)) (c:Cls X.K C) (n:NoAttr X.K C f) (l:fs.lookup f=some v)
    (h:∀u s',Inv X pins σ H s'→RelV v u→Q u s'):wpAny (model X.prog X.w) A (getAttr (.ref a) f b) Q E s:=by
  obtain ⟨mA,O,r,_,_,_⟩:=Zi0 I.hok e
  obtain ⟨u,hu,ru⟩:=RelO.some_of (v:=v) (o:=mA f) (by rw [←l]; exact r f)
  exact ZrP I.kIn O (c.get f) c.hd n hu (Znu ru) (h u _ (I.tok _) ru)
theorem ZlG {y:V} {u:Value} {Q:Unit→Shared→Prop} (I:Inv X pins σ H s) (e:H a=some (.ins C dx fs)) (c:Cls X.K C) (n:NoAttr X.K C f) (hl:fs.length<1000) (ry:RelV y u)
    (h:∀s',Inv X pins σ (upd H a (.ins C dx (ZdD f y fs))) s'→Q () s'):wpAny (model X.prog X.w) A (setAttr (.ref a) f u) Q E s:=by
  obtain ⟨mA,O,r,wi,_,ho⟩:=Zi0 I.hok e
  have hz:(fs.map (·.1)).length≤sizeLine:=by rw [List.length_map,sizeLine_eq]; omega
  refine Zra I.kIn O c.sa c.po n.taker c.hd wi hz fun h' O' sb=>h _ ?_
  have hd:∃o,h'.get? dx=some o:=let ⟨o,_,_,e',_⟩:=O'.ns; ⟨o,e'⟩
  refine I.write (x:=a) (e:=dx) (by rw [e]; exact True.intro) (.inr ho) (fun b q hb z=>(sb.2 b hb).trans z) hd ?_
  refine ⟨by rw [ZQ O.ne]; exact ho,?_,O.ne,O'.obj,_,O'.ns,fun g=>?_,fun g hg=>?_⟩
  · have:=Zgx f y fs; omega
  · show RelO ((ZdD f y fs).lookup g) (if g=f then some u else mA g)
    rw [Zgw]
    by_cases q:g=f
    · rw [if_pos q,if_pos q]; exact ry
    · rw [if_neg q,if_neg q]; exact r g
  · by_cases q:g=f
    · rw [q]; exact (Zgi f y fs).1
    · refine (Zgi f y fs).2 g (wi g fun z=>hg ?_)
      show (if g=f then some u else mA g)=none
      rw [if_neg q]; exact z
theorem Inv.made (I:Inv X pins σ H s):Inv X pins σ (upd (upd H s.heap.objs.size (.own (s.heap.objs.size+1))) (s.heap.objs.size+1) (.ins C s.heap.objs.size []))
    { s with heap:=(s.heap.push PySem.W.emptyDict).push (PySem.W.instObj C s.heap.objs.size) }:=by
  have e1:(s.heap.push PySem.W.emptyDict).get? s.heap.objs.size=some PySem.W.emptyDict:=Heap.get?_push_size s.heap rfl
  have e2:((s.heap.push PySem.W.emptyDict).push (PySem.W.instObj C s.heap.objs.size)).get? (s.heap.objs.size+1)=some (PySem.W.instObj C s.heap.objs.size):=by
    have:=Heap.get?_push_size (s.heap.push PySem.W.emptyDict) (o:=PySem.W.instObj C s.heap.objs.size) rfl
    rwa [Heap.size_push] at this
  have e3:(s.heap.push PySem.W.emptyDict).Ns s.heap.objs.size (fun _=>none):=⟨PySem.W.emptyDict,#[],_,e1,rfl,(fun e he=>absurd he (by simp)),fun _=>rfl⟩
  have I1:=I.laid (a:=s.heap.objs.size) (o:=.own (s.heap.objs.size+1)) (h':=s.heap.push PySem.W.emptyDict) (t':=s.toks) (fun b u q=>Heap.get?_push_of_some _ q) (Nat.le_refl _) ⟨_,e1⟩
  refine I1.laid (a:=s.heap.objs.size+1) (o:=.ins C s.heap.objs.size []) (t':=s.toks) (fun b u q=>Heap.get?_push_of_some _ q) (Nat.le_of_eq (Heap.size_push _ _)) ?_
  have ne:s.heap.objs.size≠s.heap.objs.size+1:=Nat.ne_of_lt (Nat.lt_succ_self _)
  refine ⟨by rw [ZQ ne,zF],Nat.zero_le _,ne,e2,fun _=>none,(Heap.Ns1.of_empty e3).at fun o q=>Heap.get?_push_of_some _ q,fun _=>True.intro,fun y hy=>absurd rfl hy⟩
theorem Zr1 {prog:Program} {w:World} {env:Env} {e:Expr} {f:Str} {pos:Pos} {s:Shared} {Q:Value→Shared→Prop} (hb:attributeBase e f env (eval e env)=eval e env)
    (h:wpAny (model prog w) A (eval e env) (fun o s₁=>wpAny (model prog w) A (getAttr o f true) Q E s₁) E s):wpAny (model prog w) A (eval (.Attribute e f pos) env) Q E s:=
  Attribute_any_ h (by rw [arm_eval_Attribute,hb])
end
def Zyw (K:PySem.W.Frag) (ta:TE) (f:Str):TE:=fun σ H Q=>ta σ H fun x H1=>∃a C dx fs v,x=.ref a∧H1 a=some (.ins C dx fs)∧Cls K C∧NoAttr K C f∧fs.lookup f=some v∧Q v H1
def ZyD (K:PySem.W.Frag) (ta tv:TE) (f:Str):TS:=fun D σ H=>tv σ H fun y H1=>ta σ H1 fun x H2=>∃a C dx fs,x=.ref a∧H2 a=some (.ins C dx fs)∧Cls K C∧NoAttr K C f∧fs.length<1000∧
  D.nx σ (upd H2 a (.ins C dx (ZdD f y fs)))
section
variable {X:Cx} {o e value:Expr} {f:Str} {pos pos' tpos:Pos} {ta tv:TE}
theorem Ztx (he:PE X e ta) (hb:attributeBase e f X.env (eval e X.env)=eval e X.env):PE X (.Attribute e f pos) (Zyw X.K ta f):=by
  intro pins s σ H Q I h
  refine Zr1 hb (thn (he pins s σ H _ I h) fun u s1 ⟨x,H1,I1,rx,a,C,dx,fs,v,ex,ea,c,n,l,q⟩=>?_)
  subst ex
  obtain rfl:u=Value.ref a:=rx
  exact ZlY I1 ea c n l fun u' s2 I2 ru=>⟨v,H1,I2,ru,q⟩
theorem Zto (ha:PE X o ta) (hv:PE X value tv) (hs:swapsWith value (some (.Attribute o f pos')) pos.line X.env=pure false):PS X (.Assign [.Attribute o f pos'] value pos) (ZyD X.K ta tv f):=by
  intro pins s σ H D I h
  refine plainObj_wpAny_Assign_Attribute (thn (hv pins s σ H _ I h) fun u s1 ⟨y,H1,I1,ry,q⟩=>thn (ha pins s1 σ H1 _ I1 q) fun ov s2 ⟨x,H2,I2,rx,a,C,dx,fs,ex,ea,c,n,l,q2⟩=>?_) hs
  subst ex
  obtain rfl:ov=Value.ref a:=rx
  exact ZlG I2 ea c n l ry fun s3 I3=>⟨σ,_,I3,q2⟩
end
section
variable {X:Cx} {pins:List (Addr×Obj)} {σ:St} {H:Hp} {s:Shared} {A:Around} {E:Value→Shared→Prop} {Q:Value→Shared→Prop} {c:Value} {b:Bool}
inductive Zf3 (K:PySem.W.Frag) (H:Hp):V→Value→Prop where
  | non:Zf3 K H .non (.type "NoneType")
  | bl (x:Bool):Zf3 K H (.bl x) (.type "bool")
  | int (i:Int):Zf3 K H (.int i) (.type "int")
  | str (x:Str):Zf3 K H (.str x) (.type "str")
  | flt (x:UInt64):Zf3 K H (.flt x) (.type "float")
  | lst {a:Addr} {xs:List V} (e:H a=some (.lst xs)):Zf3 K H (.ref a) (.type "list")
  | frz {a:Addr} {o:Obj} {xs:List V} (e:H a=some (.frz o (.lst xs))):Zf3 K H (.ref a) (.type "list")
  | tup {a:Addr} {xs:List V} (e:H a=some (.tup xs)):Zf3 K H (.ref a) (.type "tuple")
  | dK {a:Addr} {kvs:List (Key×V)} (e:H a=some (.dK kvs)):Zf3 K H (.ref a) (.type "dict")
  | dT {a:Addr} {kvs:List (List Key×V)} (e:H a=some (.dT kvs)):Zf3 K H (.ref a) (.type "dict")
  | ins {a C dx:Addr} {fs:List (Str×V)} (e:H a=some (.ins C dx fs)) (cl:Cls K C) (ha:PySem.W.findIn K (.ref C) "__class__"=some (some (.builtin "object.__class__")))
      (hn:PySem.W.specialIn K (.builtin "object.__class__") "__get__"=some (some (.builtin "getset_descriptor.__get__"))) (htk:PySem.W.takesIn K (.builtin "object.__class__")=some true)
      (hm:PySem.W.mroIn K C (.type "object")=some true):Zf3 K H (.ref a) (.ref C)
theorem Znq {x:V} {u t:Value} (I:Inv X pins σ H s) (rx:RelV x u) (ty:Zf3 X.K H x t) (e:PySem.W.kitOne X.K t c=some b) (h:∀tk,Q (.bool b) { s with toks:=tk }) :
    wpAny (model X.prog X.w) A (call (.builtin "isinstance") [u,c]) Q E s:=by
  cases ty with
  | non=>cases (show u=Value.none from rx); exact PySem.W.kia_one PySem.W.kitx_none I.kIn True.intro e (fun z=>nomatch z) h
  | bl y=>cases (show u=Value.bool y from rx); exact PySem.W.kia_one PySem.W.kitx_bool I.kIn True.intro e (fun z=>nomatch z) h
  | int i=>obtain ⟨t,q⟩:=(show ∃t,u=Value.int i t from rx); cases q; exact PySem.W.kia_one PySem.W.kitx_int I.kIn True.intro e (fun z=>nomatch z) h
  | str y=>obtain ⟨t,q⟩:=(show ∃t,u=Value.str y t from rx); cases q; exact PySem.W.kia_one PySem.W.kitx_str I.kIn True.intro e (fun z=>nomatch z) h
  | flt y=>obtain ⟨t,q⟩:=(show ∃t,u=Value.float y t from rx); cases q; exact PySem.W.kia_one PySem.W.kitx_float I.kIn True.intro e (fun z=>nomatch z) h
  | @lst a xs ea=>
    cases (show u=Value.ref a from rx)
    obtain ⟨_,_,n,_,h1⟩:=(show ObjOk X.prog X.w H s.heap a (.lst xs) from I.hok a _ ea)
    exact PySem.W.kia_one PySem.W.kitx_list I.kIn ⟨_,h1,rfl⟩ e (fun z=>nomatch z) h
  | @frz a ob xs ea=>
    cases (show u=Value.ref a from rx)
    obtain ⟨_,_,_,n,_,h1⟩:=(show ObjOk X.prog X.w H s.heap a (.frz ob (.lst xs)) from I.hok a _ ea)
    exact PySem.W.kia_one PySem.W.kitx_list I.kIn ⟨_,h1,rfl⟩ e (fun z=>nomatch z) h
  | @tup a xs ea=>
    cases (show u=Value.ref a from rx)
    obtain ⟨_,_,_,p⟩:=(show ObjOk X.prog X.w H s.heap a (.tup xs) from I.hok a _ ea)
    obtain ⟨o,h1,h2,_⟩:=p
    exact PySem.W.kia_one PySem.W.kitx_tuple I.kIn ⟨o,h1,h2⟩ e (fun z=>nomatch z) h
  | @dK a kvs ea=>
    cases (show u=Value.ref a from rx)
    obtain ⟨_,_,vs,_,p⟩:=(show ObjOk X.prog X.w H s.heap a (.dK kvs) from I.hok a _ ea)
    obtain ⟨o,es,ep,h1,h2,_⟩:=p
    exact PySem.W.kia_one PySem.W.kitx_dict I.kIn ⟨o,h1,h2.1⟩ e (fun z=>nomatch z) h
  | @dT a kvs ea=>
    cases (show u=Value.ref a from rx)
    obtain ⟨_,_,xs,_,o,es,ep,h1,h2,_⟩:=(show ObjOk X.prog X.w H s.heap a (.dT kvs) from I.hok a _ ea)
    exact PySem.W.kia_one PySem.W.kitx_dict I.kIn ⟨o,h1,h2.1⟩ e (fun z=>nomatch z) h
  | @ins a C dx fs ea cl ha hn htk hm=>
    cases (show u=Value.ref a from rx)
    obtain ⟨mA,O,_⟩:=Zi0 I.hok ea
    obtain ⟨od,J,_⟩:=O.look
    exact PySem.W.kia_one (PySem.W.kitx_own (cl.get _) cl.hd ha hn htk hm) I.kIn J e (fun z=>nomatch z) h
end
end L2
namespace L2
open PySem PySem.Spec PyProof.Rows
structure Room (k:Nat) (A:Around):Prop where
  hd:A.handled=none
  dp:A.depth+3*k+5<recursionLimit
  un:A.units+16*k+200<cLine
theorem Room.mono {j k:Nat} {A:Around} (r:Room k A) (h:j≤k):Room j A:=⟨r.hd,by have:=r.dp; omega,by have:=r.un; omega⟩
theorem Room.deeper {k:Nat} {A:Around} (r:Room (k+1) A) (env:Env):Room k (A.deeper env):=
  ⟨r.hd,by have:=r.dp; show A.depth+1+3*k+5<_; omega,by have:=r.un; show A.units+3+16*k+200<_; omega⟩
theorem Room.in1 {k:Nat} {A:Around} (r:Room (k+1) A):Room k A.in1:=
  ⟨r.hd,by have:=r.dp; show A.depth+3*k+5<_; omega,by have:=r.un; show A.units+1+16*k+200<_; omega⟩
theorem ZlS {A:Around} {C:Addr} {us:List Value} {kw:List (Str×Value)}:(A.under (.builtin "type.__call__" ⟨.ref C::us,kw⟩)).depth=A.depth+1:=by
  first | rfl | simp [Around.under,Code.weight,Code.isCreation,Code.isGuard,Code.isCaller,Code.frames,Code.isFrame,guardIds]
theorem ZlR {A:Around} {C:Addr} {us:List Value} {kw:List (Str×Value)}:(A.under (.builtin "type.__call__" ⟨.ref C::us,kw⟩)).units=A.units+1:=by
  first | rfl | simp [Around.under,Code.cUnits,Code.frames,Code.isFrame]
theorem Room.make {k:Nat} {A:Around} (r:Room (k+1) A) (C:Addr) (us:List Value) (kw:List (Str×Value)):Room k (A.under (.builtin "type.__call__" ⟨.ref C::us,kw⟩)):=
  ⟨r.hd,by have:=r.dp; rw [ZlS]; omega,by have:=r.un; rw [ZlR]; omega⟩
theorem Room.depth {k:Nat} {A:Around} (r:Room k A):A.depth<recursionLimit:=by have:=r.dp; omega
theorem Room.units {k:Nat} {A:Around} (r:Room k A):A.units+64<cLine:=by have:=r.un; omega
def Zs6:TA:=fun _ H Q=>Q [] H
def Zsl (ta:TE) (tr:TA):TA:=fun σ H Q=>ta σ H fun x H1=>tr σ H1 fun xs H2=>Q (x::xs) H2
section
variable {X:Cx} {e:Expr} {es:List Expr} {te:TE} {t:TA} {pos:Pos}
theorem ZlL:PA X [] Zs6:=fun _ _ _ _ H Q I h=>Calls.spliced_nil ⟨[],H,I,.nil,h⟩
theorem ZiR (ha:PE X e te) (hr:PA X es t) (hs:starEach (e::es) X.env=(false,eval e X.env)::starEach es X.env:=by rfl):PA X (e::es) (Zsl te t):=by
  intro pos pins s σ H Q I h
  rw [hs]
  show wpAny _ _ (spliced ((false,eval e X.env)::backTo pos (starEach es X.env))) _ _ s
  refine Calls.spliced_cons (thn (ha pins s σ H _ I h) fun u s1 ⟨x,H1,I1,r1,q1⟩=>?_)
  exact thn (hr pos pins s1 σ H1 _ I1 q1) fun us s2 ⟨xs,H2,I2,r2,q2⟩=>⟨x::xs,H2,I2,.cons r1 r2,q2⟩
def Zyn (t:TA):TE:=fun σ H Q=>t σ H fun xs H1=>xs.length≤sizeLine∧∀p,H1 p=none→Q (.ref p) (upd H1 p (.tup xs))
def Zyt (t:TA):TE:=fun σ H Q=>t σ H fun xs H1=>xs.length≤sizeLine∧∀p,H1 p=none→Q (.ref p) (upd H1 p (.lst xs))
theorem Ztt {x1} (h:PA X es t):PE X (.Tuple es x1 pos) (Zyn t):=by
  intro pins s σ H Q I hq
  refine wpAny_Tuple_spliced (thn (h pos pins s σ H _ I hq) fun us s1 ⟨xs,H1,I1,r,z,q⟩=>⟨by rw [←r.length]; exact z,?_⟩)
  have hf:H1 s1.heap.objs.size=none:=I1.hok.fresh (Nat.le_refl _)
  refine ⟨.ref s1.heap.objs.size,upd H1 s1.heap.objs.size (.tup xs),I1.laid (t':=s1.toks) (fun b u e=>Heap.get?_push_of_some _ e) (Nat.le_refl _) ?_,rfl,q _ hf⟩
  exact ⟨z,us,r,⟨_,Heap.get?_push_size _ rfl,rfl,_,rfl⟩⟩
theorem Zpw (h:PA X es t):PE X (.List es pos) (Zyt t):=by
  intro pins s σ H Q I hq
  refine wpAny_List_spliced (thn (h pos pins s σ H _ I hq) fun us s1 ⟨xs,H1,I1,r,z,q⟩=>⟨by rw [←r.length]; exact z,?_⟩)
  have hf:H1 s1.heap.objs.size=none:=I1.hok.fresh (Nat.le_refl _)
  refine ⟨.ref s1.heap.objs.size,upd H1 s1.heap.objs.size (.lst xs),I1.laid (t':=s1.toks) (fun b u e=>Heap.get?_push_of_some _ e) (Nat.le_refl _) ?_,rfl,q _ hf⟩
  exact ⟨z,us,0,r,Heap.get?_push_size _ rfl⟩
end
abbrev Sp:=List V→Hp→VK→XK→Prop
abbrev CXT:=List Env→Hp→Shared→XK→Value→Shared→Prop
structure Env0 (P:Program) (w:World) (K:PySem.W.Frag) (mg:Str→Option Value) (base:Heap) (A:Around) (outer:List Env) (s:Shared) (H:Hp):Prop where
  frames:A.frames=some outer
  mod:Mod K mg base
  bs:∀b o,base.get? b=some o→s.heap.get? b=some o∧H b=none
  bsz:base.objs.size≤s.heap.objs.size
  funs:s.heap.FunFrames base outer
  frf:∀b∈frs outer,H b=none
  hok:HOk P w H s.heap
  bare:AllBare s.gens
def CE (outer:List Env) (P:Program) (w:World) (H:Hp) (s:Shared) (Q:VK) (u:Value) (s':Shared):Prop:=
  ∃v H',s'.os=s.os∧AllBare s'.gens∧Un (frs outer) [] H H' s.heap s'.heap∧HOk P w H' s'.heap∧RelV v u∧Q v H'
def CR (CX:CXT) (outer:List Env) (P:Program) (w:World) (H:Hp) (s:Shared) (Q:VK) (E:XK) (r:Result) (s':Shared):Prop:=
  match r with
  | .ok (.ret u)=>CE outer P w H s Q u s'
  | .ok _=>False
  | .error e=>CX outer H s E e s'
structure FnOk (P:Program) (w:World) (K:PySem.W.Frag) (mg:Str→Option Value) (base:Heap) (CX:CXT) (k:Nat) (f:Addr) (fd:FuncData) (ps:List Str) (sp:Sp):Prop where
  len:∀vs H Q E,sp vs H Q E→vs.length=ps.length
  run:∀(A:Around) (outer:List Env) (s:Shared) (H:Hp) (args:Args) (us:List Value) (vs:List V) (Q:VK) (E:XK),Room k A→Env0 P w K mg base A outer s H→BindsTo s fd args (ps.zip us)→Vals vs us→sp vs H Q E→
    codeAny (model P w) A (.call (.ref f) args) (CR CX outer P w H s Q E) s
theorem FnOk.mono {P:Program} {w:World} {K:PySem.W.Frag} {mg:Str→Option Value} {base:Heap} {CX:CXT} {j k:Nat} {f:Addr} {fd:FuncData} {ps:List Str} {sp:Sp} (F:FnOk P w K mg base CX j f fd ps sp) (h:j≤k) :
    FnOk P w K mg base CX k f fd ps sp:=⟨F.len,fun A outer s H args us vs Q E hr=>F.run A outer s H args us vs Q E (hr.mono h)⟩
theorem FnOk.imp {P:Program} {w:World} {K:PySem.W.Frag} {mg:Str→Option Value} {base:Heap} {CX:CXT} {k:Nat} {f:Addr} {fd:FuncData} {ps:List Str} {sp sp':Sp} (F:FnOk P w K mg base CX k f fd ps sp)
    (h:∀vs H Q E,sp' vs H Q E→sp vs H Q E):FnOk P w K mg base CX k f fd ps sp':=
  ⟨fun vs H Q E q=>F.len vs H Q E (h _ _ _ _ q),fun A outer s H args us vs Q E hr he hb hv hs=>F.run A outer s H args us vs Q E hr he hb hv (h _ _ _ _ hs)⟩
theorem Env0.make {P:Program} {w:World} {K:PySem.W.Frag} {mg:Str→Option Value} {base:Heap} {A:Around} {outer:List Env} {s:Shared} {H:Hp} (e:Env0 P w K mg base A outer s H) (C:Addr) (us:List Value) (kw:List (Str×Value)) :
    Env0 P w K mg base (A.under (.builtin "type.__call__" ⟨.ref C::us,kw⟩)) outer s H:=⟨by first | exact e.frames | (simpa [Around.under,Code.envs,Code.isFrame,pushEnvs] using e.frames),e.mod,e.bs,e.bsz,e.funs,e.frf,e.hok,e.bare⟩
theorem Env0.in1 {P:Program} {w:World} {K:PySem.W.Frag} {mg:Str→Option Value} {base:Heap} {A:Around} {outer:List Env} {s:Shared} {H:Hp} (e:Env0 P w K mg base A outer s H) :
    Env0 P w K mg base A.in1 outer s H:=⟨e.frames,e.mod,e.bs,e.bsz,e.funs,e.frf,e.hok,e.bare⟩
section
variable {X:Cx} {pins:List (Addr×Obj)} {σ:St} {H:Hp} {s s':Shared}
theorem Inv.env0 (I:Inv X pins σ H s):Env0 X.prog X.w X.K X.mg X.base X.A X.stack s H:=
  ⟨I.ok.frames,I.ok.mod,I.bs,Nat.le_trans I.ok.bsz I.sz,I.stack,I.stkFree,I.hok,I.bare⟩
theorem Inv.after {Q:VK} {u:Value} (I:Inv X pins σ H s) (h:CE X.stack X.prog X.w H s Q u s'):EP X pins σ Q u s':=by
  obtain ⟨v,H',os,bare,un,hok,r,q⟩:=h
  obtain ⟨hh,g,d,t,os'⟩:=s'
  obtain rfl:os'=s.os:=os
  exact ⟨v,H',I.call (h':=hh) (g':=g) (d':=d) (t':=t) (ch:=[]) un hok bare (fun b z=>absurd z (by simp)),r,q⟩
end
def Zsm (sp:Sp) (dvs:List V) (E:XK) (t:TA):TE:=fun σ H Q=>t σ H fun vs H1=>sp (vs++dvs) H1 Q E
def Zsj (C:Addr) (sp:Sp) (dvs:List V) (E:XK) (t:TA):TE:=fun σ H Q=>t σ H fun vs H1=>∀x dx,H1 x=none→H1 dx=none→dx≠x→
  sp (.ref x::(vs++dvs)) (upd (upd H1 dx (.own x)) x (.ins C dx [])) (fun v H2=>v=.non∧Q (.ref x) H2) E
def Binds (K:PySem.W.Frag) (fd:FuncData) (ps:List Str) (ds:List Value):Prop:=
  ∀(s:Shared) (us:List Value),K.In s.heap→(us++ds).length=ps.length→BindsTo s fd ⟨us,[]⟩ (ps.zip (us++ds))
theorem Binds.all {K:PySem.W.Frag} {fd:FuncData} {ps:List Str} (h:∀us:List Value,us.length=ps.length→bindArgs fd ⟨us,[]⟩=pure (ps.zip us)):Binds K fd ps []:=fun s us _ hl=>by
  rw [List.append_nil] at hl ⊢
  exact .of_eq (h us hl)
def Zgs (CX:CXT) (X:Cx) (E:XK):Prop:=∀(pins:List (Addr×Obj)) (σ:St) (H:Hp) (s:Shared) (e:Value) (s':Shared),Inv X pins σ H s→CX X.stack H s E e s'→X.xe e s'
section
variable {X:Cx} {CX:CXT} {k:Nat} {f C:Addr} {fd:FuncData} {ps:List Str} {sp:Sp} {dvs:List V} {ds:List Value} {E:XK} {x m:Str} {p pos apos:Pos} {e o:Expr} {es:List Expr} {ta:TE} {t:TA}
theorem Ztf {pins:List (Addr×Obj)} {σ:St} {H:Hp} {s:Shared} {Q:VK} {us:List Value} {vs:List V} (F:FnOk X.prog X.w X.K X.mg X.base CX k f fd ps sp) (hr:Room k X.A) (hb:Binds X.K fd ps ds) (hd:Vals dvs ds) (hx:Zgs CX X E)
    (I:Inv X pins σ H s) (r:Vals vs us) (h:sp (vs++dvs) H Q E):wpAny (model X.prog X.w) X.A (call (.ref f) us) (EP X pins σ Q) X.xe s:=by
  have r2:Vals (vs++dvs) (us++ds):=r.append hd
  have hl:(us++ds).length=ps.length:=by rw [←r2.length]; exact F.len _ _ _ _ h
  refine wpAny_call (codeAny_mono (F.run X.A X.stack s H ⟨us,[]⟩ (us++ds) (vs++dvs) Q E hr I.env0 (hb s us I.kIn hl) r2 h) fun r s' hq=>?_)
  cases r with
  | error e=>exact hx pins σ H s e s' I hq
  | ok fl=>
    cases fl with
    | ret u=>exact I.after hq
    | next=>exact False.elim hq
    | brk=>exact False.elim hq
    | cont=>exact False.elim hq
theorem Zru (F:FnOk X.prog X.w X.K X.mg X.base CX k f fd ps sp) (hr:Room k X.A) (hg:Gl X x) (hm:X.mg x=some (.ref f)) (hk:PySem.W.keepIn X.K (.ref f)=true) (hb:Binds X.K fd ps ds) (hd:Vals dvs ds) (hx:Zgs CX X E)
    (ha:PA X (e::es) t) (hdb:(x == ("__debug__":Str))=false:=by decide) (he:starEach (e::es) X.env=(false,eval e X.env)::starEach es X.env:=by rfl) (hpl:(backTo pos (starEach es X.env)).any (·.1)=false:=by rfl) :
    PE X (.Call (.Name x p) (e::es) [] pos) (Zsm sp dvs E t):=by
  intro pins s σ H Q I h
  refine wpAny_Call_Name_kw (ZgX I hg hm ?_ hdb)
  refine PySem.W.callWith_K (h₀:=X.base) I.ok.mod.kin hk (thn (ha pos pins s σ H _ I h) fun us s1 ⟨vs,H1,I1,r,q⟩=>⟨I1.kIn,?_⟩) he hpl
  exact Ztf F hr hb hd hx I1 r q
structure Mk (K:PySem.W.Frag) (C f:Addr):Prop where
  makes:PySem.W.makesIn K C=true
  init:PySem.W.findIn K (.ref C) "__init__"=some (some (.ref f))
  fn:PySem.W.isFn K (.ref f)=true
  kp:PySem.W.keepIn K (.ref C)=true
theorem ZkL {pins:List (Addr×Obj)} {σ:St} {H:Hp} {s:Shared} {Q:VK} {us:List Value} {vs:List V} (M:Mk X.K C f) (F:FnOk X.prog X.w X.K X.mg X.base CX k f fd ps sp) (hr:Room (k+1) X.A) (hb:Binds X.K fd ps ds) (hd:Vals dvs ds)
    (hx:Zgs CX X E) (I:Inv X pins σ H s) (r:Vals vs us)
    (h:∀x dx,H x=none→H dx=none→dx≠x→sp (.ref x::(vs++dvs)) (upd (upd H dx (.own x)) x (.ins C dx [])) (fun v H2=>v=.non∧Q (.ref x) H2) E) :
    wpAny (model X.prog X.w) X.A (call (.ref C) us) (EP X pins σ Q) X.xe s:=by
  have hq:=h (s.heap.objs.size+1) s.heap.objs.size (I.hok.fresh (Nat.le_succ _)) (I.hok.fresh (Nat.le_refl _)) (Nat.ne_of_lt (Nat.lt_succ_self _))
  have I2:=Inv.made (C:=C) I
  have r2:Vals (V.ref (s.heap.objs.size+1)::(vs++dvs)) (Value.ref (s.heap.objs.size+1)::(us++ds)):=.cons rfl (r.append hd)
  have hl:(Value.ref (s.heap.objs.size+1)::us++ds).length=ps.length:=by
    have e:=r2.length
    rw [F.len _ _ _ _ hq] at e
    exact e.symm
  refine wpAny_call (Zp1 (f:=f) I.kIn M.makes M.init (beq_iff_eq.mp M.fn) (codeAny_mono (F.run _ X.stack _ _ ⟨Value.ref (s.heap.objs.size+1)::us,[]⟩ (Value.ref (s.heap.objs.size+1)::(us++ds)) _ _ E (hr.make C us [])
    (I2.env0.make C us []) (hb _ (Value.ref (s.heap.objs.size+1)::us) I2.kIn hl) r2 hq) fun r s' hq'=>?_))
  cases r with
  | error e=>exact hx pins σ _ _ e s' I2 hq'
  | ok fl=>
    cases fl with
    | ret u=>
      obtain ⟨v,H',I3,rv,ev,q3⟩:=I2.after hq'
      subst ev
      exact ⟨rv,⟨V.ref (s.heap.objs.size+1),H',I3,rfl,q3⟩⟩
    | next=>exact False.elim hq'
    | brk=>exact False.elim hq'
    | cont=>exact False.elim hq'
theorem Zrr (M:Mk X.K C f) (F:FnOk X.prog X.w X.K X.mg X.base CX k f fd ps sp) (hr:Room (k+1) X.A) (hg:Gl X x) (hm:X.mg x=some (.ref C)) (hb:Binds X.K fd ps ds) (hd:Vals dvs ds) (hx:Zgs CX X E)
    (ha:PA X (e::es) t) (hdb:(x == ("__debug__":Str))=false:=by decide) (he:starEach (e::es) X.env=(false,eval e X.env)::starEach es X.env:=by rfl) (hpl:(backTo pos (starEach es X.env)).any (·.1)=false:=by rfl) :
    PE X (.Call (.Name x p) (e::es) [] pos) (Zsj C sp dvs E t):=by
  intro pins s σ H Q I h
  refine wpAny_Call_Name_kw (ZgX I hg hm ?_ hdb)
  refine PySem.W.callWith_K (h₀:=X.base) I.ok.mod.kin M.kp (thn (ha pos pins s σ H _ I h) fun us s1 ⟨vs,H1,I1,r,q⟩=>⟨I1.kIn,?_⟩) he hpl
  exact ZkL M F hr hb hd hx I1 r q
theorem Zpv (M:Mk X.K C f) (F:FnOk X.prog X.w X.K X.mg X.base CX k f fd ps sp) (hr:Room (k+1) X.A) (hg:Gl X x) (hm:X.mg x=some (.ref C)) (hb:Binds X.K fd ps ds) (hd:Vals dvs ds) (hx:Zgs CX X E)
    (hdb:(x == ("__debug__":Str))=false:=by decide):PE X (.Call (.Name x p) [] [] pos) (Zsj C sp dvs E Zs6):=by
  intro pins s σ H Q I h
  refine wpAny_Call_Name_kw (ZgX I hg hm ?_ hdb)
  exact PySem.W.callWith_K0 I.kIn M.kp (ZkL (us:=[]) M F hr hb hd hx I .nil h)
end
section
variable {X:Cx} {CX:CXT} {k:Nat} {f C:Addr} {fd:FuncData} {ps ks:List Str} {sp:Sp} {E:XK} {x m:Str} {p pos apos kpos:Pos} {e o:Expr} {es:List Expr} {kws:List Keyword} {te ta:TE} {t tk:TA} {nm:Option Str}
structure Zzc (K:PySem.W.Frag) (fd:FuncData) (ps ks:List Str) (g:List Value→List Value→List Value) (gV:List V→List V→List V):Prop where
  to:∀(s:Shared) (us ws:List Value),K.In s.heap→(g us ws).length=ps.length→BindsTo s fd ⟨us,ks.zip ws⟩ (ps.zip (g us ws))
  rel:∀{vs:List V} {us:List Value} {zs:List V} {ws:List Value},Vals vs us→Vals zs ws→Vals (gV vs zs) (g us ws)
variable {g:List Value→List Value→List Value} {gV:List V→List V→List V}
end
structure Zp (N P:List Str) (sc:Scope):Prop where
  kind:sc.kind=.function
  co:sc.isCoroutine=false
  gen:sc.isGenerator=false
  nd:N.Nodup
  pre:N.take P.length=P
  par:∀x∈P,sc.names.lookup x=some .local∨sc.names.lookup x=some .cell
  nofree:∀y∈sc.names,y.2≠.free
theorem ZiB {kindOf:Str→Option NameKind} {x:Str}:∀{binds:List (Str×Value)} {m:Str→Option Value},(∀v,(x,v)∉binds)→bindL kindOf binds m x=m x
  | [],_,_=>rfl
  | (n,v)::r,m,h=>by
    unfold bindL
    rw [ZiB fun w hw=>h w (List.mem_cons_of_mem _ hw)]
    split
    · have:x≠n:=by rintro rfl; exact h v List.mem_cons_self
      simp [this]
    · rfl
theorem ZiD {kindOf:Str→Option NameKind} {x:Str}:∀{binds:List (Str×Value)} {m:Str→Option Value},(∀v,(x,v)∉binds)→bindC kindOf binds m x=m x
  | [],_,_=>rfl
  | (n,v)::r,m,h=>by
    unfold bindC
    rw [ZiD fun w hw=>h w (List.mem_cons_of_mem _ hw)]
    split
    · rfl
    · have:x≠n:=by rintro rfl; exact h v List.mem_cons_self
      simp [this]
theorem ZiC {kindOf:Str→Option NameKind} {x:Str} {v:Value}:∀{P:List Str} {vs:List Value} {i:Nat} {m:Str→Option Value},P.Nodup→P[i]?=some x→vs[i]?=some v→kindOf x=some .local→
    bindL kindOf (P.zip vs) m x=some v
  | [],_,_,_,_,h,_,_=>by simp at h
  | _::_,[],_,_,_,_,h,_=>by simp at h
  | p::P,w::vs,0,m,nd,h1,h2,hk=>by
    simp at h1 h2; subst h1; subst h2
    show bindL kindOf ((p,w)::P.zip vs) m p=_
    unfold bindL
    rw [ZiB fun v hv=>(List.nodup_cons.mp nd).1 (List.of_mem_zip hv).1,if_pos hk]
    simp
  | p::P,w::vs,i+1,m,nd,h1,h2,hk=>by
    show bindL kindOf ((p,w)::P.zip vs) m x=_
    unfold bindL
    exact ZiC (i:=i) (List.nodup_cons.mp nd).2 (by simpa using h1) (by simpa using h2) hk
theorem ZiE {kindOf:Str→Option NameKind} {x:Str} {v:Value}:∀{P:List Str} {vs:List Value} {i:Nat} {m:Str→Option Value},P.Nodup→P[i]?=some x→vs[i]?=some v→kindOf x≠some .local→
    bindC kindOf (P.zip vs) m x=some v
  | [],_,_,_,_,h,_,_=>by simp at h
  | _::_,[],_,_,_,_,h,_=>by simp at h
  | p::P,w::vs,0,m,nd,h1,h2,hk=>by
    simp at h1 h2; subst h1; subst h2
    show bindC kindOf ((p,w)::P.zip vs) m p=_
    unfold bindC
    rw [ZiD fun v hv=>(List.nodup_cons.mp nd).1 (List.of_mem_zip hv).1,if_neg hk]
    simp
  | p::P,w::vs,i+1,m,nd,h1,h2,hk=>by
    show bindC kindOf ((p,w)::P.zip vs) m x=_
    unfold bindC
    exact ZiE (i:=i) (List.nodup_cons.mp nd).2 (by simpa using h1) (by simpa using h2) hk
def ZdC (N:List Str) (vs:List V):St:=vs.map some++List.replicate (N.length-vs.length) none
def ZgT (CX:CXT) (P:Program) (w:World) (K:PySem.W.Frag) (mg:Str→Option Value) (base:Heap) (N:List Str) (qual:Str) (scope:Scope) (f:Addr) (cd:Value) (A:Around) (outer:List Env) (s:Shared) (H:Hp) (E:XK):Cx where
  prog:=P
  w:=w
  K:=K
  mg:=mg
  base:=base
  A:=A.deeper (envOfC qual scope s.heap.objs.size f cd)
  N:=N
  s₀:=s
  H₀:=H
  env:=envOfC qual scope s.heap.objs.size f cd
  outer:=outer
  stack:=envOfC qual scope s.heap.objs.size f cd::outer
  ex:=[]
  calm:=true
  fn:=fun _=>true
  pn:=[]
  xe:=fun e s'=>wpAny (model P w) (A.deeper (envOfC qual scope s.heap.objs.size f cd)) (leaving (envOfC qual scope s.heap.objs.size f cd) e) (fun _ s''=>CX outer H s E e s'') (fun e' s''=>CX outer H s E e' s'') s'
theorem Zlo {sc:Scope} {n:Nat} {x:Str} (h:sc.names.lookup x=some .cell):∃c,(cellsFrom n sc.names []).lookup x=some c:=by
  have q:=PySem.W.cellsFrom_some sc.names n [] (.inl h)
  exact Option.isSome_iff_exists.mp q
theorem Znr {CX:CXT} {P:Program} {w:World} {K:PySem.W.Frag} {mg:Str→Option Value} {base:Heap} {N ps:List Str} {qual:Str} {scope:Scope} {f:Addr} {cd:Value} {A:Around} {outer:List Env} {s s1:Shared} {H:Hp} {E:XK} {us:List Value} {vs:List V}
    (S:Zp N ps scope) (hd:A.handled=none) (e0:Env0 P w K mg base A outer s H) (hl:vs.length=ps.length) (r:Vals vs us)
    (x:InCallC s s.heap.objs.size (bindL (envOfC qual scope s.heap.objs.size f cd).kindOf (ps.zip us) fun _=>none) (cellsFrom (s.heap.objs.size+1) scope.names []) (bindC (envOfC qual scope s.heap.objs.size f cd).kindOf (ps.zip us) fun _=>none) s1) :
    Inv (ZgT CX P w K mg base N qual scope f cd A outer s H E) [] (ZdC N vs) H s1:=by
  have hpl:ps.length≤N.length:=by have:=congrArg List.length S.pre; rw [List.length_take] at this; omega
  obtain ⟨h1,tk,rfl,hk⟩:=x.done
  have noA:∀b:Addr,b∉(ZgT CX P w K mg base N qual scope f cd A outer s H E).ex:=fun b z=>absurd (show b∈([]:List Addr) from z) (by simp)
  refine ⟨⟨e0.mod,S.kind,rfl,rfl,Nat.le_refl _,fun y z c h1 h2=>?_,fun y hy=>?_,fun y c _ h=>?_,fun _=>hd,Around.frames_deeper e0.frames,.inr ⟨rfl,rfl⟩,fun b z=>absurd z (noA b),e0.bs,e0.bsz,fun b _ _=>noA b,fun b z=>absurd z (noA b),e0.funs,e0.frf⟩,
    rfl,e0.bare,Un.kept hk,⟨_,x.toInCall.ns,fun i y v h1 h2 h3=>?_⟩,fun y c h=>⟨_,x.cell y c h⟩,e0.hok.fresh (Nat.le_refl _),fun y c h=>?_,fun p hp=>absurd (show p∈([]:List (Addr×Obj)) from hp) (by simp),e0.hok.kept hk,?_⟩
  · exact name_of_addr x.apart (PySem.mem_of_lookup h1) (PySem.mem_of_lookup h2)
  · have hy:scope.names.lookup y=some .cell∨scope.names.lookup y=some .free:=hy
    rcases hy with hy | hy
    · exact Zlo hy
    · exact absurd rfl (S.nofree _ (PySem.mem_of_lookup hy))
  · exact Nat.le_of_lt (x.above y c (PySem.mem_of_lookup h))
  · have hi:i<vs.length:=by
      unfold ZdC at h2
      by_cases hi:i<vs.length
      · exact hi
      · rw [List.getElem?_append_right (by simpa using hi)] at h2
        rw [List.getElem?_replicate] at h2
        split at h2<;>cases h2
    have ha:vs[i]?=some v:=by
      unfold ZdC at h2
      rw [List.getElem?_append_left (by simpa using hi),List.getElem?_map] at h2
      cases e:vs[i]? with
      | none=>rw [e] at h2; cases h2
      | some a=>rw [e] at h2; cases h2; rfl
    obtain ⟨u,hu,rv⟩:=r.get ha
    have hp:ps[i]?=some y:=by
      rw [←S.pre,List.getElem?_take_of_lt (by omega)]; exact h1
    have ndP:ps.Nodup:=by rw [←S.pre]; exact S.nd.sublist (List.take_sublist _ _)
    refine ⟨u,rv,?_⟩
    rcases S.par y (List.mem_of_getElem? hp) with k | k
    · exact .inl ⟨k,ZiC ndP hp hu k⟩
    · obtain ⟨c,e⟩:=Zlo (n:=s.heap.objs.size+1) k
      refine .inr ⟨.inl k,c,e,?_⟩
      have q:=x.cell y c e
      rw [ZiE ndP hp hu (by show scope.names.lookup y≠_; rw [k]; decide)] at q
      exact q
  · exact e0.hok.fresh (Nat.le_of_lt (x.above y c (PySem.mem_of_lookup h)))
  · unfold ZdC
    show _=N.length
    rw [List.length_append,List.length_map,List.length_replicate]
    omega
theorem ZvC {CX:CXT} {P:Program} {w:World} {K:PySem.W.Frag} {mg:Str→Option Value} {base:Heap} {k:Nat} {f:Addr} {name qual:Str} {params:Arguments} {body:List Stmt} {scope:Scope} {dV kV doc pm cdv ct oc:Value} {an od:Option Addr}
    {osl:Array (Option Value)} {N ps:List Str} {sp:Sp} (lk:K.lookup f=some ⟨oc,od,.func (PySem.W.fnOf name qual params body scope dV kV doc pm an cdv ct),osl⟩) (hcd:PySem.W.codeIn K cdv qual=true) (S:Zp N ps scope)
    (len:∀vs H Q E,sp vs H Q E→vs.length=ps.length)
    (hbody:∀(A:Around) (outer:List Env) (s:Shared) (H:Hp) (vs:List V) (Q:VK) (E:XK),Room k (A.deeper (envOfC qual scope s.heap.objs.size f cdv))→sp vs H Q E→
      ∃t,PSs (ZgT CX P w K mg base N qual scope f cdv A outer s H E) body t∧t { nx:=fun _ H'=>Q .non H',rt:=Q } (ZdC N vs) H) :
    FnOk P w K mg base CX (k+1) f (PySem.W.fnOf name qual params body scope dV kV doc pm an cdv ct) ps sp:=by
  refine ⟨len,fun A outer s H args us vs Q E hr e0 hb r hsp=>?_⟩
  have hl:=len _ _ _ _ hsp
  have KX:K.In s.heap:=e0.mod.kin.keeps fun b o e=>(e0.bs b o e).1
  have lim:s.heap.NoLimit:=e0.mod.nolimit.keeps fun b o e=>(e0.bs b o e).1
  have hkind:∀y∈ps.zip us,scope.names.lookup y.1=some .local∨(scope.names.lookup y.1=some .cell∧((cellsFrom (s.heap.objs.size+1) scope.names []).lookup y.1).isSome=true):=fun ⟨n,v⟩ hy=>by
    rcases S.par n (List.of_mem_zip hy).1 with q | q
    · exact .inl q
    · exact .inr ⟨q,PySem.W.cellsFrom_some _ _ _ (.inl q)⟩
  refine codeAny_call_function hr.depth (KX _ _ lk) rfl S.co S.gen rfl (PySem.W.codeRec_of KX hcd) (hb _ _ _ _ ?_)
  refine wpAny_newFunctionEnv_cells S.kind hkind fun env he s1 x=>?_
  subst he
  refine ⟨lim.keeps x.toInCall.keep,codeAny_func ?_⟩
  obtain ⟨t,ht,hq⟩:=hbody A outer s H vs Q E (hr.deeper _) hsp
  have I:Inv (ZgT CX P w K mg base N qual scope f cdv A outer s H E) [] (ZdC N vs) H s1:=Znr S hr.hd e0 hl r x
  refine wpAny_mono (ht [] s1 (ZdC N vs) H _ I hq) (fun fl s' hs=>?_) fun e s' hs=>hs
  have fin:∀{σ':St} {H':Hp} {v:V} {u:Value},Inv (ZgT CX P w K mg base N qual scope f cdv A outer s H E) [] σ' H' s'→RelV v u→Q v H'→CE outer P w H s Q u s':=
    fun {σ' H' v u} J rv q=>⟨v,H',J.os,J.bare,J.base,J.hok,rv,q⟩
  cases fl with
  | ret u=>
    obtain ⟨v,σ',H',J,rv,q⟩:=hs
    exact fin J rv q
  | next=>
    obtain ⟨σ',H',J,q⟩:=hs
    exact fin (v:=V.non) (u:=Value.none) J rfl q
  | brk=>
    obtain ⟨_,_,_,q⟩:=hs
    exact False.elim q
  | cont=>
    obtain ⟨_,_,_,q⟩:=hs
    exact False.elim q
end L2
namespace L2
open PySem PySem.Spec PyProof.Rows
section
variable {X:Cx} {x:Str} {p pos:Pos} {e:Expr} {es:List Expr} {t:TA} {id T:String} {r:List V→Hp→VK→Prop}
def tCB (r:List V→Hp→VK→Prop) (t:TA):TE:=fun σ H Q=>t σ H fun vs H1=>r vs H1 Q
theorem ZpD (hc:CallR X (.builtin id) r) (hg:Gl X x) (hm:X.mg x=none) (hv:bootBuiltins x=some (.builtin id)) (ha:PA X (e::es) t) (hn:x≠"__name__":=by decide) (hdb:(x == ("__debug__":Str))=false:=by decide)
    (he:starEach (e::es) X.env=(false,eval e X.env)::starEach es X.env:=by rfl) (hpl:(backTo pos (starEach es X.env)).any (·.1)=false:=by rfl):PE X (.Call (.Name x p) (e::es) [] pos) (tCB r t):=by
  intro pins s σ H Q I h
  refine wpAny_Call_Name_kw (Zhs I hg hm hv ?_ hn hdb)
  exact PyProof.Rows.callWith_builtin1 (thn (ha pos pins s σ H _ I h) fun us s1 ⟨vs,H1,I1,r1,q1⟩=>hc pins s1 σ H1 vs us Q I1 r1 q1) he hpl
theorem Zng (hc:CallR X (.type T) r) (hg:Gl X x) (hm:X.mg x=none) (hv:bootBuiltins x=some (.type T)) (ha:PA X (e::es) t) (hn:x≠"__name__":=by decide) (hdb:(x == ("__debug__":Str))=false:=by decide)
    (he:starEach (e::es) X.env=(false,eval e X.env)::starEach es X.env:=by rfl) (hpl:(backTo pos (starEach es X.env)).any (·.1)=false:=by rfl):PE X (.Call (.Name x p) (e::es) [] pos) (tCB r t):=by
  intro pins s σ H Q I h
  refine wpAny_Call_Name_kw (Zhs I hg hm hv ?_ hn hdb)
  exact PyProof.Rows.callWith_type1 (thn (ha pos pins s σ H _ I h) fun us s1 ⟨vs,H1,I1,r1,q1⟩=>hc pins s1 σ H1 vs us Q I1 r1 q1) he hpl
end
end L2
namespace HT
open PySem PyProof.Rows
section
open PySem.SeqAt
open PySem.AutoSeq1 (wpAny_loadPart')
open PySem.MeetsSeq PySem.MeetsSeq2 PySem.MeetsSeq3
end
section
variable {prog:Program} {w:World} {A:Around} {E:Value→Shared→Prop} {s:Shared}
theorem cat_tup {t b:Addr} {vs ws:List Value} {Q:Value→Shared→Prop} (ht:IsTup s.heap t vs.toArray) (hb:IsTup s.heap b ws.toArray) (hv:vs≠[])
    (h1:ws=[]→Q (.ref t) s) (h2:ws≠[]→Q (.ref s.heap.objs.size) { s with heap:=s.heap.push { cls:=.type "tuple",data:=.seq (vs++ws).toArray } })
    (hsz:vs.length+ws.length≤sizeLine):wpAny (model prog w) A (binaryOp .Add (.ref t) (.ref b)) Q E s:=by
  obtain ⟨⟨cls,dd,data,sl⟩,ho,hc,n,hd⟩:=id ht
  obtain ⟨⟨cls2,dd2,data2,sl2⟩,ho2,hc2,n2,hd2⟩:=id hb
  simp only at hc hd hc2 hd2
  subst hc hd hc2 hd2
  have e:vs.toArray++ws.toArray=(vs++ws).toArray:=by simp
  by_cases hw:ws=[]
  · exact concat_meets ⟨_,ho,rfl⟩ ⟨_,ho2,rfl⟩ noFill_tuple_add seq_tuple_add PySem.F.slot_tuple_add PySem.F.entry_tuple_add (PySem.F.args_tuple_add_2 _ _)
      (tuple_addW1 t b vs.toArray ws.toArray n n2 dd dd2 sl sl2 (by simpa using hv) (by simp [hw])) ⟨ho,ho2,h1 hw⟩
  · refine concat_meets ⟨_,ho,rfl⟩ ⟨_,ho2,rfl⟩ noFill_tuple_add seq_tuple_add PySem.F.slot_tuple_add PySem.F.entry_tuple_add (PySem.F.args_tuple_add_2 _ _)
      (tuple_addW2 t b vs.toArray ws.toArray n n2 dd dd2 sl sl2 (by simpa using hv) (by simpa using hw) (by rw [List.size_toArray,List.size_toArray]; exact hsz)) ⟨ho,ho2,?_⟩
    rw [e]
    exact h2 hw
def sIx (n d:Nat):Option Int→Nat
  | none=>d
  | some v=>if v<0 then (v+(n:Int)).toNat else min v.toNat n
theorem sIx_none (n d:Nat):sIx n d none=d:=rfl
theorem sIx_nat (n d k:Nat):sIx n d (some (k:Int))=min k n:=by
  show (if (k:Int)<0 then ((k:Int)+(n:Int)).toNat else min (k:Int).toNat n)=min k n
  rw [if_neg (by omega),Int.toNat_natCast]
theorem Zte (n d:Nat) (hd:d≤n) (o:Option Int):sIx n d o≤n:=by
  cases o with
  | none=>exact hd
  | some v=>
    show (if v<0 then (v+(n:Int)).toNat else min v.toNat n)≤n
    by_cases hv:v<0
    · rw [if_pos hv]; omega
    · rw [if_neg hv]; exact Nat.min_le_right _ _
theorem ZmN (v:Int) (n d:Nat):(if v<0 then max (v+(n:Int)) 0 else min v (n:Int))=((sIx n d (some v):Nat):Int):=by
  show (if v<0 then max (v+(n:Int)) 0 else min v (n:Int))=(((if v<0 then (v+(n:Int)).toNat else min v.toNat n):Nat):Int)
  by_cases hv:v<0
  · simp only [if_pos hv]; omega
  · simp only [if_neg hv]; omega
theorem Zl6 (lo hi:Option Int) (n:Nat):Builtin.Slice.sliceAdjust lo hi 1 (n:Int)=(((sIx n 0 lo:Nat):Int),((sIx n n hi:Nat):Int)):=by
  have h1:¬((1:Int)<0):=by omega
  unfold Builtin.Slice.sliceAdjust
  simp only [h1,if_false]
  refine Prod.ext ?_ ?_
  · cases lo with
    | none=>rfl
    | some v=>exact ZmN v n 0
  · cases hi with
    | none=>rfl
    | some v=>exact ZmN v n n
theorem ZlJ (i j:Nat):Builtin.Slice.slicePlaces (i:Int) (j:Int) 1=j-i:=by
  unfold Builtin.Slice.slicePlaces
  have h1:(1:Int) > 0:=by omega
  simp only [h1,if_true,Int.ediv_one]
  split<;>omega
theorem Zhe {v:Value} {o:Option Int} {Q:Option Int→Shared→Prop} (p:IsPart v o) (h:Q o s):wpAny (model prog w) A (Builtin.Slice.slicePartIndex v) Q E s:=by
  cases p with
  | none=>exact slicePart_none h
  | int i t=>exact slicePart_int h
theorem Zf7 {sl:Addr} {vl vu:Value} {lo hi:Option Int} {n:Nat} {Q:Int×Int×Nat→Shared→Prop} (hs:s.heap.IsSliceOf sl vl vu .none) (pl:IsPart vl lo) (pu:IsPart vu hi)
    (h:Q (((sIx n 0 lo:Nat):Int),1,sIx n n hi-sIx n 0 lo) s):wpAny (model prog w) A (Builtin.Slice.sliceApplied (.ref sl) (pure (n:Int))) Q E s:=by
  obtain ⟨os,hos,hcs,hds⟩:=id hs
  unfold Builtin.Slice.sliceApplied Builtin.Slice.sliceFields
  refine wpAny_bind (wpAny_bind (wpAny_field hos hds (x:=vl) rfl (wpAny_bind (wpAny_field hos hds (x:=vu) rfl (wpAny_bind (wpAny_field hos hds (x:=.none) rfl (wpAny_pure ?_)))))))
  refine wpAny_bind (slicePart_none ?_)
  show wpAny _ _ (if ((1:Int) == 0)=true then _ else _) _ _ s
  rw [if_neg (by decide)]
  refine wpAny_bind (Zhe pl (wpAny_bind (Zhe pu (wpAny_bind (wpAny_pure ?_)))))
  show wpAny _ _ (match Builtin.Slice.sliceAdjust lo hi 1 (n:Int) with | (lo,hi)=>pure (lo,(1:Int),Builtin.Slice.slicePlaces lo hi 1)) _ _ s
  rw [Zl6 lo hi n]
  show wpAny _ _ (pure (((sIx n 0 lo:Nat):Int),(1:Int),Builtin.Slice.slicePlaces ((sIx n 0 lo:Nat):Int) ((sIx n n hi:Nat):Int) 1)) _ _ s
  rw [ZlJ]
  exact wpAny_pure h
theorem Zps (xs:Array Value) (i k:Nat):((List.range k).filterMap fun (m:Nat)=>xs[((i:Int)+(m:Int)*1).toNat]?).toArray=((xs.toList.drop i).take k).toArray:=by
  have e:(fun (m:Nat)=>xs[((i:Int)+(m:Int)*1).toNat]?)=fun m=>xs[i+m]?:=by
    funext m
    have:((i:Int)+(m:Int)*1).toNat=i+m:=by omega
    rw [this]
  rw [e]
  have:=pick_run xs i k
  rw [List.filterMap_map] at this
  have e2:((fun x=>xs[x]?)∘fun x=>i+x)=fun m=>xs[i+m]?:=rfl
  rw [e2] at this
  rw [this]
theorem getItem_tuple_cut {t sl:Addr} {items:Array Value} {vl vu:Value} {lo hi:Option Int} {Q:Value→Shared→Prop} (ht:IsTup s.heap t items) (hs:s.heap.IsSliceOf sl vl vu .none) (pl:IsPart vl lo) (pu:IsPart vu hi)
    (hw:¬(sIx items.size 0 lo=0∧sIx items.size items.size hi=items.size))
    (h:Q (.ref s.heap.objs.size) { s with heap:=s.heap.push { cls:=.type "tuple",data:=.seq ((items.toList.drop (sIx items.size 0 lo)).take (sIx items.size items.size hi-sIx items.size 0 lo)).toArray } })
    (hsz:items.size≤sizeLine):wpAny (model prog w) A (getItem (.ref t) (.ref sl)) Q E s:=by
  have htake:sizeOk (.seq ((items.toList.drop (sIx items.size 0 lo)).take (sIx items.size items.size hi-sIx items.size 0 lo)).toArray):=by
    show ((items.toList.drop (sIx items.size 0 lo)).take (sIx items.size items.size hi-sIx items.size 0 lo)).toArray.size≤sizeLine
    rw [List.size_toArray,List.length_take,List.length_drop,Array.length_toList]
    omega
  have hj:sIx items.size items.size hi≤items.size:=Zte _ _ (Nat.le_refl _) hi
  obtain ⟨os,hos,hcs,hds⟩:=id hs
  have hTs:s.TypeIs (.ref sl) "slice":=⟨os,hos,hcs⟩
  unfold getItem
  try with_reducible refine wpAny_holding ?_
  first | refine wpAny_bind (wpAny_pure ?_) | skip
  refine wpAny_bind (wpAny_sequenceKey ht.typeIs (by decide) ?_)
  refine wpAny_bind (wpAny_callSpecial?_slot (name:=Str.ofString "__getitem__") ht.typeIs PyProof.Rows.slot_tuple_getitem
    (wpAny_call_entry PyProof.Rows.slot_tuple_getitem ht.typeIs entry_tuple_getitem ?_ (args_tuple_getitem _ _)))
  show wpAny _ _ (Builtin.Tuple.tupleItemsOf (.ref t) >>= _) _ _ s
  refine wpAny_bind (tupleItemsOf_ ht ?_)
  refine wpAny_bind (wpAny_typeOf hTs ?_)
  rw [if_pos (by decide)]
  refine wpAny_bind (Zf7 hs pl pu ?_)
  have hno:¬((((sIx items.size 0 lo:Nat):Int) == 0 && (1:Int) == 1 && (sIx items.size items.size hi-sIx items.size 0 lo) == items.size)=true):=by
    intro q
    rw [Bool.and_eq_true,Bool.and_eq_true] at q
    have q1:((sIx items.size 0 lo:Nat):Int)=0:=eq_of_beq q.1.1
    have q2:sIx items.size items.size hi-sIx items.size 0 lo=items.size:=eq_of_beq q.2
    exact hw ⟨by omega,by omega⟩
  show wpAny _ _ (if (((sIx items.size 0 lo:Nat):Int) == 0 && (1:Int) == 1 && (sIx items.size items.size hi-sIx items.size 0 lo) == items.size)=true then _ else _) _ _ s
  rw [if_neg hno,Zps]
  first
    | exact wpAny_bind (m:=Builtin.Tuple.tupleExact _) (wpAny_newObj_type (wpAny_pure ⟨_,rfl,wpAny_pure h⟩) htake)
    | exact wpAny_bind (m:=Builtin.Tuple.tupleExact _) (wpAny_newObj_type (wpAny_bind (wpAny_pure (wpAny_pure ⟨_,rfl,wpAny_pure h⟩))) htake)
    | exact wpAny_bind (wpAny_bind (m:=Builtin.Tuple.tupleExact _) (wpAny_newObj_type (wpAny_pure (wpAny_pure ⟨_,rfl,wpAny_pure h⟩)) htake))
    | exact wpAny_bind (wpAny_bind (m:=Builtin.Tuple.tupleExact _) (wpAny_newObj_type (wpAny_pure ⟨_,rfl,wpAny_pure h⟩) htake))
end
end HT
namespace L2
open PySem PySem.Spec PyProof.Rows
abbrev TO:=St→Hp→(Option Int→Hp→Prop)→Prop
def PO (X:Cx) (e:Option Expr) (t:TO):Prop:=
  ∀(pins:List (Addr×Obj)) (s:Shared) (σ:St) (H:Hp) (Q:Option Int→Hp→Prop),Inv X pins σ H s→t σ H Q→
    wpAny (model X.prog X.w) X.A (evalPart e X.env) (fun u s'=>∃o H',Inv X pins σ H' s'∧IsPart u o∧Q o H') X.xe s
def Zq9:TO:=fun _ H Q=>Q none H
def ZuL (t:TE):TO:=fun σ H Q=>t σ H fun x H1=>∃i,x=.int i∧Q (some i) H1
section
variable {X:Cx} {e:Expr} {te:TE} {lo hi:Option Expr} {tl th:TO} {pos p2:Pos}
theorem Zrn:PO X none Zq9:=by
  intro pins s σ H Q I h
  rw [evalPart_none]
  exact wpAny_pure ⟨none,H,I,.none,h⟩
theorem Zrm (h:PE X e te):PO X (some e) (ZuL te):=by
  intro pins s σ H Q I hw
  rw [evalPart_some]
  refine thn (h pins s σ H _ I hw) fun u s1 ⟨x,H1,I1,r1,q1⟩=>?_
  obtain ⟨i,rfl,q⟩:=q1
  obtain ⟨t,rfl⟩:=r1
  exact ⟨some i,H1,I1,.int i t,q⟩
def SlR (X:Cx) (r:V→Option Int→Option Int→Hp→VK→Prop):Prop:=
  ∀(pins:List (Addr×Obj)) (s:Shared) (σ:St) (H:Hp) (x:V) (v vl vu:Value) (lo hi:Option Int) (sl:Addr) (Q:VK),Inv X pins σ H s→RelV x v→s.heap.IsSliceOf sl vl vu .none→IsPart vl lo→IsPart vu hi→r x lo hi H Q→
    ∃T id,typeLookup (.type T) "__getitem__"=pure (some (.builtin id))∧s.TypeIs v T∧wpAny (model X.prog X.w) X.A (getItem v (.ref sl)) (EP X pins σ Q) X.xe s
theorem SlR.or {r r':V→Option Int→Option Int→Hp→VK→Prop} (h:SlR X r) (h':SlR X r'):SlR X (fun x lo hi H Q=>r x lo hi H Q∨r' x lo hi H Q):=by
  intro pins s σ H x v vl vu lo hi sl Q I rx hs pl pu q
  rcases q with q | q
  · exact h pins s σ H x v vl vu lo hi sl Q I rx hs pl pu q
  · exact h' pins s σ H x v vl vu lo hi sl Q I rx hs pl pu q
def tSl (r:V→Option Int→Option Int→Hp→VK→Prop) (te:TE) (tl th:TO):TE:=fun σ H Q=>te σ H fun x H1=>tl σ H1 fun l H2=>th σ H2 fun u H3=>r x l u H3 Q
theorem Zpu {r:V→Option Int→Option Int→Hp→VK→Prop} (hr:SlR X r) (he:PE X e te) (hl:PO X lo tl) (hu:PO X hi th):PE X (.Subscript e (.Slice lo hi none p2) pos) (tSl r te tl th):=by
  intro pins s σ H Q I h
  refine Subscript_ (thn (he pins s σ H _ I h) fun v s1 ⟨x,H1,I1,r1,q1⟩=>?_)
  refine wpAny_Slice (thn (hl pins s1 σ H1 _ I1 q1) fun vl s2 ⟨l,H2,I2,pl,q2⟩=>thn (hu pins s2 σ H2 _ I2 q2) fun vu s3 ⟨u,H3,I3,pu,q3⟩=>?_)
  rw [evalPart_none]
  refine wpAny_pure ?_
  have I4:Inv X pins σ H3 { s3 with heap:=s3.heap.push { cls:=.type "slice",data:=.fields #[vl,vu,.none] } }:=I3.kept (t':=s3.toks) fun b ob q=>Heap.get?_push_of_some _ q
  obtain ⟨T,id,hT,ht,hg⟩:=hr pins { s3 with heap:=s3.heap.push { cls:=.type "slice",data:=.fields #[vl,vu,.none] } } σ H3 x v vl vu l u s3.heap.objs.size Q I4 r1 (Heap.IsSliceOf.new ..) pl pu q3
  show wpAny (model X.prog X.w) X.A (subscriptTail e (.Slice lo hi none p2) v (.ref s3.heap.objs.size)) (EP X pins σ Q) X.xe { s3 with heap:=s3.heap.push { cls:=.type "slice",data:=.fields #[vl,vu,.none] } }
  exact tail_any (ops:=[.ref s3.heap.objs.size,v]) ht hT hg (by with_unfolding_all rfl)
def Zll (xs:List V) (lo hi:Option Int):List V:=(xs.drop (HT.sIx xs.length 0 lo)).take (HT.sIx xs.length xs.length hi-HT.sIx xs.length 0 lo)
theorem ZgD (xs:List V) (lo hi:Option Int):(Zll xs lo hi).length≤xs.length:=by
  unfold Zll
  rw [List.length_take,List.length_drop]
  omega
def ZyE (K:PySem.W.Frag):V→Option Int→Option Int→Hp→VK→Prop:=fun x lo hi H Q=>∃a xs,x=.ref a∧SqT K H a xs∧
  ¬(HT.sIx xs.length 0 lo=0∧HT.sIx xs.length xs.length hi=xs.length)∧∀p,H p=none→Q (.ref p) (upd H p (.tup (Zll xs lo hi)))
theorem Ztb:SlR X (ZyE X.K):=by
  intro pins s σ H x v vl vu lo hi sl Q I rx hs pl pu h
  obtain ⟨a,xs,rfl,hx,hw,q⟩:=h
  cases rx
  obtain ⟨its,r,ht,hz⟩:=I.tuple hx
  have hlen:its.toArray.size=xs.length:=by rw [List.size_toArray]; exact r.length.symm
  refine ⟨"tuple",_,PyProof.Rows.slot_tuple_getitem.lookup,ht.typeIs,?_⟩
  refine HT.getItem_tuple_cut ht hs pl pu (by rw [hlen]; exact hw) ?_ (by rw [hlen]; exact hz)
  rw [hlen]
  refine ⟨.ref s.heap.objs.size,_,I.laid (t':=s.toks) (o:=.tup (Zll xs lo hi)) (fun b ob q=>Heap.get?_push_of_some _ q) (Nat.le_refl _) ?_,rfl,q _ (I.hok.fresh (Nat.le_refl _))⟩
  exact ⟨Nat.le_trans (ZgD xs lo hi) hz,_,(r.drop (HT.sIx xs.length 0 lo)).take (HT.sIx xs.length xs.length hi-HT.sIx xs.length 0 lo),IsTup.new _ _⟩
def Zu0 (K:PySem.W.Frag):R2:=fun x y H Q=>∃a b xs ys,x=.ref a∧y=.ref b∧SqT K H a xs∧SqT K H b ys∧xs≠[]∧xs.length+ys.length≤sizeLine∧
  (ys=[]→Q (.ref a) H)∧(ys≠[]→∀p,H p=none→Q (.ref p) (upd H p (.tup (xs++ys))))
theorem Vals.nil_iff {xs:List V} {us:List Value} (r:Vals xs us):us=[]↔xs=[]:=by
  cases r with
  | nil=>simp
  | cons _ _=>simp
theorem op_catT:OpR X (binaryOp .Add) (Zu0 X.K):=by
  intro pins s σ H x y v u Q I rx ry h
  obtain ⟨a,b,xs,ys,rfl,rfl,ha,hb,hx,hz,q1,q2⟩:=h
  cases rx
  cases ry
  obtain ⟨its,r1,p1,_⟩:=I.tuple ha
  obtain ⟨its2,r2,p2,_⟩:=I.tuple hb
  refine HT.cat_tup p1 p2 (fun z=>hx (r1.nil_iff.mp z)) (fun z=>⟨.ref a,H,I,rfl,q1 (r2.nil_iff.mp z)⟩) (fun z=>?_) (by rw [←r1.length,←r2.length]; exact hz)
  refine ⟨.ref s.heap.objs.size,_,I.laid (t':=s.toks) (o:=.tup (xs++ys)) (fun b ob q=>Heap.get?_push_of_some _ q) (Nat.le_refl _) ?_,rfl,q2 (fun w=>z (r2.nil_iff.mpr w)) _ (I.hok.fresh (Nat.le_refl _))⟩
  exact ⟨by rw [List.length_append]; exact hz,_,r1.append r2,IsTup.new _ _⟩
end
end L2
namespace L2
open PySem PySem.Spec PyProof.Rows
def ixN (n:Nat) (i:Int):Option Nat:=if 0≤i then (if i<n then some i.toNat else none) else if -(n:Int)≤i then some (i+n).toNat else none
def atI {α:Type} (xs:List α) (i:Int):Option α:=(ixN xs.length i).bind fun j=>xs[j]?
theorem ZrK {n:Nat} {i:Int} {j:Nat} (h:ixN n i=some j):seqIndex? i n=some j∧j<n∧-(n:Int)≤i∧i<n:=by
  unfold ixN at h
  by_cases h0:0≤i
  · rw [if_pos h0] at h
    by_cases h1:i<n
    · rw [if_pos h1] at h
      have e:i.toNat=j:=Option.some.inj h
      exact ⟨by rw [seqIndex_of h0 h1,e],by omega,by omega,h1⟩
    · rw [if_neg h1] at h; cases h
  · rw [if_neg h0] at h
    by_cases h1 : -(n:Int)≤i
    · rw [if_pos h1] at h
      have e:(i+n).toNat=j:=Option.some.inj h
      exact ⟨by rw [seqIndex_neg (by omega) h1,e],by omega,h1,by omega⟩
    · rw [if_neg h1] at h; cases h
theorem Zje {α:Type} {xs:List α} {i:Int} {v:α} (h:atI xs i=some v):∃j,seqIndex? i xs.length=some j∧xs[j]?=some v∧j<xs.length∧-(xs.length:Int)≤i∧i<xs.length:=by
  unfold atI at h
  cases e:ixN xs.length i with
  | none=>rw [e] at h; cases h
  | some j=>
    rw [e] at h
    obtain ⟨h1,h2,h3,h4⟩:=ZrK e
    exact ⟨j,h1,h,h2,h3,h4⟩
theorem Zg1 {α:Type} {xs:List α} {j:Nat} {v:α} (h:xs[j]?=some v):atI xs (j:Int)=some v:=by
  have hj:j<xs.length:=(List.getElem?_eq_some_iff.mp h).1
  have e:ixN xs.length (j:Int)=some j:=by
    unfold ixN
    rw [if_pos (by omega),if_pos (by omega)]; simp
  unfold atI; rw [e]; exact h
def ZmY (b:Expr):Prop:=∀o i,subscripted b false o i=operate [o,i] (getItem o i)
def IxR (X:Cx) (r:R2):Prop:=
  ∀(value slice:Expr) (pins:List (Addr×Obj)) (s:Shared) (σ:St) (H:Hp) (x y:V) (v u:Value) (Q:VK),Inv X pins σ H s→RelV x v→RelV y u→r x y H Q→
    subscripted slice false v u=operate [v,u] (getItem v u)→wpAny (model X.prog X.w) X.A (subscriptTail value slice v u) (EP X pins σ Q) X.xe s
def MtR (X:Cx) (id:String) (r:V→List V→Hp→VK→Prop):Prop:=
  ∀(pins:List (Addr×Obj)) (s:Shared) (σ:St) (H:Hp) (x:V) (xs:List V) (v:Value) (us:List Value) (Q:VK),Inv X pins σ H s→RelV x v→Vals xs us→r x xs H Q→
    wpAny (model X.prog X.w) X.A (call (.builtin id) (v::us)) (EP X pins σ Q) X.xe s
section
variable {X:Cx} {a b:Expr} {ta tb:TE} {pos:Pos}
theorem IxR.or {r r':R2} (h:IxR X r) (h':IxR X r'):IxR X (fun x y H Q=>r x y H Q∨r' x y H Q):=by
  intro value slice pins s σ H x y v u Q I rx ry q hs
  rcases q with q | q
  · exact h value slice pins s σ H x y v u Q I rx ry q hs
  · exact h' value slice pins s σ H x y v u Q I rx ry q hs
theorem MtR.or {id:String} {r r':V→List V→Hp→VK→Prop} (h:MtR X id r) (h':MtR X id r'):MtR X id (fun x xs H Q=>r x xs H Q∨r' x xs H Q):=by
  intro pins s σ H x xs v us Q I rx rs q
  rcases q with q | q
  · exact h pins s σ H x xs v us Q I rx rs q
  · exact h' pins s σ H x xs v us Q I rx rs q
theorem Zva {r:R2} (hr:IxR X r) (ha:PE X a ta) (hb:PE X b tb) (hs:ZmY b):PE X (.Subscript a b pos) (tOp r ta tb):=by
  intro pins s σ H Q I h
  exact Subscript_ (ZtX ha hb I h fun v u s2 x y H2 I2 rx ry q=>hr a b pins s2 σ H2 x y v u Q I2 rx ry q (hs _ _))
def ZuZ (K:PySem.W.Frag):R2:=fun x y H Q=>∃p xs i v,x=.ref p∧y=.int i∧SqL K H p xs∧atI xs i=some v∧Q v H
def ZuX (K:PySem.W.Frag):R2:=fun x y H Q=>∃p xs i v,x=.ref p∧y=.int i∧SqT K H p xs∧atI xs i=some v∧Q v H
def ZuY:R2:=fun x y H Q=>∃z i c,x=.str z∧y=.int i∧z.length≤sizeLine∧atI z.cps.toList i=some c∧Q (.str ⟨#[c]⟩) H
theorem ix_list:IxR X (ZuZ X.K):=by
  intro value slice pins s σ H x y v u Q I rx ry h hs
  obtain ⟨p,xs,i,z,rfl,rfl,hq,he,q⟩:=h
  cases rx
  obtain ⟨t,rfl⟩:=ry
  obtain ⟨its,r,pl,hz⟩:=I.list hq
  obtain ⟨j,h1,h2,h3,h4,h5⟩:=Zje he
  obtain ⟨w,ew,rw'⟩:=r.get h2
  have hl:=r.length
  have hn:=Zge
  have fin:EP X pins σ Q w s:=⟨z,H,I,rw',q⟩
  by_cases h0:0≤i
  · have hj:i.toNat=j:=by
      rw [seqIndex_of h0 h5] at h1
      exact Option.some.inj h1
    exact item_listR pl.isList h0 (by omega) (by rw [hj]; simpa using ew) fin hs
  · have hj:(i+(its.toArray.size:Int)).toNat=j:=by
      rw [seqIndex_neg (by omega) h4] at h1
      rw [List.size_toArray,←hl]
      exact Option.some.inj h1
    exact subscriptTail_builtinR (x:=w) pl.isList.typeIs slot_list_getitem.lookup
      (wpAny_getItem_list_neg (Q:=fun r s'=>r=w∧EP X pins σ Q r s') pl.isList (by omega) (by rw [List.size_toArray]<;>omega) (by omega) (by rw [hj]; simpa using ew) ⟨rfl,fin⟩) hs
theorem ix_tup:IxR X (ZuX X.K):=by
  intro value slice pins s σ H x y v u Q I rx ry h hs
  obtain ⟨p,xs,i,z,rfl,rfl,hq,he,q⟩:=h
  cases rx
  obtain ⟨t,rfl⟩:=ry
  obtain ⟨its,r,pl,hz⟩:=I.tuple hq
  obtain ⟨j,h1,h2,h3,h4,h5⟩:=Zje he
  obtain ⟨w,ew,rw'⟩:=r.get h2
  have hl:=r.length
  have hn:=Zge
  have fin:EP X pins σ Q w s:=⟨z,H,I,rw',q⟩
  exact subscriptTail_builtinR (x:=w) pl.typeIs slot_tuple_getitem.lookup
    (getItem_tuple (j:=j) (Q:=fun r s'=>r=w∧EP X pins σ Q r s') pl (by omega) (by omega) (by rw [List.size_toArray,←hl]; exact h1) (by simpa using ew) ⟨rfl,fin⟩) hs
theorem ZtP:IxR X ZuY:=by
  intro value slice pins s σ H x y v u Q I rx ry h hs
  obtain ⟨z,i,c,rfl,rfl,hz,he,q⟩:=h
  obtain ⟨t,rfl⟩:=rx
  obtain ⟨t',rfl⟩:=ry
  obtain ⟨j,h1,h2,h3,h4,h5⟩:=Zje he
  have hl:z.cps.toList.length=z.length:=by simp [Str.length]
  rw [hl] at h1 h4 h5
  have hn:=Zge
  exact tail_any (typeIs_str s z t) slot_str_getitem.lookup (getItem_str (c:=c) (by
    have e1:decide (i < -(2 ^ 63:Int))=false:=decide_eq_false (by omega)
    have e2:decide (i≥2 ^ 63)=false:=decide_eq_false (by omega)
    rw [e1,e2,Bool.or_false]) (by rw [h1]; simpa using h2) ⟨.str ⟨#[c]⟩,H,I.tok _,⟨_,rfl⟩,q⟩) hs
def rIx (K:PySem.W.Frag):R2:=fun x y H Q=>ZuZ K x y H Q∨ZuX K x y H Q∨ZuY x y H Q
theorem ZtQ:IxR X (rIx X.K):=ix_list.or (ix_tup.or ZtP)
theorem Inv.lst {pins:List (Addr×Obj)} {σ:St} {H:Hp} {s:Shared} {p:Addr} {xs:List V} (I:Inv X pins σ H s) (h:H p=some (.lst xs)) :
    ∃(its:List Value) (n:Nat),Vals xs its∧s.heap.get? p=some { cls:=.type "list",data:=.seq its.toArray n }∧xs.length≤sizeLine:=by
  obtain ⟨z,its,n,r,e⟩:=I.hok p _ h
  exact ⟨its,n,r,e,z⟩
theorem ZiL (lo hi:Option Int) (n:Nat):(sliceBounds lo hi none n).1=((HT.sIx n 0 lo:Nat):Int)∧(sliceBounds lo hi none n).2.1=((HT.sIx n n hi:Nat):Int)∧(sliceBounds lo hi none n).2.2=1:=by
  refine ⟨?_,?_,rfl⟩
  · cases lo with
    | none=>simp [sliceBounds,HT.sIx]
    | some i=>
      simp only [sliceBounds,HT.sIx,Option.getD_none,show (1:Int) > 0 by decide,if_true]
      by_cases h:i<0
      · simp only [h,if_true]<;>omega
      · simp only [h,if_false]<;>omega
  · cases hi with
    | none=>simp [sliceBounds,HT.sIx]
    | some i=>
      simp only [sliceBounds,HT.sIx,Option.getD_none,show (1:Int) > 0 by decide,if_true]
      by_cases h:i<0
      · simp only [h,if_true]<;>omega
      · simp only [h,if_false]<;>omega
theorem Zh1 (its:List Value) (lo hi:Option Int):slicePick its.toArray lo hi none=((its.drop (HT.sIx its.length 0 lo)).take (HT.sIx its.length its.length hi-HT.sIx its.length 0 lo)).toArray:=by
  obtain ⟨h1,h2,h3⟩:=ZiL lo hi its.toArray.size
  unfold slicePick
  rw [h1,h2,h3]
  simp only [sliceRange_one,pick_run,List.size_toArray]<;>rfl
def ZuV (K:PySem.W.Frag):V→Option Int→Option Int→Hp→VK→Prop:=fun x lo hi H Q=>∃a xs,x=.ref a∧SqL K H a xs∧∀p,H p=none→Q (.ref p) (upd H p (.lst (Zll xs lo hi)))
theorem sl_list:SlR X (ZuV X.K):=by
  intro pins s σ H x v vl vu lo hi sl Q I rx hs pl pu h
  obtain ⟨a,xs,rfl,hx,q⟩:=h
  cases rx
  obtain ⟨its,r,ht,hz⟩:=I.list hx
  have hlen:=r.length
  refine ⟨"list",_,slot_list_getitem.lookup,ht.isList.typeIs,?_⟩
  refine wpAny_getItem_list_slice ht.isList hs pl pu .none (by simp) ?_ (by rw [List.size_toArray]<;>omega)
  rw [Zh1,←hlen]
  refine ⟨.ref s.heap.objs.size,_,I.laid (t':=s.toks) (o:=.lst (Zll xs lo hi)) (fun b ob q=>Heap.get?_push_of_some _ q) (Nat.le_refl _) ?_,rfl,q _ (I.hok.fresh (Nat.le_refl _))⟩
  exact ⟨Nat.le_trans (ZgD xs lo hi) hz,_,0,(r.drop (HT.sIx xs.length 0 lo)).take (HT.sIx xs.length xs.length hi-HT.sIx xs.length 0 lo),Heap.get?_push_size _ rfl⟩
def Zdj:V→Bool
  | .non=>true
  | .bl _=>true
  | .int _=>true
  | .str _=>true
  | _=>false
def eqV:V→V→Bool
  | .non,.non=>true
  | .bl a,.bl b=>a == b
  | .bl a,.int b=>(if a then 1 else 0) == b
  | .int a,.bl b=>a == (if b then 1 else 0)
  | .int a,.int b=>a == b
  | .str a,.str b=>a == b
  | _,_=>false
theorem ZtV {A:Around} {s:Shared} {y x:V} {u v:Value} (ry:RelV y u) (rx:RelV x v) (fy:Zdj y=true) (fx:Zdj x=true):SeqAt.EqAt A s u v (eqV y x):=by
  cases y with
  | non=>
    cases ry
    cases x with
    | non=>cases rx; exact SeqAt.EqAt.same _
    | bl b=>cases rx; exact SeqAt.EqAt.none_bool b
    | int b=>obtain ⟨t,rfl⟩:=rx; exact SeqAt.EqAt.none_int b t
    | str b=>obtain ⟨t,rfl⟩:=rx; exact SeqAt.EqAt.none_str b t
    | _=>exact absurd (show false=true from fx) Bool.false_ne_true
  | bl a=>
    cases ry
    cases x with
    | non=>cases rx; exact SeqAt.EqAt.bool_none a
    | bl b=>cases rx; exact SeqAt.EqAt.bool_bool a b
    | int b=>obtain ⟨t,rfl⟩:=rx; exact SeqAt.EqAt.bool_int a b t
    | str b=>obtain ⟨t,rfl⟩:=rx; exact SeqAt.EqAt.bool_str a b t
    | _=>exact absurd (show false=true from fx) Bool.false_ne_true
  | int a=>
    obtain ⟨t',rfl⟩:=ry
    cases x with
    | non=>cases rx; exact SeqAt.EqAt.int_none a t'
    | bl b=>cases rx; exact SeqAt.EqAt.int_bool a t' b
    | int b=>obtain ⟨t,rfl⟩:=rx; exact SeqAt.EqAt.int_int a t' b t
    | str b=>obtain ⟨t,rfl⟩:=rx; exact SeqAt.EqAt.int_str a t' b t
    | _=>exact absurd (show false=true from fx) Bool.false_ne_true
  | str a=>
    obtain ⟨t',rfl⟩:=ry
    cases x with
    | non=>cases rx; exact SeqAt.EqAt.str_none a t'
    | bl b=>cases rx; exact SeqAt.EqAt.str_bool a t' b
    | int b=>obtain ⟨t,rfl⟩:=rx; exact SeqAt.EqAt.str_int a t' b t
    | str b=>obtain ⟨t,rfl⟩:=rx; exact SeqAt.EqAt.str_str a t' b t
    | _=>exact absurd (show false=true from fx) Bool.false_ne_true
  | _=>exact absurd (show false=true from fy) Bool.false_ne_true
def eqU (x:V) (u:Value):Bool:=match u with
  | .none=>eqV .non x
  | .bool b=>eqV (.bl b) x
  | .int i _=>eqV (.int i) x
  | .str z _=>eqV (.str z) x
  | _=>false
theorem Zqj {x y:V} {u:Value} (r:RelV y u) (f:Zdj y=true):eqU x u=eqV y x:=by
  cases y with
  | non=>cases r; rfl
  | bl b=>cases r; rfl
  | int i=>obtain ⟨t,rfl⟩:=r; rfl
  | str z=>obtain ⟨t,rfl⟩:=r; rfl
  | _=>exact absurd (show false=true from f) Bool.false_ne_true
theorem Zf2 {x:V}:∀{xs:List V} {us:List Value},Vals xs us→xs.all Zdj=true→us.any (eqU x)=xs.any fun y=>eqV y x
  | _,_,.nil,_=>rfl
  | y::xs,u::us,.cons r t,f=>by
    rw [List.all_cons,Bool.and_eq_true] at f
    rw [List.any_cons,List.any_cons,Zqj r f.1,Zf2 t f.2]
theorem ZeB {A:Around} {s:Shared} {x:V} {v:Value} (rx:RelV x v) (fx:Zdj x=true):∀{xs:List V} {us:List Value},Vals xs us→xs.all Zdj=true→∀u∈us,SeqAt.EqAt A s u v (eqU x u)
  | _,_,.nil,_=>fun u hu=>by cases hu
  | y::xs,u::us,.cons r t,f=>fun u' hu=>by
    rw [List.all_cons,Bool.and_eq_true] at f
    rcases List.mem_cons.mp hu with rfl | hu
    · rw [Zqj r f.1]; exact ZtV r rx f.1 fx
    · exact ZeB rx fx t f.2 u' hu
def inV (x:V) (xs:List V):Bool:=xs.any fun y=>eqV y x
def rIn (K:PySem.W.Frag) (neg:Bool):R2:=fun x y H Q=>∃p xs,y=.ref p∧(SqL K H p xs∨SqT K H p xs)∧Zdj x=true∧xs.all Zdj=true∧Q (.bl (if neg then !inV x xs else inV x xs)) H
theorem Znh:OpR X (compareOp .In) (rIn X.K false):=by
  intro pins s σ H x y v u Q I rx ry h
  obtain ⟨p,xs,rfl,hq,fx,fs,q⟩:=h
  cases ry
  rcases hq with hq | hq
  · obtain ⟨its,r,pl,hz⟩:=I.list hq
    refine SeqAt.in_listAt (eqU x) pl.isList (fun w hw=>ZeB rx fx r fs w (by simpa using hw)) ⟨.bl _,H,I,rfl,?_⟩
    rw [show its.toArray.any (eqU x)=its.any (eqU x) by simp,Zf2 r fs]
    exact q
  · obtain ⟨its,r,pl,hz⟩:=I.tuple hq
    refine SeqAt.in_tupleAt (eqU x) pl (fun w hw=>ZeB rx fx r fs w (by simpa using hw)) ⟨.bl _,H,I,rfl,?_⟩
    rw [show its.toArray.any (eqU x)=its.any (eqU x) by simp,Zf2 r fs]
    exact q
theorem ZiS:OpR X (compareOp .NotIn) (rIn X.K true):=by
  intro pins s σ H x y v u Q I rx ry h
  obtain ⟨p,xs,rfl,hq,fx,fs,q⟩:=h
  cases ry
  rcases hq with hq | hq
  · obtain ⟨its,r,pl,hz⟩:=I.list hq
    refine SeqAt.notIn_listAt (eqU x) pl.isList (fun w hw=>ZeB rx fx r fs w (by simpa using hw)) ⟨.bl _,H,I,rfl,?_⟩
    rw [show its.toArray.any (eqU x)=its.any (eqU x) by simp,Zf2 r fs]
    exact q
  · obtain ⟨its,r,pl,hz⟩:=I.tuple hq
    refine SeqAt.notIn_tupleAt (eqU x) pl (fun w hw=>ZeB rx fx r fs w (by simpa using hw)) ⟨.bl _,H,I,rfl,?_⟩
    rw [show its.toArray.any (eqU x)=its.any (eqU x) by simp,Zf2 r fs]
    exact q
theorem Zja:CallR X (.builtin "len") (fun xs H Q=>∃p ys,xs=[.ref p]∧(SqL X.K H p ys∨SqT X.K H p ys)∧Q (.int ys.length) H):=by
  intro pins s σ H xs us Q I r h
  obtain ⟨p,ys,rfl,hq,q⟩:=h
  obtain ⟨u,rfl,rx⟩:=Zfs r
  cases rx
  have hn:=Zge
  rcases hq with hq | hq
  · obtain ⟨its,r',pl,hz⟩:=I.list hq
    have hlen:=r'.length
    exact Calls.call_len_list pl.isList (by simp only [List.size_toArray]<;>omega) ⟨.int ys.length,H,I.tok _,⟨s.toks+1,by rw [List.size_toArray,hlen]⟩,q⟩
  · obtain ⟨its,r',pl,hz⟩:=I.tuple hq
    have hlen:=r'.length
    exact len_tuple pl (by simp only [List.size_toArray]<;>omega) ⟨.int ys.length,H,I.tok _,⟨s.toks+1,by rw [List.size_toArray,hlen]⟩,q⟩
theorem call_len_str:CallR X (.builtin "len") (fun xs H Q=>∃z,xs=[.str z]∧z.length≤sizeLine∧Q (.int z.length) H):=by
  intro pins s σ H xs us Q I r h
  obtain ⟨z,rfl,hz,q⟩:=h
  obtain ⟨u,rfl,t,rfl⟩:=Zfs r
  have hn:=Zge
  exact len_str (by omega) ⟨.int z.length,H,I.tok _,⟨_,rfl⟩,q⟩
theorem CallR.or {f:Value} {r r':List V→Hp→VK→Prop} (h:CallR X f r) (h':CallR X f r'):CallR X f (fun xs H Q=>r xs H Q∨r' xs H Q):=by
  intro pins s σ H xs us Q I rs q
  rcases q with q | q
  · exact h pins s σ H xs us Q I rs q
  · exact h' pins s σ H xs us Q I rs q
theorem Zi9:CallR X (.type "list") (fun xs H Q=>∃p ys,xs=[.ref p]∧(SqL X.K H p ys∨SqT X.K H p ys)∧∀l,H l=none→Q (.ref l) (upd H l (.lst ys))):=by
  intro pins s σ H xs us Q I r h
  obtain ⟨p,ys,rfl,hq,q⟩:=h
  obtain ⟨u,rfl,rx⟩:=Zfs r
  cases rx
  have fin:∀(its:List Value),Vals ys its→ys.length≤sizeLine→∀(h':Heap) (c':Nat),(∀b o',s.heap.get? b=some o'→h'.get? b=some o')→
      h'.get? s.heap.objs.size=some { cls:=.type "list",dict:=none,data:=.seq its.toArray c',slots:=#[] }→EP X pins σ Q (.ref s.heap.objs.size) { s with heap:=h' }:=fun its r' hz h' c' kp e=>
    ⟨.ref s.heap.objs.size,_,I.laid (t':=s.toks) kp (Nat.le_refl _) (show ObjOk X.prog X.w _ h' _ (.lst ys) from ⟨hz,its,c',r',e⟩),rfl,q _ (I.hok.fresh (Nat.le_refl _))⟩
  rcases hq with hq | hq
  · obtain ⟨its,r',pl,hz⟩:=I.list hq
    have hlen:=r'.length
    obtain ⟨o,ho,hc,n,hd⟩:=pl.isList
    exact call_list_seq p (.inl rfl) ho hc hd (fun h' c' kp e=>fin its r' hz h' c' kp e) (by simp only [List.size_toArray]<;>omega)
  · obtain ⟨its,r',pl,hz⟩:=I.tuple hq
    have hlen:=r'.length
    obtain ⟨o,ho,hc,n,hd⟩:=pl
    exact call_list_seq p (.inr rfl) ho hc hd (fun h' c' kp e=>fin its r' hz h' c' kp e) (by simp only [List.size_toArray]<;>omega)
theorem Zh4:CallR X (.type "tuple") (fun xs H Q=>∃p ys,xs=[.ref p]∧((SqL X.K H p ys∧∀l,H l=none→Q (.ref l) (upd H l (.tup ys)))∨(SqT X.K H p ys∧Q (.ref p) H))):=by
  intro pins s σ H xs us Q I r h
  obtain ⟨p,ys,rfl,h⟩:=h
  obtain ⟨u,rfl,rx⟩:=Zfs r
  cases rx
  rcases h with ⟨hq,q⟩ | ⟨hq,q⟩
  · obtain ⟨its,r',pl,hz⟩:=I.list hq
    have hlen:=r'.length
    refine call_tuple_list pl.isList (fun h' kp=>?_) (by simp only [List.size_toArray]<;>omega)
    have I1:Inv X pins σ H { s with heap:=h' }:=I.kept (t':=s.toks) kp
    have I2:Inv X pins σ (upd H h'.objs.size (.tup ys)) { s with heap:=h'.push { cls:=.type "tuple",data:=.seq its.toArray } }:=
      I1.laid (t':=s.toks) (fun b o e=>Heap.get?_push_of_some _ e) (Nat.le_refl _) (show ObjOk X.prog X.w _ _ _ (.tup ys) from ⟨hz,its,r',IsTup.new _ _⟩)
    exact ⟨.ref h'.objs.size,_,I2,rfl,q _ (I1.hok.fresh (Nat.le_refl _))⟩
  · obtain ⟨its,r',pl,hz⟩:=I.tuple hq
    exact call_tuple_same pl ⟨.ref p,H,I,rfl,q⟩
def tyV (K:PySem.W.Frag) (T:String) (x:V) (H:Hp):Prop:=match x with
  | .str _=>T = "str"
  | .int _=>T = "int"
  | .ref p=>(T = "list"∧∃xs,SqL K H p xs)∨(T = "tuple"∧∃o,K.lookup p=some o∧o.cls=.type "tuple"∧o.dict=none)∨
      (T = "dict"∧((∃kvs,H p=some (.dK kvs))∨∃kvs,H p=some (.dT kvs)))∨(T = "set"∧∃S n,H p=some (.set S n))
  | _=>False
theorem ZsO {pins:List (Addr×Obj)} {σ:St} {H:Hp} {s:Shared} {T:String} {x:V} {v:Value} (I:Inv X pins σ H s) (r:RelV x v) (ty:tyV X.K T x H) :
    s.TypeIs v T∧∀a,v=.ref a→∃ob,s.heap.get? a=some ob∧ob.dict=none:=by
  cases x with
  | str z=>
    obtain ⟨t,rfl⟩:=r
    cases (show T = "str" from ty)
    exact ⟨typeIs_str s z t,fun _ e=>nomatch e⟩
  | int i=>
    obtain ⟨t,rfl⟩:=r
    cases (show T = "int" from ty)
    exact ⟨typeIs_int s i t,fun _ e=>nomatch e⟩
  | ref p=>
    cases r
    rcases ty with ⟨rfl,xs,hq⟩ | ⟨rfl,o,hk,hc,hd⟩ | ⟨rfl,hk⟩ | ⟨rfl,S,n,hk⟩
    · obtain ⟨its,_,pl,_⟩:=I.list hq
      refine ⟨pl.isList.typeIs,fun a e=>?_⟩
      cases e
      obtain ⟨o,n,e,c,hd,_⟩:=pl
      exact ⟨o,e,hd⟩
    · refine ⟨⟨o,I.kIn p o hk,hc⟩,fun a e=>?_⟩
      cases e
      exact ⟨o,I.kIn _ o hk,hd⟩
    · have z:∃o,s.heap.get? p=some o∧o.ExactDict:=by
        rcases hk with ⟨kvs,hk⟩ | ⟨kvs,hk⟩
        · obtain ⟨_,_,_,_,o,_,_,e,ex,_⟩:=I.hok p _ hk
          exact ⟨o,e,ex⟩
        · obtain ⟨_,_,_,_,o,_,_,e,ex,_⟩:=I.hok p _ hk
          exact ⟨o,e,ex⟩
      obtain ⟨o,e,ex⟩:=z
      refine ⟨⟨o,e,ex.1⟩,fun a e2=>?_⟩
      cases e2
      exact ⟨o,e,ex.2.1⟩
    · obtain ⟨o,_,_,_,e,ex,_⟩:=I.hok p _ hk
      refine ⟨⟨o,e,ex.1⟩,fun a e2=>?_⟩
      cases e2
      exact ⟨o,e,ex.2.1⟩
  | _=>exact False.elim ty
def tBM (K:PySem.W.Frag) (T:String) (r:V→List V→Hp→VK→Prop) (to:TE) (t:TA):TE:=fun σ H Q=>to σ H fun x H1=>tyV K T x H1∧t σ H1 fun xs H2=>r x xs H2 Q
variable {o e:Expr} {es:List Expr} {to:TE} {t:TA} {name:Str} {apos cpos:Pos} {T id:String} {r:V→List V→Hp→VK→Prop}
theorem Zst (pa:PlainAttrs T) (slot:Slot T name id) (hty:typeOf (.builtin id)=pure (.type "method_descriptor")) (hm:MtR X id r) (ho:PE X o to) (ha:PA X (e::es) t)
    (hbase:attributeBase o name X.env (eval o X.env)=eval o X.env:=by rfl)
    (hfew:((backTo cpos (starEach (e::es) X.env)).all (fun x=>!x.1) && (backToKw cpos (keywordEach [] X.env)).all (fun x=>x.1.isSome)
      && decide ((e::es).length+([]:List Keyword).length+(if ([]:List Keyword).isEmpty then 0 else 1)<30))=true:=by rfl)
    (hline:(apos.endLine == cpos.line)=true:=by rfl) (hs:starEach (e::es) X.env=(false,eval e X.env)::starEach es X.env:=by rfl) (hplain:(backTo cpos (starEach es X.env)).any (·.1)=false:=by rfl) :
    PE X (.Call (.Attribute o name apos) (e::es) [] cpos) (tBM X.K T r to t):=by
  intro pins s σ H Q I h
  refine wpAny_Call_method_late hbase hfew hline rfl (thn (ho pins s σ H _ I h) fun v s1 ⟨x,H1,I1,r1,ty,q1⟩=>?_)
  obtain ⟨h1,h2⟩:=ZsO I1 r1 ty
  refine ⟨T,id,pa,slot,hty,h1,h2,?_⟩
  have hA:=ha cpos pins s1 σ H1 _ I1 q1
  rw [hs] at hA ⊢
  refine Calls.callWith_builtin (by show (false || (backTo cpos (starEach es X.env)).any (·.1))=false; rw [hplain]<;>rfl) (Calls.evalArgs_plain ?_)
  exact thn hA fun us s2 ⟨vs,H2,I2,r2,q2⟩=>hm pins s2 σ H2 x vs v us Q I2 r1 r2 q2
end
end L2
namespace L2
open PySem PySem.Spec PyProof.Rows
def MtM (X:Cx) (id:String) (r:V→List V→Hp→VK→Prop):Prop:=
  ∀(pins:List (Addr×Obj)) (s:Shared) (σ:St) (H:Hp) (x:V) (xs:List V) (v:Value) (us:List Value) (Q:VK),Inv X pins σ H s→RelV x v→Vals xs us→r x xs H Q→
    wpAny (model X.prog X.w) X.A (call (.builtin id) (v::us)) (EP X pins σ Q) X.xe s
theorem Vals.one:∀{x:V} {us:List Value},Vals [x] us→∃u,us=[u]∧RelV x u
  | _,_,.cons r .nil=>⟨_,rfl,r⟩
theorem Vals.two:∀{x y:V} {us:List Value},Vals [x,y] us→∃u v,us=[u,v]∧RelV x u∧RelV y v
  | _,_,_,.cons r (.cons q .nil)=>⟨_,_,rfl,r,q⟩
theorem Vals.zero:∀{us:List Value},Vals [] us→us=[]
  | _,.nil=>rfl
theorem Vals.rep {xs:List V} {us:List Value} (h:Vals xs us):∀k:Nat,Vals (List.replicate k xs).flatten (List.replicate k us).flatten
  | 0=>.nil
  | k+1=>by
    rw [List.replicate_succ,List.replicate_succ,List.flatten_cons,List.flatten_cons]
    exact Vals.append h (Vals.rep h k)
theorem Ze5 (its:List Value):∀(k:Nat) (acc:List Value),
    List.foldl (fun x1 x2=>x1++x2) acc.toArray (List.replicate k its.toArray)=(acc++(List.replicate k its).flatten).toArray
  | 0,acc=>by simp
  | k+1,acc=>by
    have e:acc.toArray++its.toArray=(acc++its).toArray:=by simp
    have e2:(acc++its)++(List.replicate k its).flatten=acc++(List.replicate (k+1) its).flatten:=by
      rw [List.replicate_succ,List.flatten_cons,List.append_assoc]
    rw [←e2,←Ze5 its k (acc++its),←e,List.replicate_succ,List.foldl_cons]
section
variable {X:Cx} {pins:List (Addr×Obj)} {σ:St} {H:Hp} {s:Shared} {l b:Addr} {xs ys zs:List V}
theorem Inv.lset {its its':List Value} {n:Nat} {f:Array Value→Array Value} {t':Nat} (I:Inv X pins σ H s) (hH:H l=some (.lst xs))
    (e:s.heap.get? l=some { cls:=.type "list",data:=.seq its.toArray n }) (hf:f its.toArray=its'.toArray) (hv:Vals ys its') (hz:ys.length≤sizeLine) :
    Inv X pins σ (upd H l (.lst ys)) { s with heap:=s.heap.update l (Obj.mapSeq f),toks:=t' }:=by
  have q:=PySem.IsL.update e f
  rw [hf] at q
  refine I.write (x:=l) (e:=l) (by rw [hH]; exact trivial) (.inl rfl) (fun b' u hb hu=>(Heap.get?_update_other s.heap (Obj.mapSeq f) (Ne.symm hb)).trans hu) ⟨_,q⟩ ?_
  exact ⟨hz,its',_,hv,q⟩
theorem Inv.lnew {its:List Value} {t':Nat} (I:Inv X pins σ H s) (hv:Vals ys its) (hz:ys.length≤sizeLine) :
    Inv X pins σ (upd H s.heap.objs.size (.lst ys)) { s with heap:=s.heap.push { cls:=.type "list",data:=.seq its.toArray },toks:=t' }:=
  I.laid (fun _ _ q=>Heap.get?_push_of_some _ q) (Nat.le_refl _) ⟨hz,its,0,hv,Heap.get?_push_size _ rfl⟩
theorem Inv.fresh (I:Inv X pins σ H s):H s.heap.objs.size=none:=I.hok.fresh (Nat.le_refl _)
theorem Inv.lstM (I:Inv X pins σ H s) (hH:H l=some (.lst xs)):xs.length≤sizeLine∧∃(its:List Value) (n:Nat),Vals xs its∧xs.length=its.length∧s.heap.get? l=some { cls:=.type "list",data:=.seq its.toArray n }:=by
  obtain ⟨z,its,n,r,e⟩:=I.hok l _ hH
  exact ⟨z,its,n,r,r.length,e⟩
theorem ZfE {n:Nat} (h:n≤sizeLine):Builtin.List.listTooLong n=false:=by
  unfold Builtin.List.listTooLong
  exact decide_eq_false (by omega)
end
section
variable {X:Cx}
def Zmk:V→List V→Hp→VK→Prop:=fun x vs H Q=>∃l xs y,x=.ref l∧vs=[y]∧H l=some (.lst xs)∧xs.length<sizeLine∧Q .non (upd H l (.lst (xs++[y])))
theorem Zim:MtM X "list.append" Zmk:=by
  intro pins s σ H x vs v us Q I rx rv h
  obtain ⟨l,xs,y,rfl,rfl,hH,hz,q⟩:=h
  cases rx
  obtain ⟨u,rfl,ru⟩:=rv.one
  obtain ⟨z,its,n,r,hl,e⟩:=I.lstM hH
  refine call_meets F.slot_list_append ⟨_,e,rfl⟩ F.entry_list_append (F.args_list_append_2 _ _) (PySem.list_append l its.toArray n u (by rw [List.size_toArray]; omega)) ⟨e,?_⟩
  refine ⟨.non,_,I.lset (its':=its++[u]) hH e (by simp) (r.append (.cons ru .nil)) ?_,rfl,q⟩
  rw [List.length_append,List.length_singleton]
  omega
def Zre:V→List V→Hp→VK→Prop:=fun x vs H Q=>∃l b xs zs,x=.ref l∧vs=[.ref b]∧H l=some (.lst xs)∧H b=some (.lst zs)∧xs.length+zs.length≤sizeLine∧Q .non (upd H l (.lst (xs++zs)))
theorem Zuj:MtM X "list.extend" Zre:=by
  intro pins s σ H x vs v us Q I rx rv h
  obtain ⟨l,b,xs,zs,rfl,rfl,hH,hB,hz,q⟩:=h
  cases rx
  obtain ⟨u,rfl,ru⟩:=rv.one
  cases ru
  obtain ⟨z,its,n,r,hl,e⟩:=I.lstM hH
  obtain ⟨z2,its2,n2,r2,hl2,e2⟩:=I.lstM hB
  have hsz:its.toArray.size+its2.toArray.size≤sizeLine:=by rw [List.size_toArray,List.size_toArray]; omega
  have hlong:¬(!its.toArray.isEmpty && Builtin.List.listTooLong (its.toArray.size+its2.toArray.size))=true:=by
    rw [ZfE hsz,Bool.and_false]
    exact Bool.false_ne_true
  refine call_meets F.slot_list_extend ⟨_,e,rfl⟩ F.entry_list_extend (F.args_list_extend_2 _ _)
    (AutoSeq1.list_extend_list_list_0 l its.toArray n b its2.toArray n2 hlong (by rw [List.size_toArray]; omega) (by omega)) ⟨e,e2,?_⟩
  refine ⟨.non,_,I.lset (its':=its++its2) hH e (by simp) (r.append r2) ?_,rfl,q⟩
  rw [List.length_append]
  omega
def ZyG:R2:=fun x y H Q=>∃l b xs zs,x=.ref l∧y=.ref b∧H l=some (.lst xs)∧H b=some (.lst zs)∧xs.length+zs.length≤sizeLine∧∀p,H p=none→Q (.ref p) (upd H p (.lst (xs++zs)))
theorem ZtG:OpR X (binaryOp .Add) ZyG:=by
  intro pins s σ H x y v u Q I rx ry h
  obtain ⟨l,b,xs,zs,rfl,rfl,hH,hB,hz,q⟩:=h
  cases rx
  cases ry
  obtain ⟨z,its,n,r,hl,e⟩:=I.lstM hH
  obtain ⟨z2,its2,n2,r2,hl2,e2⟩:=I.lstM hB
  refine PySem.P.add_list e e2 ?_ (by rw [List.size_toArray,List.size_toArray]; omega)
  have ea:its.toArray++its2.toArray=(its++its2).toArray:=by simp
  rw [ea]
  exact ⟨.ref _,_,I.lnew (t':=s.toks) (r.append r2) (by rw [List.length_append]; omega),rfl,q _ I.fresh⟩
def ZyF:R2:=fun x y H Q=>∃l k xs,x=.ref l∧y=.int k∧H l=some (.lst xs)∧-(2 ^ 63)≤k∧k<2 ^ 63∧xs.length*k.toNat≤sizeLine∧
  ∀p,H p=none→Q (.ref p) (upd H p (.lst (List.replicate k.toNat xs).flatten))
theorem ZiW {α:Type} (xs:List α) (k:Nat):(List.replicate k xs).flatten.length=k*xs.length:=by
  induction k with
  | zero=>simp
  | succ k ih=>rw [List.replicate_succ,List.flatten_cons,List.length_append,ih,Nat.succ_mul,Nat.add_comm]
theorem ZtB:OpR X (binaryOp .Mult) ZyF:=by
  intro pins s σ H x y v u Q I rx ry h
  obtain ⟨l,k,xs,rfl,rfl,hH,h1,h2,hz,q⟩:=h
  cases rx
  obtain ⟨t,rfl⟩:=ry
  obtain ⟨z,its,n,r,hl,e⟩:=I.lstM hH
  have hlen:its.toArray.size*k.toNat≤sizeLine:=by rw [List.size_toArray,←hl]; exact hz
  have hcap:¬its.toArray.size*k.toNat > (2 ^ 63-1)/8:=by
    have:(sizeLine:Nat)≤(2 ^ 63-1)/8:=by decide
    omega
  have hfit:¬(!Builtin.List.listFitsIndex k)=true:=by
    rw [fitsIndex_both h1 h2]
    exact Bool.false_ne_true
  have hlong:¬Builtin.List.listTooLong (its.toArray.size*k.toNat)=true:=by
    rw [ZfE hlen]
    exact Bool.false_ne_true
  have hnew:List.foldl (fun x1 x2=>x1++x2) #[] (List.replicate (if its.toArray.isEmpty=true then 0 else k.toNat) its.toArray)=(List.replicate k.toNat its).flatten.toArray:=by
    have f0:∀m:Nat,List.foldl (fun x1 x2=>x1++x2) #[] (List.replicate m its.toArray)=(List.replicate m its).flatten.toArray:=fun m=>by
      have:=Ze5 its m []
      rw [List.nil_append] at this
      exact this
    rw [f0]
    cases its with
    | nil=>simp
    | cons a r'=>rw [if_neg (by simp)]
  refine wpAny_binaryOp_repeat_ref (T:="list") (U:="int") (by decide) ⟨_,e,rfl⟩ (fun s'=>typeIs_int s' k t) noFill_list_mul F.fills_int_mul F.slot_int_rmul repeat_list F.slot_int_index.lookup
    (call_meets F.slot_int_rmul (typeIs_int s k t) F.entry_int_rmul (F.args_int_rmul_2 _ _) (int___rmul___int_list k t l its.toArray n)
      ⟨e,rfl,⟨_,e,rfl⟩,call_meets F.slot_list_mul ⟨_,e,rfl⟩ F.entry_list_mul (F.args_list_mul_2 _ _) (AutoListH.list___mul___list_int_3 l its.toArray n k t hfit hcap hlong) ⟨e,?_⟩⟩)
  rw [hnew]
  exact ⟨.ref _,_,I.lnew (t':=s.toks) (r.rep k.toNat) (by rw [ZiW,Nat.mul_comm]; exact hz),rfl,q _ I.fresh⟩
end
section
variable {prog:Program} {w:World} {A:Around} {E:Value→Shared→Prop} {s:Shared}
theorem Zl5 {a c n:Nat} (hac:a≤c) (hc:c≤n):sliceBounds (some (a:Int)) (some (c:Int)) none n=((a:Int),(c:Int),1):=by
  simp only [sliceBounds,Option.getD_none]
  have h1:¬((a:Int)<0):=by omega
  have h2:¬((c:Int)<0):=by omega
  simp only [h1,h2,if_false,show (1:Int) > 0 by decide,if_true]
  congr 1
  · omega
  · congr 1; omega
set_option maxRecDepth 100000 in
theorem ZqR {l b sl:Addr} {items new:Array Value} {n n2:Nat} {vl vu:Value} {a c:Nat} {Q:Unit→Shared→Prop}
    (e:s.heap.get? l=some { cls:=.type "list",data:=.seq items n }) (e2:s.heap.get? b=some { cls:=.type "list",data:=.seq new n2 }) (hne:l≠b)
    (hs:s.heap.IsSliceOf sl vl vu .none) (pl:IsPart vl (some (a:Int))) (pu:IsPart vu (some (c:Int))) (hac:a≤c) (hc:c≤items.size)
    (hsz:items.size+new.size≤sizeLine) (h:Q () { s with heap:=s.heap.update l (Obj.mapSeq fun xs=>xs.extract 0 a++new++xs.extract c xs.size) }) :
    wpAny (model prog w) A (setItem (.ref l) (.ref sl) (.ref b)) Q E s:=by
  have hl:s.heap.IsList l items:=PySem.IsL.isList e
  have hb:s.heap.IsList b new:=PySem.IsL.isList e2
  obtain ⟨os,hos,hcs,hds⟩:=id hs
  have hTs:s.TypeIs (.ref sl) "slice":=⟨os,hos,hcs⟩
  have hstep:¬((rawPart none == rawInt 0)=true):=Bool.false_ne_true
  have hsame:Builtin.List.listSameRef (.ref l) (.ref b)=false:=by
    unfold Builtin.List.listSameRef
    exact beq_eq_false_iff_ne.mpr hne
  have hmax:(max (a:Int) (c:Int)).toNat=c:=by omega
  have hz':((fun xs:Array Value=>xs.extract 0 a++new++xs.extract c xs.size) items).size≤sizeLine+1:=by
    simp only [Array.size_append,Array.size_extract]
    omega
  unfold setItem
  try with_reducible refine wpAny_holding ?_
  first | refine wpAny_bind (wpAny_pure ?_) | skip
  refine wpAny_bind (wpAny_sequenceKey hl.typeIs (by decide) ?_)
  refine wpAny_bind (wpAny_callSpecial?_slot (name:=Str.ofString "__setitem__") hl.typeIs slot_list_setitem
    (wpAny_call_entry slot_list_setitem hl.typeIs entry_list_setitem ?_ (args_list_setitem _ _ _)))
  show wpAny _ _ (Builtin.List.listSubscript? (.ref sl) >>= _) _ _ s
  refine wpAny_bind ?_
  unfold Builtin.List.listSubscript?
  refine wpAny_bind (wpAny_specialOf hTs slice_no_index ?_)
  simp only [Option.isNone_none,if_true]
  refine wpAny_pure ?_
  show wpAny _ _ (typeOf (.ref sl) >>= _) _ _ s
  refine wpAny_bind (wpAny_typeOf hTs ?_)
  first
    | rw [if_neg (by decide)]
    | refine PySem.W.KFB.if_not (by decide) ?_
  rw [listSliceParts_eq]
  refine wpAny_bind (wpAny_bind (wpAny_field hos hds (x:=.none) rfl (wpAny_bind (wpAny_listPart .none ?_))))
  rw [if_neg hstep]
  refine wpAny_bind (wpAny_field hos hds (x:=vl) rfl (wpAny_bind (wpAny_listPart pl ?_)))
  refine wpAny_bind (wpAny_field hos hds (x:=vu) rfl (wpAny_bind (wpAny_listPart pu (wpAny_pure ?_))))
  first
    | simp only [hsame,Bool.false_eq_true,if_false]
    | refine PySem.W.KFB.if_not hsame ?_
    | (dsimp only
       rw [if_neg (by rw [hsame]; exact Bool.false_ne_true)])
  refine wpAny_bind (m:=Builtin.List.listAllItems (.ref b) "must assign iterable to extended slice") ?_
  unfold Builtin.List.listAllItems
  refine wpAny_bind (wpAny_typeOf hb.typeIs ?_)
  first
    | refine PySem.W.KFB.if_so (by decide) ?_
    | rw [if_pos (by decide)]
    | simp only [beq_self_eq_true,Bool.true_or,if_true]
  unfold Builtin.List.listItems
  refine wpAny_bind (wpAny_seqItems e2 rfl (wpAny_pure ?_))
  refine wpAny_bind (wpAny_bind (wpAny_seqItems e rfl (wpAny_pure ?_)))
  refine wpAny_bind (wpAny_of_eq ((sliceIndices_raw (some (a:Int)) (some (c:Int)) none items.size (by simp)).trans (congrArg (pure:Int×Int×Int→Sem (Int×Int×Int)) (Zl5 hac hc))) ?_)
  show wpAny _ _ (if ((1:Int) == 1)=true then _ else _) _ _ s
  rw [if_pos (by decide)]
  refine wpAny_bind (wpAny_rule ?_)
  first
    | simp only [ZfE hsz,Bool.false_eq_true,if_false]
    | refine PySem.W.KFB.if_not (ZfE hsz) ?_
  first | refine wpAny_bind (wpAny_pure ?_) | skip
  show wpAny _ _ (updateSeq l (fun xs=>xs.extract 0 ((a:Int)).toNat++new++xs.extract (max (a:Int) (c:Int)).toNat xs.size) >>= _) _ _ s
  rw [hmax,Int.toNat_natCast]
  refine wpAny_bind (wpAny_updateSeq (hz:=Nat.le_trans (Nat.le_add_right _ _) hsz) (_hz':=hz') e rfl ?_)
  refine wpAny_bind (wpAny_letGo ?_)
  first
    | exact wpAny_bind (wpAny_pure (wpAny_pure ⟨.none,rfl,wpAny_pure h⟩))
    | exact wpAny_pure ⟨.none,rfl,wpAny_pure h⟩
end
section
variable {X:Cx}
end
end L2
namespace Att
open PySem PySem.W PySem.Calls PyProof.Rows
theorem ZgR {P:Params} {h:Heap}:∀(ns:List Int) (vs:List Value),WellAll P h vs (ns.map WData.int)→IntsAre vs ns:=by
  intro ns
  induction ns with
  | nil=>
    intro vs w
    rw [List.map_nil] at w
    cases w
    exact .nil
  | cons n ns ih=>
    intro vs w
    rw [List.map_cons] at w
    cases w with
    | cons a b=>
      cases a
      exact .cons _ _ (ih _ b)
theorem Zna {l:OpenLaw} {n:Nat} (hn:l.most=some n) {P:Params} {h:Heap} {args:List WData} {vals:List Value}
    (hpre:l.row.toRowW.claim.pre args=true) (hwl:WellAll P h vals args) :
    ∃a vs ns,vals=[Value.ref a]∧args=[WData.list (ns.map WData.int)]∧h.get? a=some { cls:=.type "list",data:=.seq vs.toArray }∧IntsAre vs ns∧ns.length≤n:=by
  have hsh:WShape.hasAll [] args [.list .int]=true:=(pre_splitW hpre).1
  have hc:l.pre.holds [] { args:=args }=true:=(pre_splitW hpre).2
  obtain ⟨d,r,rfl,h1,h2⟩:=hasAllW_cons hsh
  obtain rfl:=hasAllW_nil h2
  obtain ⟨xs,rfl,h3⟩:=hasW_list h1
  obtain ⟨ns,rfl⟩:=items_int h3
  have hlen:ns.length≤n:=by
    unfold OpenLaw.pre at hc
    have h4:(WTm.not (.lt (.lit (.int (n:Int))) (.len (.arg 0)))).holds [] { args:=[.list (ns.map .int)] }=true:=by
      have h4:=(holds_andW hc).1
      rw [hn] at h4
      exact h4
    have h5:=condW_of h4 (w_not (w_lt w_lit (w_len_list (w_arg rfl))))
    rw [List.length_map] at h5
    refine Nat.le_of_not_lt fun q=>?_
    have q':(n:Int)<((ns.length:Nat):Int):=by omega
    first
      | (rw [decide_eq_true q'] at h5; exact absurd h5 (by decide))
      | (simp at h5; omega)
  cases hwl with
  | cons w1 w2=>
    cases w2
    cases w1 with
    | list ho hall=>exact ⟨_,_,ns,rfl,rfl,ho,ZgR ns _ hall,hlen⟩
theorem Znb (l:OpenLaw) (args:List WData):l.row.toRowW.claim.post args (.bool true) args=true:=
  postW_of (r:=l.row.toRowW) (X:=(true == true))
    (show WShape.has [] (.bool true) .bool=true by first | rfl | decide | simp [WShape.has,WShape.arms,WShape.armsAll])
    (show (WTm.eq .res (.lit (.bool true))).value [] { args:=args,res:=some (.bool true),after:=args }=some (.bool (true == true)) from w_eq_bool (w_res rfl) w_lit) rfl
theorem attach_call {l:OpenLaw} {n:Nat} {q:Program} {loose:List Str} {XP:(Str→Option Value)→Heap→Prop} {YP:World→Heap→Prop} {d:DefRec}
    (hn:l.most=some n) (hdf:d.params.defaults=[])
    (call:∀(w:World) (s₀ s₁:Shared) (mg mb:Str→Option Value) (fa:Addr) (o:Obj) (pm cd doc:Value) (a:Addr) (vs:List Value) (ns:List Int),
      Ground q loose [] XP w s₀ mg mb s₁.heap→YP w s₁.heap→
      s₁.heap.get? fa=some o→o.data=.func (docDef d.name d.params d.body d.scope pm cd doc)→s₁.heap.CodeRec cd d.name→mg d.name=some (.ref fa)→
      s₁.heap.get? a=some { cls:=.type "list",data:=.seq vs.toArray }→IntsAre vs ns→ns.length≤n→s₁.gens=#[]→
      codeAny (model l.prog w) callerA (.call (.ref fa) ⟨[.ref a],[]⟩) (fun r s'=>r=.ok (.ret (.bool true))∧OldK s₁.heap s'.heap∧s'.os=s₁.os∧AllBare s'.gens) s₁) :
    WalkO q loose XP YP l.row.toRowW d [] (fun f vs=>PySem.call f vs):=by
  intro w s₀ s₁ mg mb G Y fa o pm cd doc dV kV ho hd hcd hD hmg hg args vals as hpre hlay hrd hwl hlo
  obtain rfl:dV=.none:=Dflts.none hD hdf
  obtain rfl:kV=.none:=Dflts.noKw hD
  obtain ⟨a,vs,ns,rfl,rfl,hobj,hints,hlen⟩:=Zna hn hpre hwl
  refine enter_call (codeAny_mono (call w s₀ s₁ mg mb fa o pm cd doc a vs ns G Y ho (fd_plain hd) hcd hmg hobj hints hlen hg) fun r s' hq=>?_)
  obtain ⟨rfl,h2,h3,h4⟩:=hq
  exact ⟨.inl ⟨.bool true,.bool true,[],rfl,fun _=>rfl,.bool true,Znb l _,fun _=>⟨List.Pairwise.nil,fun _ hm=>(nomatch hm)⟩⟩,h2,h3,h4⟩
section
variable {prog:Program} {w:World} {A:Around} {E:Value→Shared→Prop} {s:Shared} {K:Frag}
end
end Att
namespace L2
open PySem PySem.Spec PyProof.Rows
theorem Zh7:∀{vs:List Value} {ns:List Int},IntsAre vs ns→Vals (ns.map V.int) vs
  | _,_,.nil=>.nil
  | _,_,.cons n t h=>.cons ⟨t,rfl⟩ (Zh7 h)
def Zr6 (H:Hp):Prop:=∀b,H b=none∨∃o xs,H b=some (.frz o (.lst xs))
theorem Zp5 {P:Program} {w:World} {K:PySem.W.Frag} {mg mb:Str→Option Value} {CX:CXT} {k:Nat} {fa a:Addr} {fd:FuncData} {x:Str} {sp:Sp} {s₁:Shared} {vs:List Value} {ns:List Int}
    (KX:K.In s₁.heap) (hns:s₁.heap.Ns mainGlobals mg) (hb:s₁.heap.Ns builtinsNs mb) (hbb:∀x:Str,x≠"__name__"→mb x=bootBuiltins x) (hlim:s₁.heap.NoLimit) (hg:s₁.gens=#[])
    (ha:s₁.heap.get? a=some { cls:=.type "list",data:=.seq vs.toArray }) (hi:IntsAre vs ns) (hl:ns.length≤sizeLine) (hr:Room k callerA)
    (F:∀base:Heap,K.In base→base.Ns mainGlobals mg→FnOk P w K mg base CX k fa fd [x] sp) (hbind:∀(s:Shared) (u:Value),BindsTo s fd ⟨[u],[]⟩ [(x,u)])
    (hsp:∀H:Hp,Zr6 H→SqL K H a (ns.map V.int)→sp [.ref a] H (fun v _=>v=.bl true) fun _ _ _=>False)
    (hCX:∀H e s',CX [] H s₁ (fun _ _ _=>False) e s'→False) :
    codeAny (model P w) callerA (.call (.ref fa) ⟨[.ref a],[]⟩) (fun r s'=>r=.ok (.ret (.bool true))∧OldK s₁.heap s'.heap∧s'.os=s₁.os∧AllBare s'.gens) s₁:=by
  have rv:=Zh7 hi
  have lenV:=hi.length
  have core:∀H:Hp,Zr6 H→SqL K H a (ns.map V.int)→HOk P w H s₁.heap→(∀b,H b≠none→b=a)→(H a≠none→K.lookup a=none)→
      codeAny (model P w) callerA (.call (.ref fa) ⟨[.ref a],[]⟩) (fun r s'=>r=.ok (.ret (.bool true))∧OldK s₁.heap s'.heap∧s'.os=s₁.os∧AllBare s'.gens) s₁:=by
    intro H hO hS hok hA hK
    have base_of:∀{b:Addr} {o:Obj},s₁.heap.get? b=some o→H b=none→(Zi2 s₁.heap H).get? b=some o:=fun e n=>Zqb e n
    have noA:∀{b:Addr} {o:Obj} {es:Array DictEntry} {ep:Nat},s₁.heap.get? b=some o→o.data=.dict es ep→H b=none:=fun {b o es ep} e d=>by
      cases q:H b with
      | none=>rfl
      | some u=>
        have e':b=a:=hA b (by rw [q]; simp)
        subst e'
        rw [ha] at e; cases e
        have d':Data.seq vs.toArray _=Data.dict es ep:=d
        cases d'
    have nsK:∀{b:Addr} {m:Str→Option Value},s₁.heap.Ns b m→(Zi2 s₁.heap H).Ns b m:=fun {b m} ⟨o,es,ep,e,d,r⟩=>⟨o,es,ep,base_of e (noA e d),d,r⟩
    have hKb:K.In (Zi2 s₁.heap H):=fun b o e=>base_of (KX b o e) (by
      cases q:H b with
      | none=>rfl
      | some u=>
        have e':b=a:=hA b (by rw [q]; simp)
        subst e'
        rw [hK (by rw [q]; simp)] at e; cases e)
    have hM:Mod K mg (Zi2 s₁.heap H):=⟨hKb,nsK hns,⟨mb,nsK hb,hbb⟩,let ⟨mc,h1,h2⟩:=hlim; ⟨mc,nsK h1,h2⟩⟩
    have e0:Env0 P w K mg (Zi2 s₁.heap H) callerA [] s₁ H:=⟨rfl,hM,fun b o e=>Zry e,Nat.le_of_eq (Znt _ _),trivial,fun b hb=>absurd (show b∈([]:List Addr) from hb) (by simp),hok,.of_eq hg⟩
    refine codeAny_mono ((F _ hKb (nsK hns)).run callerA [] s₁ H ⟨[.ref a],[]⟩ [.ref a] [.ref a] _ _ hr e0 (hbind s₁ (.ref a)) (.cons rfl .nil) (hsp H hO hS)) fun r s' h=>?_
    cases r with
    | error e=>exact (hCX H e s' h).elim
    | ok fl=>
      cases fl with
      | next=>exact False.elim h
      | brk=>exact False.elim h
      | cont=>exact False.elim h
      | ret u=>
        obtain ⟨v,H',os,bare,un,hok',r',q⟩:=h
        have q':v=.bl true:=q
        subst q'
        obtain rfl:u=Value.bool true:=r'
        refine ⟨rfl,OldK.of_keep fun b o e=>?_,os,bare⟩
        cases q:H b with
        | none=>exact un.keep b o e q (by intro z; exact absurd (show b∈([]:List Addr) from z) (by simp)) (by simp)
        | some u=>
          rcases hO b with z | ⟨ob,xs,z⟩
          · rw [q] at z; cases z
          · have z2:=un.frzs b ob _ z
            obtain ⟨e1,_⟩:=hok b _ z
            obtain ⟨e2,_⟩:=hok' b _ z2
            rw [e] at e1; cases e1
            exact e2
  cases hk:K.lookup a with
  | some o=>
    have e:=KX a o hk
    rw [ha] at e
    cases e
    refine core (fun _=>none) (fun _=>.inl rfl) (.inr ⟨_,vs.toArray,_,hk,rfl,rfl,rfl,by rw [List.size_toArray,lenV]; exact hl,by simpa using rv⟩) (fun b u z=>by have z':(none:Option HO)=some u:=z; cases z') (fun b z=>absurd rfl z) fun z=>absurd rfl z
  | none=>
    refine core (fun b=>if b=a then some (.frz { cls:=.type "list",data:=.seq vs.toArray } (.lst (ns.map V.int))) else none) (fun b=>?_) (.inl (.inr ⟨{ cls:=.type "list",data:=.seq vs.toArray },if_pos rfl⟩)) (fun b u z=>?_) (fun b z=>?_) fun _=>hk
    · by_cases hb:b=a
      · exact .inr ⟨_,_,if_pos hb⟩
      · exact .inl (if_neg hb)
    · by_cases hb:b=a
      · have z':=(if_pos hb).symm.trans z
        cases z'
        subst hb
        exact ⟨ha,by rw [List.length_map]; exact hl,vs,_,rv,ha⟩
      · have z':=(if_neg hb).symm.trans z
        cases z'
    · by_cases hb:b=a
      · exact hb
      · exact absurd (if_neg hb) z
end L2
namespace L2
open PySem PySem.Spec PyProof.Rows
theorem ZqU {l:PySem.W.OpenLaw} {n k:Nat} {q:Program} {loose:List Str} {XP:(Str→Option Value)→Heap→Prop} {YP:World→Heap→Prop} {d:DefRec} {K:Params→PySem.W.Frag} {CX:World→CXT} {sp:World→Sp} {x:Str}
    (hn:l.most=some n) (hn2:n≤sizeLine) (hdf:d.params.defaults=[]) (hr:Room k callerA)
    (hY:∀(w:World) (h:Heap),YP w h→(K w.params).In h)
    (F:∀(w:World) (mg:Str→Option Value) (fa:Addr) (h:Heap),(K w.params).In h→h.Ns mainGlobals mg→mg d.name=some (.ref fa)→
      ∃fd:FuncData,(∀(s:Shared) (u:Value),BindsTo s fd ⟨[u],[]⟩ [(x,u)])∧
        ∀base:Heap,(K w.params).In base→base.Ns mainGlobals mg→FnOk l.prog w (K w.params) mg base (CX w) k fa fd [x] (sp w))
    (hsp:∀(w:World) (H:Hp) (a:Addr) (ns:List Int),ns.length≤n→Zr6 H→SqL (K w.params) H a (ns.map V.int)→sp w [.ref a] H (fun v _=>v=.bl true) fun _ _ _=>False)
    (hCX:∀(w:World) (H:Hp) (s:Shared) (e:Value) (s':Shared),CX w [] H s (fun _ _ _=>False) e s'→False) :
    PySem.W.WalkO q loose XP YP l.row.toRowW d [] (fun f vs=>PySem.call f vs):=by
  refine Att.attach_call hn hdf fun w s₀ s₁ mg mb fa o pm cd doc a vs ns G Y ho hd hcd hmg hobj hints hlen hg=>?_
  have KX:=hY w _ Y
  obtain ⟨fd,hb,hF⟩:=F w mg fa _ KX G.T.g hmg
  exact Zp5 KX G.T.g G.T.b G.T.builtins G.T.nolimit hg hobj hints (Nat.le_trans hlen hn2) hr hF hb (fun H hO hS=>hsp w H a ns hlen hO hS) fun H e s'=>hCX w H s₁ e s'
end L2
namespace L2
open PySem PySem.Spec PyProof.Rows
def ZmF (s:Stmt) (j:Nat):Stmt:=match s with
  | .ClassDef _ _ _ body _ _ _ _ _ _ _=>body.getD j (.Pass ⟨0,0,0,0⟩)
  | _=>.Pass ⟨0,0,0,0⟩
def Zr (s:Stmt):Arguments:=match s with
  | .FunctionDef _ a _ _ _ _ _ _ _ _=>a
  | _=>{ posonlyargs:=[],args:=[],vararg:=none,kwonlyargs:=[],kw_defaults:=[],kwarg:=none,defaults:=[] }
def Zn (s:Stmt):List Stmt:=match s with
  | .FunctionDef _ _ b _ _ _ _ _ _ _=>b
  | _=>[]
def Zg (s:Stmt):Scope:=match s with
  | .FunctionDef _ _ _ _ _ _ sc _ _ _=>sc
  | _=>{ kind:=.function,names:=[],isGenerator:=false,isCoroutine:=false }
abbrev CX0:CXT:=fun _ _ _ _ _ _=>False
abbrev E0:XK:=fun _ _ _=>False
theorem ZpE {X:Cx}:Zgs CX0 X E0:=fun _ _ _ _ _ _ _ h=>h.elim
structure Fun (K:PySem.W.Frag) (x qual:Str) (st:Stmt) (f:Addr) (fd:FuncData):Prop where
  ex:∃(oc:Value) (od:Option Addr) (kV doc pm:Value) (an:Option Addr) (cdv ct:Value) (osl:Array (Option Value)),
    fd=PySem.W.fnOf x qual (Zr st) (Zn st) (Zg st) .none kV doc pm an cdv ct∧K.lookup f=some ⟨oc,od,.func fd,osl⟩∧PySem.W.codeIn K cdv qual=true
  kp:PySem.W.keepIn K (.ref f)=true
section
variable {P:Program} {w:World} {K:PySem.W.Frag} {mg:Str→Option Value} {base:Heap}
theorem Fun.ok {x qual:Str} {st:Stmt} {f:Addr} {fd:FuncData} {N ps:List Str} {k:Nat} {sp:Sp} (F:Fun K x qual st f fd) (S:Zp N ps (Zg st)) (len:∀vs H Q E,sp vs H Q E→vs.length=ps.length)
    (hbody:∀(cdv:Value) (A:Around) (outer:List Env) (s:Shared) (H:Hp) (vs:List V) (Q:VK) (E:XK),Room k (A.deeper (envOfC qual (Zg st) s.heap.objs.size f cdv))→sp vs H Q E→
      ∃t,PSs (ZgT CX0 P w K mg base N qual (Zg st) f cdv A outer s H E).nox (Zn st) t∧t { nx:=fun _ H'=>Q .non H',rt:=Q } (ZdC N vs) H):FnOk P w K mg base CX0 (k+1) f fd ps sp:=by
  obtain ⟨oc,od,kV,doc,pm,an,cdv,ct,osl,rfl,lk,hcd⟩:=F.ex
  refine ZvC lk hcd S len fun A outer s H vs Q E hr hsp=>?_
  obtain ⟨t,h,q⟩:=hbody cdv A outer s H vs Q E hr hsp
  exact ⟨t,h.nox,q⟩
theorem Fun.binds {x qual:Str} {st:Stmt} {f:Addr} {fd:FuncData} {ps:List Str} (F:Fun K x qual st f fd)
    (h:∀(kV doc pm:Value) (an:Option Addr) (cdv ct:Value) (us:List Value),us.length=ps.length→bindArgs (PySem.W.fnOf x qual (Zr st) (Zn st) (Zg st) .none kV doc pm an cdv ct) ⟨us,[]⟩=pure (ps.zip us)):Binds K fd ps []:=by
  obtain ⟨oc,od,kV,doc,pm,an,cdv,ct,osl,rfl,lk,hcd⟩:=F.ex
  exact .all (h kV doc pm an cdv ct)
theorem Zx {x qual:Str} {st:Stmt} {f:Addr} {oc:Value} {od an:Option Addr} {osl:Array (Option Value)} {kV doc pm cdv ct:Value} (l:K.lookup f=some ⟨oc,od,.func (PySem.W.fnOf x qual (Zr st) (Zn st) (Zg st) .none kV doc pm an cdv ct),osl⟩)
    (c:PySem.W.codeIn K cdv qual=true) (k:PySem.W.keepIn K (.ref f)=true):Fun K x qual st f (PySem.W.fnOf x qual (Zr st) (Zn st) (Zg st) .none kV doc pm an cdv ct):=⟨⟨oc,od,kV,doc,pm,an,cdv,ct,osl,rfl,l,c⟩,k⟩
end
section
variable {X:Cx}
end
def Same (H H':Hp):Prop:=∀b o,H b=some o→H' b=some o
theorem Same.refl (H:Hp):Same H H:=fun _ _ h=>h
theorem Same.trans {H H1 H2:Hp} (a:Same H H1) (b:Same H1 H2):Same H H2:=fun c o h=>b c o (a c o h)
theorem Same.free {H H':Hp} (e:Same H H') {l:Addr} (h:H' l=Option.none):H l=Option.none:=by
  cases q:H l with
  | none=>rfl
  | some o=>
    rw [e l o q] at h
    cases h
theorem Same.seq {K:PySem.W.Frag} {H H':Hp} {a:Addr} {xs:List V} (e:Same H H') (h:SqL K H a xs):SqL K H' a xs:=by
  rcases h with (h | ⟨o,h⟩) | h
  · exact .inl (.inl (e _ _ h))
  · exact .inl (.inr ⟨o,e _ _ h⟩)
  · exact .inr h
end L2
namespace L2
open PySem PySem.Spec PyProof.Rows
section
variable {P:Program} {w:World} {K:PySem.W.Frag} {mg:Str→Option Value} {base:Heap}
def Def0 (K:PySem.W.Frag) (mg:Str→Option Value) (x:Str) (st:Stmt) (ps:List Str):Prop:=
  ∃(f:Addr) (fd:FuncData),Fun K x x st f fd∧Binds K fd ps []∧mg x=some (.ref f)
def Def (P:Program) (w:World) (K:PySem.W.Frag) (mg:Str→Option Value) (base:Heap) (k:Nat) (x:Str) (ps:List Str) (sp:Sp):Prop:=
  ∃(f:Addr) (fd:FuncData),FnOk P w K mg base CX0 k f fd ps sp∧Binds K fd ps []∧PySem.W.keepIn K (.ref f)=true∧mg x=some (.ref f)
theorem Def0.ok {x:Str} {st:Stmt} {N ps:List Str} {k:Nat} {sp:Sp} (D:Def0 K mg x st ps) (S:Zp N ps (Zg st)) (len:∀vs H Q E,sp vs H Q E→vs.length=ps.length)
    (hbody:∀(f:Addr) (cdv:Value) (A:Around) (outer:List Env) (s:Shared) (H:Hp) (vs:List V) (Q:VK) (E:XK),Room k (A.deeper (envOfC x (Zg st) s.heap.objs.size f cdv))→sp vs H Q E→
      ∃t,PSs (ZgT CX0 P w K mg base N x (Zg st) f cdv A outer s H E).nox (Zn st) t∧t { nx:=fun _ H'=>Q .non H',rt:=Q } (ZdC N vs) H):Def P w K mg base (k+1) x ps sp:=by
  obtain ⟨f,fd,F,b,m⟩:=D
  exact ⟨f,fd,F.ok S len (hbody f),b,F.kp,m⟩
theorem Def.mono {x:Str} {ps:List Str} {j k:Nat} {sp:Sp} (D:Def P w K mg base j x ps sp) (h:j≤k):Def P w K mg base k x ps sp:=by
  obtain ⟨f,fd,F,b,kp,m⟩:=D
  exact ⟨f,fd,F.mono h,b,kp,m⟩
end
section
variable {X:Cx} {k:Nat} {x:Str} {ps:List Str} {sp:Sp} {p pos:Pos} {e:Expr} {es:List Expr} {t:TA}
theorem ZpC {j:Nat} (D:Def X.prog X.w X.K X.mg X.base k x ps sp) (hr:Room j X.A) (hj:k≤j) (ha:PA X (e::es) t) (hg:Gl X x:=by rfl) (hdb:(x == ("__debug__":Str))=false:=by decide)
    (he:starEach (e::es) X.env=(false,eval e X.env)::starEach es X.env:=by rfl) (hpl:(backTo pos (starEach es X.env)).any (·.1)=false:=by rfl):PE X (.Call (.Name x p) (e::es) [] pos) (Zsm sp [] E0 t):=by
  obtain ⟨f,fd,F,b,kp,m⟩:=D
  exact Zru F (hr.mono hj) hg m kp b .nil ZpE ha hdb he hpl
theorem Zrs {i:Int} (h:∃t,X.mg x=some (.int i t)) (hg:Gl X x:=by rfl) (hd:(x == ("__debug__":Str))=false:=by decide):PE X (.Name x pos) (tC (.int i)):=by
  obtain ⟨t,h⟩:=h
  exact Zmp hg h ⟨t,rfl⟩ hd
def ZvO (_ j:Int):Prop:=0<j∧j.natAbs.log2<9000
theorem ZpF:OpR X (binaryOp .FloorDiv) (rI ZvO fun i j=>.int (i/j)):=opI fun i j _ _ _ _ _ hc q=>by
  have h1:(0:Int)<j:=hc.1
  exact floordiv_int (by omega) (by rw [Int.fdiv_eq_ediv_of_nonneg i (by omega)]; exact q) (.inl (PyProof.noPylong_of_log2 hc.2))
theorem Zlp:CallR X (.builtin "isinstance") (fun xs H Q=>∃(x:V) (n:String) (t:Value) (b:Bool),xs=[x,.ty n]∧Zf3 X.K H x t∧PySem.W.kitOne X.K t (.type n)=some b∧Q (.bl b) H):=by
  intro pins s σ H xs us Q I r h
  obtain ⟨x,n,t,b,rfl,ty,e,q⟩:=h
  cases r with
  | cons rx rr=>
    cases rr with
    | cons ry rr=>
      cases rr
      cases ry
      exact Znq I rx ty e fun tk=>⟨.bl b,H,I.tok tk,rfl,q⟩
theorem Zu6 {x:Str} {n:String} {pos:Pos} (hm:X.mg x=none) (hv:bootBuiltins x=some (.type n)) (hg:Gl X x:=by rfl) (hn:x≠"__name__":=by decide) (hd:(x == ("__debug__":Str))=false:=by decide):PE X (.Name x pos) (tC (.ty n)):=
  Zrv hg hm hv rfl hn hd
end
end L2
set_option maxHeartbeats 4000000
namespace L2
open PySem PySem.Spec PyProof.Rows
theorem ZfS {scope:Scope} {env:Env} (h:∀x∈scope.names,x.2=.free→∃c,env.cells.lookup x.1=some c) :
    ∃cl:List (Str×Addr),closureFor scope env=pure cl∧(∀n c,(n,c)∈cl→env.cells.lookup n=some c)∧∀x∈scope.names,x.2=.free→∃c,(x.1,c)∈cl:=by
  have key:∀(names:List (Str×NameKind)) (acc:List (Str×Addr)),(∀x∈names,x.2=.free→∃c,env.cells.lookup x.1=some c)→(∀n c,(n,c)∈acc→env.cells.lookup n=some c)→
      ∃cl:List (Str×Addr),(forIn names acc fun (x:Str×NameKind) (cs:List (Str×Addr))=>if (x.2 == NameKind.free)=true then (do let c ←cellOf env x.1; pure (ForInStep.yield ((x.1,c)::cs)):Sem _) else pure (ForInStep.yield cs))=(pure cl:Sem _)∧
        (∀n c,(n,c)∈cl→env.cells.lookup n=some c)∧(∀p∈acc,p∈cl)∧∀x∈names,x.2=.free→∃c,(x.1,c)∈cl:=by
    intro names
    induction names with
    | nil=>intro acc _ ha; exact ⟨acc,rfl,ha,fun _ p=>p,fun x hx=>nomatch hx⟩
    | cons y r ih=>
      intro acc hx ha
      obtain ⟨n,k⟩:=y
      by_cases hk:k=.free
      · subst hk
        obtain ⟨c,hc⟩:=hx (n,.free) List.mem_cons_self rfl
        obtain ⟨cl,e,h1,h2,h3⟩:=ih ((n,c)::acc) (fun x z=>hx x (List.mem_cons_of_mem _ z)) (fun m d z=>by
          rcases List.mem_cons.mp z with z | z
          · cases z; exact hc
          · exact ha m d z)
        refine ⟨cl,?_,h1,fun p z=>h2 p (List.mem_cons_of_mem _ z),fun x z zf=>?_⟩
        · have ec:cellOf env n=pure c:=by unfold cellOf; rw [hc]
          rw [List.forIn_cons]
          simp only [beq_self_eq_true,if_true,ec,pure_bind]
          exact e
        · rcases List.mem_cons.mp z with z | z
          · cases z; exact ⟨c,h2 _ List.mem_cons_self⟩
          · exact h3 x z zf
      · obtain ⟨cl,e,h1,h2,h3⟩:=ih acc (fun x z=>hx x (List.mem_cons_of_mem _ z)) ha
        refine ⟨cl,?_,h1,h2,fun x z zf=>?_⟩
        · have hb:(k == NameKind.free)=false:=by simpa using hk
          rw [List.forIn_cons]
          simp only [hb,Bool.false_eq_true,if_false,pure_bind]
          exact e
        · rcases List.mem_cons.mp z with z | z
          · cases z; exact absurd zf hk
          · exact h3 x z zf
  obtain ⟨cl,e,h1,_,h3⟩:=key scope.names [] h (fun n c z=>nomatch z)
  refine ⟨cl,?_,h1,h3⟩
  simp only [closureFor]
  rw [e]
  rfl
def Cx.comp (X:Cx) (scope:Scope) (N':List Str) (cl:List (Str×Addr)) (C:Addr) (s₀:Shared) (H₀:Hp) (fp:List Addr):Cx where
  prog:=X.prog
  w:=X.w
  K:=X.K
  mg:=X.mg
  base:=X.base
  A:=X.A
  N:=N'
  s₀:=s₀
  H₀:=H₀
  env:=compEnvC scope cl C X.env
  outer:=X.stack
  stack:=X.stack
  ex:=fp
  fn:=fun _=>false
  calm:=X.calm
  pn:=[]
  xe:=fun _ _=>False
def inner (src:List Nat) (σ:St) (x:Option V):St:=x::src.map fun j=>(σ[j]?).join
theorem Zhr {α:Type} {l:List (Str×α)} {n:Str} {c:α} (h:(n,c)∈l):∃d,l.lookup n=some d:=by
  induction l with
  | nil=>cases h
  | cons y r ih=>
    obtain ⟨m,d⟩:=y
    by_cases e:n == m
    · exact ⟨d,by rw [List.lookup_cons,e]⟩
    · rcases List.mem_cons.mp h with z | z
      · cases z; exact absurd (beq_self_eq_true n) e
      · obtain ⟨d',q⟩:=ih z
        exact ⟨d',by rw [List.lookup_cons,Bool.eq_false_iff.mpr e]; exact q⟩
theorem ZdX {env:Env} {n:Str}:∀{names:List (Str×NameKind)} {k:NameKind},(∀y∈names,y.2≠.cell)→
    (names.map fun (n,k)=>if (k == NameKind.free && env.scope.kind == .function && env.kindOf n == some .cell) then (n,NameKind.cell) else (n,k)).lookup n=some k→(k=.cell∨k=.free)→(n,NameKind.free)∈names
  | [],_,_,h,_=>by simp at h
  | (m,j)::r,k,hc,h,hk=>by
    have nc:j≠.cell:=hc (m,j) List.mem_cons_self
    rw [List.map_cons] at h
    by_cases e:n == m
    · have en:n=m:=by simpa using e
      subst en
      by_cases cnd:(j == NameKind.free && env.scope.kind == .function && env.kindOf n == some .cell)=true
      · have:j=.free:=by
          simp only [Bool.and_eq_true,beq_iff_eq] at cnd
          exact cnd.1.1
        rw [this]
        exact List.mem_cons_self
      · simp only [cnd] at h
        rw [if_neg (by simp),List.lookup_cons,beq_self_eq_true] at h
        cases h
        rcases hk with rfl | rfl
        · exact absurd rfl nc
        · exact List.mem_cons_self
    · refine List.mem_cons_of_mem _ (ZdX (env:=env) (k:=k) (fun y hy=>hc y (List.mem_cons_of_mem _ hy)) ?_ hk)
      rw [List.lookup_cons] at h
      have e2:(n == (if (j == NameKind.free && env.scope.kind == .function && env.kindOf m == some .cell)=true then (m,NameKind.cell) else (m,j)).1)=false:=by
        split<;>exact Bool.eq_false_iff.mpr e
      rw [e2] at h
      exact h
theorem Zfy {env:Env}:∀{names:List (Str×NameKind)} {x:Str},names.lookup x=some .free→
    (names.map fun (n,k)=>if (k == NameKind.free && env.scope.kind == .function && env.kindOf n == some .cell) then (n,NameKind.cell) else (n,k)).lookup x=some .cell∨
    (names.map fun (n,k)=>if (k == NameKind.free && env.scope.kind == .function && env.kindOf n == some .cell) then (n,NameKind.cell) else (n,k)).lookup x=some .free
  | [],_,h=>by simp at h
  | (n,k)::r,x,h=>by
    have ih:=@Zfy env r x
    rw [List.map_cons]
    cases hx:x == n with
    | true=>
      simp only [List.lookup_cons,hx] at h
      cases h
      by_cases hc:(NameKind.free == NameKind.free && env.scope.kind == .function && env.kindOf n == some .cell)=true
      · left
        show List.lookup x ((if (NameKind.free == NameKind.free && env.scope.kind == .function && env.kindOf n == some .cell)=true then (n,NameKind.cell) else (n,NameKind.free))::_)=_
        rw [if_pos hc,List.lookup_cons,hx]
      · right
        show List.lookup x ((if (NameKind.free == NameKind.free && env.scope.kind == .function && env.kindOf n == some .cell)=true then (n,NameKind.cell) else (n,NameKind.free))::_)=_
        rw [if_neg hc,List.lookup_cons,hx]
    | false=>
      simp only [List.lookup_cons,hx] at h
      have e:∀t,List.lookup x ((if (k == NameKind.free && env.scope.kind == .function && env.kindOf n == some .cell)=true then (n,NameKind.cell) else (n,k))::t)=List.lookup x t:=fun t=>by
        split<;>rw [List.lookup_cons,hx]
      rcases ih h with q | q
      · exact .inl ((e _).trans q)
      · exact .inr ((e _).trans q)
section
variable {X:Cx} {x:Str} {px:Pos} {iter elt:Expr} {scope:Scope} {pos:Pos} {N':List Str} {src:List Nat} {wi:TI} {te:TE}
structure Zby (scope sc:Scope) (x:Str) (N N':List Str) (src:List Nat):Prop where
  kind:scope.kind=.function
  cell:∀y∈scope.names,y.2≠.cell
  loc:∀y∈scope.names,y.2=.local→scope.names.lookup y.1=some .local
  own:scope.names.lookup x=some .local
  free:∀y∈scope.names,y.2=.free→sc.names.lookup y.1=some .cell
  nd:N'.Nodup
  names:N'=x::src.map fun j=>N.getD j x
  all:∀j∈src,j<N.length
  fr:∀j∈src,sc.names.lookup (N.getD j x)=some .cell∧scope.names.lookup (N.getD j x)=some .free
theorem Zl3 {pins:List (Addr×Obj)} {σ:St} {H:Hp} {s s':Shared} {C:Addr} {cl:List (Str×Addr)} {fp:List Addr} (I:Inv X pins σ H s) (S:Zby scope X.env.scope x X.N N' src)
    (hcl:∀n c,(n,c)∈cl→X.env.cells.lookup n=some c) (hcl2:∀y∈scope.names,y.2=.free→∃c,(y.1,c)∈cl) (hC:s.heap.objs.size≤C) (hfp:∀b∈fp,Zh5 X pins H b) (hfl:∀b∈fp,b<s.heap.objs.size)
    (hn:∃m,s'.heap.Ns C m) (hk:∀b o,s.heap.get? b=some o→s'.heap.get? b=some o) (ho:s'.os=s.os) (hg:s'.gens=s.gens) :
    Inv (X.comp scope N' cl C s H fp) [] (inner src σ none) H s':=by
  have cll:∀n c,cl.lookup n=some c→X.env.cells.lookup n=some c:=fun n c e=>hcl n c (PySem.mem_of_lookup e)
  refine ⟨⟨I.ok.mod,S.kind,I.ok.glob,I.ok.blt,hC,fun y z c h1 h2=>I.ok.inj y z c (cll _ _ h1) (cll _ _ h2),fun y hy=>?_,fun y c h=>absurd (show false=true from h) (by decide),I.ok.hd,I.ok.frames,.inl rfl,fun b hb=>⟨Nat.ne_of_lt (Nat.lt_of_lt_of_le (hfl b hb) hC),fun y c e=>(hfp b hb).2.2.2.2.1 y c (cll y c e)⟩,
    I.bs,Nat.le_trans I.ok.bsz I.sz,fun b o e hb=>?_,fun b hb=>?_,I.stack,I.stkFree⟩,ho,?_,Un.kept hk,?_,fun y c e=>?_,I.hok.fresh hC,fun y c e=>I.freeC y c (cll y c e),fun p hp=>absurd (show p∈([]:List (Addr×Obj)) from hp) (by simp),I.hok.kept hk,?_⟩
  · have hy':(relabel scope X.env).names.lookup y=some .cell∨(relabel scope X.env).names.lookup y=some .free:=hy
    have:(y,NameKind.free)∈scope.names:=by
      rcases hy' with h | h
      · exact ZdX S.cell h (.inl rfl)
      · exact ZdX S.cell h (.inr rfl)
    obtain ⟨c,hc⟩:=hcl2 _ this rfl
    exact Zhr hc
  · rcases (hfp b hb).2.2.2.1 with z | z
    · exact I.ok.noex b o e z
    · exact absurd (Nat.lt_of_lt_of_le (Heap.lt_size e) (Nat.le_trans I.ok.bsz z)) (Nat.lt_irrefl _)
  · intro hs
    rcases List.mem_cons.mp (I.stkSub b hs) with z | z
    · exact (hfp b hb).2.1 z
    · exact (hfp b hb).2.2.1 z
  · rw [hg]; exact I.bare
  · obtain ⟨m,hm⟩:=hn
    refine ⟨m,hm,fun i y v h1 h2 h3=>?_⟩
    have h1':N'[i]?=some y:=h1
    rw [S.names] at h1'
    cases i with
    | zero=>cases (show (some none:Option (Option V))=some (some v) from h2)
    | succ k=>
      rw [List.getElem?_cons_succ,List.getElem?_map] at h1'
      have h2':(src.map fun j=>(σ[j]?).join)[k]?=some (some v):=h2
      rw [List.getElem?_map] at h2'
      cases e:src[k]? with
      | none=>rw [e] at h1'; cases h1'
      | some j=>
        rw [e] at h1' h2'
        have hj:=List.mem_of_getElem? e
        have ey:X.N.getD j x=y:=Option.some.inj h1'
        have ev:(σ[j]?).join=some v:=Option.some.inj h2'
        have eN:X.N[j]?=some y:=by
          have:=S.all j hj
          rw [List.getElem?_eq_getElem this]
          rw [List.getD_eq_getElem?_getD,List.getElem?_eq_getElem this] at ey
          exact congrArg some ey
        have eσ:σ[j]?=some (some v):=by
          cases q:σ[j]? with
          | none=>rw [q] at ev; cases ev
          | some z=>rw [q] at ev; exact congrArg some ev
        obtain ⟨k1,k2⟩:=S.fr j hj
        rw [ey] at k1 k2
        obtain ⟨mo,hmo,hl⟩:=I.loc
        obtain ⟨u,r,l⟩:=hl j y v eN eσ (.inr (.inl k1))
        refine ⟨u,r,?_⟩
        rcases l with ⟨z,_⟩ | ⟨_,c,hc,hcell⟩
        · have z':X.env.scope.names.lookup y=some .local:=z
          rw [k1] at z'; cases z'
        · obtain ⟨c',hc'⟩:=hcl2 _ (PySem.mem_of_lookup k2) rfl
          obtain ⟨d,hd⟩:=Zhr hc'
          have ed:d=c:=by
            have:=cll _ _ hd
            rw [hc] at this
            exact (Option.some.inj this).symm
          subst ed
          obtain ⟨o,e1,e2⟩:=hcell
          refine .inr ⟨?_,d,hd,o,hk _ _ e1,e2⟩
          rcases h3 with z | z | z
          · have z':(relabel scope X.env).names.lookup y=some .local:=z
            rcases Zfy (env:=X.env) k2 with w | w
            · have w':(relabel scope X.env).names.lookup y=some .cell:=w
              rw [w'] at z'; cases z'
            · have w':(relabel scope X.env).names.lookup y=some .free:=w
              rw [w'] at z'; cases z'
          · exact .inl z
          · exact .inr z
  · obtain ⟨v,o,e1,e2⟩:=I.cell y c (cll y c e)
    exact ⟨v,o,hk _ _ e1,e2⟩
  · show (inner src σ none).length=N'.length
    rw [S.names]
    unfold inner
    rw [List.length_cons,List.length_cons,List.length_map,List.length_map]
theorem Zlm {prog:Program} {w:World} {A:Around} {R:Result→Shared→Prop} {s:Shared} {elt target iter:Expr} {scope:Scope} {pos:Pos} {it acc:Value} {env:Env} (I:Nat→Shared→Prop)
    (turn:∀n s,I n s→wpAny (model prog w) A (pyNext it) (fun r s₁=>match r with
      | none=>R (.ok .next) s₁
      | some v=>wpAny (model prog w) A (letOwnedTupleGo target it v) (fun _ s₂=>wpAny (model prog w) A (assign target env v) (fun _ s₃=>wpAny (model prog w) A (eval elt env) (fun x s₄=>
          wpAny (model prog w) A (call (.builtin "list.append") [acc,x]) (fun _ s₅=>∃m,m<n∧I m s₅) (notedBy (model prog w) A env fun e s'=>R (.error e) s') s₄) (notedBy (model prog w) A env fun e s'=>R (.error e) s') s₃)
          (notedBy (model prog w) A env fun e s'=>R (.error e) s') s₂) (notedBy (model prog w) A env fun e s'=>R (.error e) s') s₁) (notedBy (model prog w) A env fun e s'=>R (.error e) s') s)
    (n:Nat) (h:I n s):codeAny (model prog w) A (.compLoop (.ListComp elt [⟨target,iter,[],0⟩] scope pos) 0 it acc env) R s:=by
  refine codeAny_loop rfl I (fun n s hI=>?_) n h
  show wpAny _ A ((compTurn (.ListComp elt [⟨target,iter,[],0⟩] scope pos) 0 it acc env).onRaise (fun x=>do noteFrame x env; theTreesLotGoes x)) _ _ s
  refine wpAny_noted ?_
  rw [compTurn_list1]
  refine wpAny_bind (wpAny_standAt (wpAny_bind (thn (turn n s hI) fun r s₁ h₁=>?_)))
  cases r with
  | none=>exact wpAny_pure h₁
  | some v=>
    refine wpAny_bind (thn h₁ fun _ s₂ h₂=>wpAny_bind (thn h₂ fun _ s₃ h₃=>?_))
    exact wpAny_bind (wpAny_bind (thn h₃ fun x s₄ h₄=>wpAny_bind (thn h₄ fun _ s₅ h₅=>wpAny_pure (wpAny_pure ⟨rfl,h₅⟩))))
def lcR (J:It) (src:List Nat) (σ:St) (te:TE) (H1:Hp) (Q:VK):Prop:=∃(n:Nat) (Pv:Nat→List V→Hp→Prop),n≤sizeLine∧Pv 0 [] H1∧
  (∀i ys H,i<n→Pv i ys H→J.go i H∧∀y H',J.yld i H y H'→te (inner src σ (some y)) H' fun z H2=>Pv (i+1) (ys++[z]) H2)∧
  ∀ys H,Pv n ys H→J.stop n H∧∀p,H p=none→Q (.ref p) (upd H p (.lst ys))
def tLc (wi:TI) (src:List Nat) (te:TE):TE:=fun σ H Q=>wi σ H fun J H1=>lcR J src σ te H1 Q
theorem HOk.lay {P:Program} {w:World} {H:Hp} {h:Heap} {a:Addr} {o:HO} (x:HOk P w H h) (hn:H a=none) (new:ObjOk P w (upd H a o) h a o):HOk P w (upd H a o) h:=fun b u e=>by
  by_cases hb:b=a
  · subst hb; rw [zF] at e; cases e; exact new
  · rw [ZQ hb] at e
    exact (x b u e).stay (fun c v _ q=>q) (fun c q=>by rw [ZQ (zl q hn)]; exact q) fun c xs q=>by rw [ZQ (zl q hn)]; exact q
theorem Un.lay {fs ex:List Addr} {H H1:Hp} {h h1:Heap} {a:Addr} {o:HO} (u:Un fs ex H H1 h h1) (hn:H1 a=none) (hh:h.get? a=none):Un fs ex H (upd H1 a o) h h1 where
  keep:=u.keep
  slot:=u.slot
  free:=fun b ob q n hx=>by rw [ZQ (fun z=>by rw [z,hh] at q; cases q)]; exact u.free b ob q n hx
  there:=u.there
  tups:=fun b xs q=>by rw [ZQ (zl (u.tups b xs q) hn)]; exact u.tups b xs q
  frzs:=fun b ob xs q=>by rw [ZQ (zl (u.frzs b ob xs q) hn)]; exact u.frzs b ob xs q
  tbls:=fun b ps q=>by
    obtain ⟨m,e⟩:=u.tbls b ps q
    exact ⟨m,by rw [ZQ (zl e hn)]; exact e⟩
theorem Zp4 {pins:List (Addr×Obj)} {σ:St} {H:Hp} {s:Shared} {cl:List (Str×Addr)} {it:Addr} {fp:List Addr} {tn:Nat→Heap→Prop} {J:It} {n:Nat} {Pv:Nat→List V→Hp→Prop} {RR:Value→Addr→Result→Shared→Prop} {E:Value→Shared→Prop}
    (I:Inv X pins σ H s) (hcm:X.calm=true) (S:Zby scope X.env.scope x X.N N' src) (hcl:∀n c,(n,c)∈cl→X.env.cells.lookup n=some c) (hcl2:∀y∈scope.names,y.2=.free→∃c,(y.1,c)∈cl)
    (T:ZnF X.prog X.w X.K (.Name x px) J fp it tn) (t0:tn 0 s.heap) (hfp:∀b∈fp,Zh5 X pins H b)
    (helt:∀(cl:List (Str×Addr)) (C:Addr) (s₀:Shared) (H₀:Hp) (fp:List Addr),PE (X.comp scope N' cl C s₀ H₀ fp) elt te)
    (hn:n≤sizeLine) (p0:Pv 0 [] H) (turn:∀i ys H,i<n→Pv i ys H→J.go i H∧∀y H',J.yld i H y H'→te (inner src σ (some y)) H' fun z H2=>Pv (i+1) (ys++[z]) H2) (stop:∀ys H,Pv n ys H→J.stop n H)
    (hR:∀(D C:Addr) (o:Obj) (ys:List V) (H':Hp) (s':Shared),Pv n ys H'→H' D=none→Inv X (pins++[(C,o)]) σ (upd H' D (.lst ys)) s'→(∃m,s'.heap.Ns C m)→Zh5 X pins (upd H' D (.lst ys)) C→RR (.ref D) C (.ok .next) s') :
    wpAny (model X.prog X.w) X.A (newList []) (fun acc s₃=>wpAny (model X.prog X.w) X.A (newFunctionEnv scope X.env.globals cl [] X.env.qual none .none (some X.env)) (fun cenv s₄=>
      codeAny (model X.prog X.w) X.A (.compStart (.ListComp elt [⟨.Name x px,iter,[],0⟩] scope pos) 0 (.ref it) acc { cenv with scope:=relabel scope X.env }) (RR acc cenv.locals) s₄) E s₃) E s:=by
  refine wpAny_newObj_type (wpAny_newFunctionEnv S.cell (by intro y hy; simp at hy) (fun h₁ hns₁ hsb₁=>?_) S.kind)
  dsimp only at hns₁ hsb₁ ⊢
  generalize hH2:s.heap.push { cls:=.type "list",dict:=none,data:=.seq ([]:List Value).toArray }=H2 at hns₁ hsb₁ ⊢
  have hC:H2.objs.size=s.heap.objs.size+1:=by rw [←hH2,Heap.size_push]
  have hDC:s.heap.objs.size≠H2.objs.size:=by rw [hC]; exact Nat.ne_of_lt (Nat.lt_succ_self _)
  have hCle:s.heap.objs.size≤H2.objs.size:=by rw [hC]; exact Nat.le_succ _
  have below:∀b,b<s.heap.objs.size→b≠H2.objs.size∧b≠s.heap.objs.size:=fun b hb=>⟨by rw [hC]; exact Nat.ne_of_lt (Nat.lt_succ_of_lt hb),Nat.ne_of_lt hb⟩
  have old:∀b o,s.heap.get? b=some o→h₁.get? b=some o:=fun b o e=>hsb₁.extBut b o (below b (Heap.lt_size e)).1 (Heap.get?_push_of_some _ (hH2 ▸ Heap.get?_push_of_some _ e))
  have hacc:h₁.PlainList s.heap.objs.size #[]:=⟨_,hsb₁.extBut _ _ hDC (Heap.get?_push_of_some _ (hH2 ▸ Heap.get?_push_size _ rfl))⟩
  have hfl:∀b∈fp,b<s.heap.objs.size:=fun b hb=>by
    obtain ⟨o,e,_⟩:=T.obj 0 _ t0 b hb
    exact Heap.lt_size e
  have fresh:∀a,s.heap.objs.size≤a→s.heap.get? a=none:=fun a ha=>by
    cases e:s.heap.get? a with
    | none=>rfl
    | some o'=>exact absurd (Heap.lt_size e) (Nat.not_lt.mpr ha)
  generalize eD:s.heap.objs.size=D at hDC hacc hCle below fresh hfl hC ⊢
  generalize eC:H2.objs.size=C at hDC hCle below hC hns₁ hsb₁ ⊢
  have I1:Inv (X.comp scope N' cl C s H fp) [] (inner src σ none) H { s with heap:=h₁,toks:=s.toks+([]:List (Str×Value)).length }:=
    Zl3 I S hcl hcl2 (by rw [eD]; exact hCle) hfp (by rw [eD]; exact hfl) ⟨_,hns₁⟩ old rfl rfl
  have stat:∀{H':Hp} {pl:List (Addr×Obj)},(∀p∈pl,p.1=D)→(∀b∈fp,H' b=none)→∀b∈fp,Zh5 (X.comp scope N' cl C s H fp) pl H' b:=fun {H' pl} hp hn b hb=>
    ⟨hn b hb,(below b (hfl b hb)).1,fun z=>by
      rcases List.mem_cons.mp (I.stkSub b z) with q | q
      · exact (hfp b hb).2.1 q
      · exact (hfp b hb).2.2.1 q,.inl hb,fun y c e=>(hfp b hb).2.2.2.2.1 y c (hcl y c (PySem.mem_of_lookup e)),fun p hq=>by
      rw [hp p (by rcases List.mem_append.mp hq with z | z; exact absurd (show p∈([]:List (Addr×Obj)) from z) (by simp); exact z)]
      exact Ne.symm (below b (hfl b hb)).2⟩
  have nD:D∉frs X.stack:=fun z=>by
    rcases List.mem_cons.mp (I.stkSub D z) with q | q
    · have:=I.lt; rw [←q,eD] at this; exact Nat.lt_irrefl _ this
    · exact I.nofs (a:=D) (by rw [eD]; exact Nat.le_refl _) q
  have nC:C∉X.fs:=I.nofs (by rw [eD]; exact hCle)
  have cellD:∀y c,cl.lookup y=some c→c<D:=fun y c e=>by
    obtain ⟨v,q⟩:=I.cell y c (hcl y c (PySem.mem_of_lookup e))
    have:=q.lt
    rw [eD] at this
    exact this
  have loop:∀s₃:Shared,s₃={ s with heap:=h₁,toks:=s.toks+([]:List (Str×Value)).length }→
      codeAny (model X.prog X.w) X.A (.compLoop (.ListComp elt [⟨.Name x px,iter,[],0⟩] scope pos) 0 (.ref it) (.ref D) (compEnvC scope cl C X.env)) (RR (.ref D) C) s₃:=by
    rintro s₃ rfl
    refine Zlm (fun k s'=>∃(i:Nat) (ys:List V) (its:List Value) (H':Hp) (xo:Option V),Inv (X.comp scope N' cl C s H fp) [] (inner src σ xo) H' s'∧tn i s'.heap∧(∀b∈fp,H' b=none)∧s'.heap.PlainList D its.toArray∧Vals ys its∧H' D=none∧
      Pv i ys H'∧ys.length=i∧i≤n∧k=n+1-i) ?_ (n+1) ⟨0,[],[],H,none,I1,T.keep _ _ _ t0 (fun b _ o e=>old b o e),fun b hb=>(hfp b hb).1,hacc,.nil,I.hok.fresh (by rw [eD]; exact Nat.le_refl _),p0,rfl,Nat.zero_le _,rfl⟩
    rintro k s' ⟨i,ys,its,H',xo,I3,t3,f3,l3,v3,d3,p3,e3,le3,rfl⟩
    by_cases hlt:i<n
    · obtain ⟨go,step⟩:=turn i ys H' hlt p3
      obtain ⟨nn,oD⟩:=id l3
      have I3p:Inv (X.comp scope N' cl C s H fp) [(D,{ cls:=.type "list",data:=.seq its.toArray nn })] (inner src σ xo) H' s':=
        I3.pins_of fun p hp=>by
          have ep:p=(D,{ cls:=.type "list",data:=.seq its.toArray nn }):=by simpa using hp
          subst ep
          exact ⟨oD,d3,hDC,nD,fun v z=>by cases z⟩
      refine thn (T.item (X.comp scope N' cl C s H fp) rfl rfl rfl hcm i _ s' _ H' _ I3p (stat (by simp) f3) t3 go) fun r s4 ⟨u,hr,h4⟩=>?_
      subst hr
      refine thn h4 fun _ s5 ⟨y,H5,I5,r5,y5,st5,fr5⟩=>?_
      have I5':=I5.pinned (stat (by simp) fr5) (T.obj _ _ st5)
      have hg:PG (X.comp scope N' cl C s H fp) (.Name x px) (Zlf 0):=
        Zfz S.nd (by show N'[0]?=some x; rw [S.names]; rfl) (.inl (lookup_relabel_local S.own)) (.inr (lookup_relabel_local S.own))
      refine wpAny_mono (hg _ s5 _ H5 y u (fun σ2 H2=>σ2=inner src σ (some y)∧H2=H5) I5' r5 ⟨rfl,rfl⟩) (fun _ s6 ⟨σ6,H6,I6,e6,e6'⟩=>?_) fun _ _ z=>False.elim z
      subst e6 e6'
      refine wpAny_mono (helt cl C s H fp _ s6 _ _ _ I6 (step y _ y5)) (fun v s7 ⟨z,H7,I7,r7,q7⟩=>?_) fun _ _ z=>False.elim z
      have o7:=I7.pin (D,{ cls:=.type "list",data:=.seq its.toArray nn }) (by simp)
      have hys:its.toArray.size≤sizeLine:=by
        have:=v3.length
        rw [List.size_toArray]
        omega
      refine wpAny_list_append_plain (hsz:=hys) (items:=its.toArray) (s:=s7) ⟨nn,o7.1⟩ fun h8 hl8 hs8=>?_
      refine ⟨n+1-(i+1),by omega,i+1,ys++[z],its++[v],H7,some y,?_,?_,?_,?_,v3.append (.cons r7 .nil),o7.2.1,q7,by rw [List.length_append,e3]<;>rfl,hlt,rfl⟩
      · have I7':Inv (X.comp scope N' cl C s H fp) [] (inner src σ (some y)) H7 s7:=I7.pins_of fun p hp=>absurd hp (by simp)
        exact I7'.turned (t':=s7.toks) (it:=D) (fun b o hb e=>(hs8.2 b hb).trans e) o7.2.1 hDC (.inr (by show s.heap.objs.size≤D; rw [eD]; exact Nat.le_refl _)) (fun y c e=>Nat.ne_of_lt (cellD y c e)) fun p hp=>absurd (show p∈([]:List (Addr×Obj)) from hp) (by simp)
      · refine T.keep _ _ _ st5 fun b hb o e=>(hs8.2 b (below b (hfl b hb)).2).trans ?_
        exact (I7.pin (b,o) (List.mem_append_right _ (List.mem_append_right _ (Zd2 hb e)))).1
      · intro b hb
        obtain ⟨o,e,_⟩:=T.obj _ _ st5 b hb
        exact (I7.pin (b,o) (List.mem_append_right _ (List.mem_append_right _ (Zd2 hb e)))).2.1
      · have:(its++[v]).toArray=its.toArray.push v:=by simp
        rw [this]; exact hl8
    · have ein:i=n:=by omega
      subst ein
      obtain ⟨nn,oD⟩:=id l3
      have I3p:Inv (X.comp scope N' cl C s H fp) [(D,{ cls:=.type "list",data:=.seq its.toArray nn })] (inner src σ xo) H' s':=
        I3.pins_of fun p hp=>by
          have ep:p=(D,{ cls:=.type "list",data:=.seq its.toArray nn }):=by simpa using hp
          subst ep
          exact ⟨oD,d3,hDC,nD,fun v z=>by cases z⟩
      refine thn (T.done (X.comp scope N' cl C s H fp) rfl rfl rfl hcm i _ s' _ H' _ I3p (stat (by simp) f3) t3 (stop ys H' p3)) fun r s4 ⟨hr,I4⟩=>?_
      subst hr
      have o4:=I4.pin (D,{ cls:=.type "list",data:=.seq its.toArray nn }) (by simp)
      have newI:Inv X pins σ (upd H' D (.lst ys)) s4:=I.call' (ch:=fp) I4.os (I4.base.lay d3 (fresh D (Nat.le_refl _))) (I4.hok.lay d3 ⟨by omega,its,nn,v3,o4.1⟩) I4.bare (fun b hb=>
        ⟨(hfp b hb).2.2.2.1,(hfp b hb).2.1,(hfp b hb).2.2.2.2.1,(hfp b hb).2.2.2.2.2⟩)
      obtain ⟨m,hm,_⟩:=I4.loc
      obtain ⟨o,es,ep,ho,hd,_⟩:=id hm
      refine hR D C o ys H' s4 p3 d3 (newI.pins_of fun p hp=>?_) ⟨m,hm⟩ (I.fpOk (by rw [eD]; exact hCle) (by rw [ZQ (Ne.symm hDC)]; exact I4.free))
      rcases List.mem_append.mp hp with z | z
      · exact newI.pin p (List.mem_append_right _ z)
      · have ep:p=(C,o):=by simpa using z
        subst ep
        refine ⟨ho,by rw [ZQ (Ne.symm hDC)]; exact I4.free,fun z=>?_,nC,fun v z=>?_⟩
        · have:=I.lt
          rw [eD,←z] at this
          exact absurd (Nat.lt_of_lt_of_le this hCle) (Nat.lt_irrefl _)
        · have z':o.data=.cell v:=z
          rw [hd] at z'; cases z'
  exact codeAny_compStart_list (loop _ rfl) (T.self _ 0 _ _ _ (T.keep _ _ _ t0 (fun b _ o e=>old b o e)) (loop _ rfl))
theorem Zu9 {sc:Scope} {N:List Str} (S:Zby scope sc x N N' src) (hsc:X.env.scope=sc) (hN:X.N=N) (hi:PI X (.Name x px) iter wi)
    (helt:∀(cl:List (Str×Addr)) (C:Addr) (s₀:Shared) (H₀:Hp) (fp:List Addr),PE (X.comp scope N' cl C s₀ H₀ fp) elt te) (hcm:X.calm=true:=by rfl) (hs:∀v,foldedSetIterable iter X.env v=pure v:=by intro _; rfl) :
    PE X (.ListComp elt [⟨.Name x px,iter,[],0⟩] scope pos) (tLc wi src te):=by
  subst hsc hN
  intro pins s σ H Q I h
  obtain ⟨cl,hclos,hcl,hcl2⟩:=ZfS (scope:=scope) (env:=X.env) fun y hy hf=>I.ok.has y.1 (.inl (S.free y hy hf))
  rw [eval_ListComp]
  refine wpAny_comprehension_free (use:=none) rfl hs hclos S.kind S.loc ?_
  refine thn (hi pins s σ H _ I h) fun v s1 h1=>thn h1 fun itv s2 h2=>?_
  obtain ⟨it,fp,tn,J,H2,e,I2,T,st2,f2,n,Pv,hn,p0,turn,done⟩:=h2
  subst e
  refine Zp4 I2 hcm S hcl hcl2 T st2 f2 helt hn p0 turn (fun ys H p=>(done ys H p).1) fun D C o ys H' s' p d J' hm ho=>?_
  obtain ⟨m,hm⟩:=hm
  refine ⟨m,hm,fun h' hs'=>?_⟩
  have J2:Inv X pins σ (upd H' D (.lst ys)) s':=J'.pins_of fun q hq=>J'.pin q (List.mem_append_right _ (List.mem_append_left _ hq))
  obtain ⟨f0,f1,f2,f3,f4,f5⟩:=ho
  exact ⟨.ref D,_,J2.turned (t':=s'.toks) (it:=C) (fun b o hb e=>(hs'.2 b hb).trans e) f0 f1 f3 f4 f5,rfl,(done ys H' p).2 D d⟩
theorem Zu2 {sc:Scope} {N:List Str} {i:Nat} {y:Str} {py spos:Pos} (hnd:X.N.Nodup) (hi':X.N[i]?=some y) (S:Zby scope sc x N N' src) (hsc:X.env.scope=sc) (hN:X.N=N) (hi:PI X (.Name x px) iter wi)
    (helt:∀(cl:List (Str×Addr)) (C:Addr) (s₀:Shared) (H₀:Hp) (fp:List Addr),PE (X.comp scope N' cl C s₀ H₀ fp) elt te) (hsw:swapsWith (.ListComp elt [⟨.Name x px,iter,[],0⟩] scope pos) (some (.Name y py)) spos.line X.env=pure true:=by rfl)
    (hy:X.env.scope.names.lookup y=some .local:=by rfl) (hcm:X.calm=true:=by rfl) (hs:∀v,foldedSetIterable iter X.env v=pure v:=by intro _; rfl) :
    PS X (.Assign [.Name y py] (.ListComp elt [⟨.Name x px,iter,[],0⟩] scope pos) spos) (ZuP (tLc wi src te) (Zlf i)):=by
  subst hsc hN
  intro pins s σ H Dn I h
  obtain ⟨cl,hclos,hcl,hcl2⟩:=ZfS (scope:=scope) (env:=X.env) fun y hy hf=>I.ok.has y.1 (.inl (S.free y hy hf))
  rw [exec_Assign_Name_used _ _ _ _ hsw]
  refine wpAny_bind (wpAny_standAt (wpAny_bind ?_))
  show wpAny _ X.A (do let _ ←comprehension (.ListComp elt [⟨.Name x px,iter,[],0⟩] scope pos) scope X.env _ (newList []) false (eval iter X.env) (some (assign (.Name y py) X.env))) _ _ s
  refine wpAny_bind (wpAny_mono (wpAny_comprehension_free (use:=some (assign (.Name y py) X.env)) (Q:=fun _ s'=>SP X pins Dn .next s') rfl hs hclos S.kind S.loc ?_) (fun _ s' hq=>wpAny_pure (wpAny_pure hq)) fun _ _ e=>e)
  refine thn (hi pins s σ H _ I h) fun v s1 h1=>thn h1 fun itv s2 h2=>?_
  obtain ⟨it,fp,tn,J,H2,e,I2,T,st2,f2,n,Pv,hn,p0,turn,done⟩:=h2
  subst e
  refine Zp4 I2 hcm S hcl hcl2 T st2 f2 helt hn p0 turn (fun ys H p=>(done ys H p).1) fun D C o ys H' s' p d J' hm ho=>?_
  show wpAny _ X.A (assign (.Name y py) X.env (.ref D)) _ _ _
  obtain ⟨m,hm⟩:=hm
  have hg:PG X (.Name y py) (Zlf i):=Zfz hnd hi' (.inl hy) (.inr hy)
  refine thn (hg _ s' σ _ (.ref D) (.ref D) (fun σ2 H3=>σ2=σ.set i (some (.ref D))∧H3=upd H' D (.lst ys)) J' rfl ⟨rfl,rfl⟩) fun _ s6 ⟨σ6,H6,I6,e6,e7⟩=>?_
  subst e6 e7
  have pc:=I6.pin (C,o) (by simp)
  have pc':=J'.pin (C,o) (by simp)
  refine ⟨m,hm.at fun q e=>?_,fun h' hs'=>?_⟩
  · rw [pc'.1] at e; cases e; exact pc.1
  have J2:Inv X pins (σ.set i (some (.ref D))) (upd H' D (.lst ys)) s6:=I6.pins_of fun q hq=>I6.pin q (List.mem_append_right _ (List.mem_append_left _ hq))
  obtain ⟨f0,f1,f2,f3,f4,f5⟩:=ho
  exact ⟨_,_,J2.turned (t':=s6.toks) (it:=C) (fun b o hb e=>(hs'.2 b hb).trans e) f0 f1 f3 f4 f5,(done ys H' p).2 D d⟩
end
end L2
namespace L2
open PySem PySem.Spec PyProof.Rows PySem.SeqAt
section
variable {X:Cx}
theorem ZnE {bs:List Bool}:(List.range bs.length).all (fun i=>bs.getD i false)=bs.all id:=by
  induction bs with
  | nil=>rfl
  | cons b r ih=>
    rw [List.length_cons,List.range_succ_eq_map,List.all_cons,List.all_map,List.all_cons]
    have:((fun i=>(b::r).getD i false)∘Nat.succ)=fun i=>r.getD i false:=by funext i; rfl
    rw [this,ih]
    rfl
theorem ZqA (hc:X.calm=true):CallR X (.builtin "all") (fun xs H Q=>∃(p:Addr) (bs:List Bool),xs=[.ref p]∧SqL X.K H p (bs.map V.bl)∧Q (.bl (bs.all id)) H):=by
  intro pins s σ H xs us Q I r h
  obtain ⟨p,bs,rfl,hq,q⟩:=h
  obtain ⟨u,rfl,rx⟩:=Zfs r
  cases rx
  obtain ⟨its,r',pl,hz⟩:=I.list hq
  have hl:=r'.length
  rw [List.length_map] at hl
  refine call_all_walk (wpAny_pyIter_list pl.isList ?_)
  have hne:p≠s.heap.objs.size:=by
    obtain ⟨o,n,e,_⟩:=pl
    exact Nat.ne_of_lt (Heap.lt_size e)
  refine ⟨s.heap.objs.size,_,_,_,_,_,fun i=>bs.getD i false,rfl,Walks.list (A:=X.A.in1) (I.ok.hd hc) _ p hne its.toArray,⟨⟨_,Heap.get?_push_size _ rfl,rfl,rfl⟩,?_⟩,?_,fun h' tk hk=>?_⟩
  · obtain ⟨o,n,e,hc',hd,hs⟩:=pl
    exact ⟨o,Heap.get?_push_of_some _ e,hc',n,hs⟩
  · intro i v s2 Q2 E2 hp q2
    have hp':its[i]?=some v:=by simpa using hp
    have hi:i<bs.length:=by rw [hl]; exact (List.getElem?_eq_some_iff.mp hp').1
    obtain ⟨u,hu,ru⟩:=r'.get (i:=i) (x:=.bl (bs.getD i false)) (by rw [List.getElem?_map,List.getElem?_eq_getElem hi,List.getD_eq_getElem?_getD,List.getElem?_eq_getElem hi]; rfl)
    rw [hp'] at hu; cases hu
    cases ru
    exact wpAny_truthy_bool q2
  · refine ⟨.bl (bs.all id),H,(I.kept (t':=s.toks) fun b o e=>Heap.get?_push_of_some _ e).turned (it:=s.heap.objs.size) (fun b o hb e=>hk b o (by simpa using hb) e) (I.hok.fresh (Nat.le_refl _)) (Nat.ne_of_gt I.lt) (.inr I.sz) (fun x c e z=>?_) (fun q hq z=>?_),?_,q⟩
    · obtain ⟨v,w'⟩:=I.cell x c e
      exact absurd w'.lt (by rw [z]; exact Nat.lt_irrefl _)
    · exact absurd (Heap.lt_size (I.pin q hq).1) (by rw [z]; exact Nat.lt_irrefl _)
    · show Value.bool _=Value.bool _
      rw [List.size_toArray,←hl,ZnE]
theorem Zii {ns:List Int}:∀k,k≤ns.length→preSum (fun i=>ns.getD i 0) k=(ns.take k).sum
  | 0,_=>by simp [preSum]
  | k+1,h=>by
    have hk:k<ns.length:=by omega
    rw [preSum,Zii k (by omega),List.take_add_one,List.getElem?_eq_getElem hk,List.getD_eq_getElem?_getD,List.getElem?_eq_getElem hk]
    show _=(ns.take k++[ns[k]]).sum
    rw [List.sum_append,List.sum_cons,List.sum_nil,Int.add_zero]
    rfl
theorem Zqy (hc:X.calm=true):CallR X (.builtin "sum") (fun xs H Q=>∃(p:Addr) (ns:List Int),xs=[.ref p]∧SqL X.K H p (ns.map V.int)∧Q (.int ns.sum) H):=by
  intro pins s σ H xs us Q I r h
  obtain ⟨p,ns,rfl,hq,q⟩:=h
  obtain ⟨u,rfl,rx⟩:=Zfs r
  cases rx
  obtain ⟨its,r',pl,hz⟩:=I.list hq
  have hl:=r'.length
  rw [List.length_map] at hl
  refine call_sum_walkG (wpAny_pyIter_list pl.isList ?_)
  have hne:p≠s.heap.objs.size:=by
    obtain ⟨o,n,e,_⟩:=pl
    exact Nat.ne_of_lt (Heap.lt_size e)
  refine ⟨s.heap.objs.size,_,_,_,_,_,fun i=>ns.getD i 0,rfl,Walks.list (A:=X.A.in1) (I.ok.hd hc) _ p hne its.toArray,⟨⟨_,Heap.get?_push_size _ rfl,rfl,rfl⟩,?_⟩,?_,?_,fun h' tk t' hk=>?_⟩
  · obtain ⟨o,n,e,hc',hd,hs⟩:=pl
    exact ⟨o,Heap.get?_push_of_some _ e,hc',n,hs⟩
  · intro b hb
    have hb':b=s.heap.objs.size∨b=p:=by simpa using hb
    rcases hb' with rfl | rfl
    · show _<(s.heap.push _).objs.size
      rw [Heap.size_push]; exact Nat.lt_succ_self _
    · obtain ⟨o,n,e,_⟩:=pl
      show _<(s.heap.push _).objs.size
      rw [Heap.size_push]; exact Nat.lt_succ_of_lt (Heap.lt_size e)
  · intro i v hp
    have hp':its[i]?=some v:=by simpa using hp
    have hi:i<ns.length:=by rw [hl]; exact (List.getElem?_eq_some_iff.mp hp').1
    obtain ⟨u,hu,ru⟩:=r'.get (i:=i) (x:=.int (ns.getD i 0)) (by rw [List.getElem?_map,List.getElem?_eq_getElem hi,List.getD_eq_getElem?_getD,List.getElem?_eq_getElem hi]; rfl)
    rw [hp'] at hu; cases hu
    exact ru
  · refine ⟨.int ns.sum,H,(I.kept (t':=s.toks) fun b o e=>Heap.get?_push_of_some _ e).turned (it:=s.heap.objs.size) (fun b o hb e=>hk b o (by simpa using hb) e) (I.hok.fresh (Nat.le_refl _)) (Nat.ne_of_gt I.lt) (.inr I.sz) (fun x c e z=>?_) (fun q hq z=>?_),⟨t',?_⟩,q⟩
    · obtain ⟨v,w'⟩:=I.cell x c e
      exact absurd w'.lt (by rw [z]; exact Nat.lt_irrefl _)
    · exact absurd (Heap.lt_size (I.pin q hq).1) (by rw [z]; exact Nat.lt_irrefl _)
    · rw [List.size_toArray,←hl,Zii _ (Nat.le_refl _),List.take_length]
mutual
inductive RdV (K:PySem.W.Frag) (H:Hp):V→PyData→Prop
  | non:RdV K H .non .none
  | bl (b:Bool):RdV K H (.bl b) (.bool b)
  | int (i:Int):RdV K H (.int i) (.int i)
  | str (x:Str):RdV K H (.str x) (.str x)
  | lst {a:Addr} {xs:List V} {ds:List PyData}:SqL K H a xs→RdVs K H xs ds→RdV K H (.ref a) (.list ds)
  | tup {a:Addr} {xs:List V} {ds:List PyData}:SqT K H a xs→RdVs K H xs ds→RdV K H (.ref a) (.tuple ds)
inductive RdVs (K:PySem.W.Frag) (H:Hp):List V→List PyData→Prop
  | nil:RdVs K H [] []
  | cons {x:V} {xs:List V} {d:PyData} {ds:List PyData}:RdV K H x d→RdVs K H xs ds→RdVs K H (x::xs) (d::ds)
end
mutual
theorem RdV.reads {pins:List (Addr×Obj)} {σ:St} {H:Hp} {s:Shared} (I:Inv X pins σ H s):∀{x:V} {d:PyData} {u:Value},RdV X.K H x d→RelV x u→∃as,Reads s.heap u d as
  | _,_,_,.non,r=>by cases r; exact ⟨_,.none⟩
  | _,_,_,.bl b,r=>by cases r; exact ⟨_,.bool b⟩
  | _,_,_,.int i,r=>by obtain ⟨t,rfl⟩:=r; exact ⟨_,.int i t⟩
  | _,_,_,.str x,r=>by obtain ⟨t,rfl⟩:=r; exact ⟨_,.str x t⟩
  | _,_,_,.lst h hs,r=>by
    cases r
    obtain ⟨its,rv,⟨o,n,e,hc,hd,hq⟩,_⟩:=I.list h
    obtain ⟨as,q⟩:=RdVs.reads I hs rv
    exact ⟨_,.list e hc hq (by simpa using q)⟩
  | _,_,_,.tup h hs,r=>by
    cases r
    obtain ⟨its,rv,⟨o,e,hc,n,hq⟩,_⟩:=I.tuple h
    obtain ⟨as,q⟩:=RdVs.reads I hs rv
    exact ⟨_,.tuple e hc hq (by simpa using q)⟩
theorem RdVs.reads {pins:List (Addr×Obj)} {σ:St} {H:Hp} {s:Shared} (I:Inv X pins σ H s):∀{xs:List V} {ds:List PyData} {us:List Value},RdVs X.K H xs ds→Vals xs us→∃as,ReadsAll s.heap us ds as
  | _,_,_,.nil,r=>by cases r; exact ⟨_,.nil⟩
  | _,_,_,.cons h hs,r=>by
    cases r with
    | cons r rr=>
      obtain ⟨as,q⟩:=RdV.reads I h r
      obtain ⟨bs,q2⟩:=RdVs.reads I hs rr
      exact ⟨_,.cons q q2⟩
end
theorem ZtF (hu:X.A.units+64<cLine):OpR X (compareOp .Eq) (fun x y H Q=>∃d e:PyData,RdV X.K H x d∧RdV X.K H y e∧shaped d=true∧shaped e=true∧noMix d e=true∧Q (.bl (same d e)) H):=by
  intro pins s σ H x y v u Q I rx ry h
  obtain ⟨d,e,hd,he,sd,se,hm,q⟩:=h
  obtain ⟨as,ra⟩:=hd.reads I rx
  obtain ⟨bs,rb⟩:=he.reads I ry
  exact eq_dataH_same ra rb sd se hu hm ⟨.bl _,H,I,rfl,q⟩
theorem ZtC (hu:X.A.units+64<cLine):OpR X (compareOp .NotEq) (fun x y H Q=>∃d e:PyData,RdV X.K H x d∧RdV X.K H y e∧shaped d=true∧shaped e=true∧noMix d e=true∧Q (.bl (!same d e)) H):=by
  intro pins s σ H x y v u Q I rx ry h
  obtain ⟨d,e,hd,he,sd,se,hm,q⟩:=h
  obtain ⟨as,ra⟩:=hd.reads I rx
  obtain ⟨bs,rb⟩:=he.reads I ry
  exact ne_dataH_same ra rb sd se hu hm ⟨.bl _,H,I,rfl,q⟩
theorem Zrw:OpR X (compareOp .IsNot) (fun x y H Q=>∃b c:Bool,x=.bl b∧y=.bl c∧Q (.bl (!(b == c))) H):=by
  intro pins s σ H x y v u Q I rx ry h
  obtain ⟨b,c,rfl,rfl,q⟩:=h
  cases rx
  cases ry
  have e:(Value.bool b == Value.bool c)=(b == c):=by cases b<;>cases c<;>rfl
  exact wpAny_isNot_plain rfl ⟨.bl _,H,I,rfl,by rw [e]; exact q⟩
def Zev (xs:List V) (lo hi st:Option Int):List V:=(sliceRange (sliceBounds lo hi st xs.length).1 (sliceBounds lo hi st xs.length).2.1 (sliceBounds lo hi st xs.length).2.2).filterMap (xs[·]?)
theorem Vals.pick {xs:List V} {us:List Value} (r:Vals xs us):∀ks:List Nat,Vals (ks.filterMap (xs[·]?)) (ks.filterMap (us[·]?))
  | []=>.nil
  | k::ks=>by
    cases e:xs[k]? with
    | none=>
      have e':=r.none_of e
      rw [List.filterMap_cons_none e,List.filterMap_cons_none e']
      exact r.pick ks
    | some x=>
      obtain ⟨u,e',q⟩:=r.get e
      rw [List.filterMap_cons_some e,List.filterMap_cons_some e']
      exact .cons q (r.pick ks)
def Zyo (K:PySem.W.Frag) (te:TE) (tl th ts:TO):TE:=fun σ H Q=>te σ H fun x H1=>tl σ H1 fun l H2=>th σ H2 fun u H3=>ts σ H3 fun st H4=>∃a xs,x=.ref a∧SqL K H4 a xs∧st≠some 0∧(Zev xs l u st).length≤sizeLine∧
  ∀p,H4 p=none→Q (.ref p) (upd H4 p (.lst (Zev xs l u st)))
theorem Znf {e sp:Expr} {te:TE} {lo hi:Option Expr} {tl th ts:TO} {pos p2:Pos} (he:PE X e te) (hl:PO X lo tl) (hu:PO X hi th) (hs:PO X (some sp) ts):PE X (.Subscript e (.Slice lo hi (some sp) p2) pos) (Zyo X.K te tl th ts):=by
  intro pins s σ H Q I h
  refine Subscript_ (thn (he pins s σ H _ I h) fun v s1 ⟨x,H1,I1,r1,q1⟩=>?_)
  refine wpAny_Slice (thn (hl pins s1 σ H1 _ I1 q1) fun vl s2 ⟨l,H2,I2,pl,q2⟩=>thn (hu pins s2 σ H2 _ I2 q2) fun vu s3 ⟨u,H3,I3,pu,q3⟩=>thn (hs pins s3 σ H3 _ I3 q3) fun vs s4 ⟨st,H4,I4,ps,q4⟩=>?_)
  obtain ⟨a,xs,rfl,hx,h0,hz',q⟩:=q4
  cases r1
  have I5:Inv X pins σ H4 { s4 with heap:=s4.heap.push { cls:=.type "slice",data:=.fields #[vl,vu,vs] } }:=I4.kept (t':=s4.toks) fun b ob q=>Heap.get?_push_of_some _ q
  obtain ⟨its,r,ht,hz⟩:=I5.list hx
  have hlen:=r.length
  show wpAny (model X.prog X.w) X.A (subscriptTail e (.Slice lo hi (some sp) p2) (.ref a) (.ref s4.heap.objs.size)) (EP X pins σ Q) X.xe { s4 with heap:=s4.heap.push { cls:=.type "slice",data:=.fields #[vl,vu,vs] } }
  refine tail_any (ops:=[.ref a,.ref s4.heap.objs.size]) ht.isList.typeIs slot_list_getitem.lookup (wpAny_getItem_list_slice ht.isList (Heap.IsSliceOf.new ..) pl pu ps h0 ?_ (by rw [List.size_toArray]<;>omega)) (by with_unfolding_all rfl)
  have ep:slicePick its.toArray l u st=((sliceRange (sliceBounds l u st xs.length).1 (sliceBounds l u st xs.length).2.1 (sliceBounds l u st xs.length).2.2).filterMap (its[·]?)).toArray:=by
    unfold slicePick
    rw [List.size_toArray,←hlen]
    simp
  rw [ep]
  refine ⟨.ref _,_,I5.laid (t':=s4.toks) (o:=.lst (Zev xs l u st)) (fun b ob q=>Heap.get?_push_of_some _ q) (Nat.le_refl _) ?_,rfl,q _ (I5.hok.fresh (Nat.le_refl _))⟩
  exact ⟨hz',_,0,r.pick _,Heap.get?_push_size _ rfl⟩
theorem Zgc:fillsNumberSlot (.type "tuple") "mul"=pure false:=
  PySem.fillsNumberSlot_seq (id:="tuple.__mul__") (r:=some (.builtin "tuple.__rmul__")) F.slot_tuple_mul.lookup (by decide +kernel) F.slot_tuple_rmul.lookup (by decide +kernel)
theorem ZiP:seqRepeat? (.type "tuple")=pure (some (.builtin "tuple.__mul__")):=by
  unfold seqRepeat?
  rw [PySem.seqSlot_of (T:="tuple") (name:="__mul__") (id:="tuple.__mul__") F.slot_tuple_mul.lookup (by decide +kernel),PySem.seqSlot_of (T:="tuple") (name:="__rmul__") (id:="tuple.__rmul__") F.slot_tuple_rmul.lookup (by decide +kernel)]
  rfl
end
end L2
namespace L2
open PySem PySem.Spec PyProof.Rows Builtin
theorem Zhv (a:Int) (t:Tok) (l:Addr) (items:Array Value) (n:Nat) (dd:Option Addr) (sl:Array (Option Value)) :
    Meets (Builtin.«int.__rmul__» ⟨[.int a t,.ref l],[]⟩) (fun _ R s=>s.heap.get? l=some { cls:=.type "tuple",dict:=dd,data:=.seq items n,slots:=sl }∧R (.ok (.ret Value.notImplemented)) s):=
  .of_wp fun prog w A R s h=>by obtain ⟨hp,g,d,tk,os⟩:=s; obtain ⟨hl,h⟩:=h; wp_walk; exact ⟨_,rfl,h⟩
theorem ZhX (l:Addr) (items:Array Value) (n:Nat) (dd:Option Addr) (sl:Array (Option Value)) (u:Tok) :
    Meets (Builtin.«tuple.__mul__» ⟨[.ref l,.int 1 u],[]⟩) (fun _ R s=>s.heap.get? l=some { cls:=.type "tuple",dict:=dd,data:=.seq items n,slots:=sl }∧R (.ok (.ret (Value.ref l))) s):=
  .of_wp fun prog w A R s h=>by
    obtain ⟨hp,g,d,tk,os⟩:=s; obtain ⟨hl,h⟩:=h
    wp_walk
    exact ⟨_,rfl,h⟩
theorem Zg7 (l:Addr) (items:Array Value) (n:Nat) (dd:Option Addr) (sl:Array (Option Value)) (u:Tok) (h0:items.isEmpty=false) :
    Meets (Builtin.«tuple.__mul__» ⟨[.ref l,.int 0 u],[]⟩) (fun _ R s=>s.heap.get? l=some { cls:=.type "tuple",dict:=dd,data:=.seq items n,slots:=sl }∧R (.ok (.ret (Value.ref s.heap.objs.size))) { s with heap:=s.heap.push { cls:=.type "tuple",data:=.seq #[] } }):=
  .of_wp fun prog w A R s h=>by
    obtain ⟨hp,g,d,tk,os⟩:=s; obtain ⟨hl,h⟩:=h
    wp_walk
    exact ⟨_,rfl,h⟩
theorem Zg8 (l:Addr) (items:Array Value) (n:Nat) (dd:Option Addr) (sl:Array (Option Value)) (x:Int) (u:Tok) (h0:items.isEmpty=false) (h1:2≤x) (h2:x<1000) (h3:items.size*x≤1000) :
    Meets (Builtin.«tuple.__mul__» ⟨[.ref l,.int x u],[]⟩) (fun _ R s=>s.heap.get? l=some { cls:=.type "tuple",dict:=dd,data:=.seq items n,slots:=sl }∧R (.ok (.ret (Value.ref s.heap.objs.size))) { s with heap:=s.heap.push { cls:=.type "tuple",data:=.seq (List.foldl (fun x1 x2=>x1++x2) #[] (List.replicate x.toNat items)) } }):=
  .of_wp fun prog w A R s h=>by
    obtain ⟨hp,g,d,tk,os⟩:=s; obtain ⟨hl,h⟩:=h
    have c1:¬(decide (x < -(2 ^ 63)) || decide (x≥2 ^ 63))=true:=by rw [decide_eq_false (by omega),decide_eq_false (by omega)]; decide
    have c2:¬(items.isEmpty || x == 1)=true:=by
      have:(x == 1)=false:=by simp; omega
      rw [h0,this]; decide
    have c3:¬(decide (x≤0) || items.isEmpty)=true:=by rw [h0,decide_eq_false (by omega)]; decide
    have c4:¬((items.size:Int)*x > (2 ^ 63-1)/8):=by omega
    have c5:¬Tuple.tupleTooMany ((items.size:Int)*x)=true:=by
      unfold Tuple.tupleTooMany
      rw [decide_eq_false (by rw [sizeLine_eq]; omega)]
      decide
    wp_walk
    rw [if_neg c1]
    wp_walk
    rw [if_neg c2]
    show wpAny (model prog w) A.in1 (if (decide (x≤0) || items.isEmpty)=true then _ else if (items.size:Int)*x > (2 ^ 63-1)/8 then _ else if Tuple.tupleTooMany ((items.size:Int)*x)=true then _ else _) _ _ _
    rw [if_neg c3,if_neg c4,if_neg c5]
    have hz:(List.foldl (fun x1 x2=>x1++x2) #[] (List.replicate x.toNat items)).size≤sizeLine:=by
      have:(List.replicate x.toNat items).foldl (fun x1 x2=>x1++x2) #[]=(List.replicate x.toNat items.toList).flatten.toArray:=by
        have:=Ze5 items.toList x.toNat []
        simpa using this
      rw [this,List.size_toArray,ZiW,sizeLine_eq]
      have e:items.toList.length=items.size:=by simp
      rw [e]
      have e2:((x.toNat*items.size:Nat):Int)=(items.size:Int)*x:=by
        rw [Int.natCast_mul,Int.mul_comm]
        congr 1
        omega
      omega
    wp_walk
    exact ⟨_,rfl,h⟩
section
variable {X:Cx}
def ZuW (K:PySem.W.Frag):R2:=fun x y H Q=>∃(a:Addr) (k:Int) (xs:List V),x=.ref a∧y=.int k∧SqT K H a xs∧xs≠[]∧0≤k∧k<1000∧(xs.length:Int)*k≤1000∧
  (k=1→Q (.ref a) H)∧(k≠1→∀p,H p=none→Q (.ref p) (upd H p (.tup (List.replicate k.toNat xs).flatten)))
theorem op_repT:OpR X (binaryOp .Mult) (ZuW X.K):=by
  intro pins s σ H x y v u Q I rx ry h
  obtain ⟨a,k,xs,rfl,rfl,hH,hne,h0,h1,h2,q1,q2⟩:=h
  cases rx
  obtain ⟨t,rfl⟩:=ry
  obtain ⟨its,r,pl,hz⟩:=I.tuple hH
  obtain ⟨⟨oc,dd,data,sl⟩,e,hc,n,hd⟩:=pl
  simp only at hc hd
  subst hc hd
  have hl:=r.length
  have he:its.toArray.isEmpty=false:=by
    cases r with
    | nil=>exact absurd rfl hne
    | cons _ _=>rfl
  refine wpAny_binaryOp_repeat_ref (T:="tuple") (U:="int") (by decide) ⟨_,e,rfl⟩ (fun s'=>typeIs_int s' k t) Zgc F.fills_int_mul F.slot_int_rmul ZiP F.slot_int_index.lookup
    (call_meets F.slot_int_rmul (typeIs_int s k t) F.entry_int_rmul (F.args_int_rmul_2 _ _) (Zhv k t a its.toArray n dd sl) ⟨e,rfl,⟨_,e,rfl⟩,?_⟩)
  by_cases k1:k=1
  · subst k1
    exact call_meets F.slot_tuple_mul ⟨_,e,rfl⟩ F.entry_tuple_mul (F.args_tuple_mul_2 _ _) (ZhX a its.toArray n dd sl t) ⟨e,.ref a,H,I,rfl,q1 rfl⟩
  · by_cases k0:k=0
    · subst k0
      refine call_meets F.slot_tuple_mul ⟨_,e,rfl⟩ F.entry_tuple_mul (F.args_tuple_mul_2 _ _) (Zg7 a its.toArray n dd sl t he) ⟨e,.ref s.heap.objs.size,_,I.laid (t':=s.toks) (o:=.tup []) (fun b ob q=>Heap.get?_push_of_some _ q) (Nat.le_refl _) ?_,rfl,?_⟩
      · exact ⟨Nat.zero_le _,[],.nil,IsTup.new _ _⟩
      · exact q2 k1 _ (I.hok.fresh (Nat.le_refl _))
    · refine call_meets F.slot_tuple_mul ⟨_,e,rfl⟩ F.entry_tuple_mul (F.args_tuple_mul_2 _ _) (Zg8 a its.toArray n dd sl k t he (by omega) h1 (by rw [List.size_toArray,←hl]; exact h2)) ⟨e,?_⟩
      have hnew:List.foldl (fun x1 x2=>x1++x2) #[] (List.replicate k.toNat its.toArray)=(List.replicate k.toNat its).flatten.toArray:=by
        have:=Ze5 its k.toNat []
        rw [List.nil_append] at this
        exact this
      rw [hnew]
      refine ⟨.ref s.heap.objs.size,_,I.laid (t':=s.toks) (o:=.tup (List.replicate k.toNat xs).flatten) (fun b ob q=>Heap.get?_push_of_some _ q) (Nat.le_refl _) ?_,rfl,q2 k1 _ (I.hok.fresh (Nat.le_refl _))⟩
      refine ⟨?_,_,r.rep k.toNat,IsTup.new _ _⟩
      rw [ZiW,sizeLine_eq]
      have e2:((k.toNat*xs.length:Nat):Int)=(xs.length:Int)*k:=by
        rw [Int.natCast_mul,Int.mul_comm]
        congr 1
        omega
      omega
end
end L2
namespace My
open PySem L2
def ZaT (t:Int):Int:=if t=0 then 0 else (t-1) % 65535+1
theorem ZmJ {t:Int} (h:0≤t):0≤ZaT t∧ZaT t≤65535∧(ZaT t-t) % 65535=0∧(ZaT t=0↔t=0):=by
  unfold ZaT; split<;>omega
theorem Zfn {t:Int} (h:0≤t) (h1:t≤65535):ZaT t=t:=by
  unfold ZaT; split<;>omega
theorem Ziy {t:Int} (h:65535<t):ZaT (t % 65536+t/65536)=ZaT t∧0≤t % 65536+t/65536∧t % 65536+t/65536<t:=by
  unfold ZaT
  rw [if_neg (by omega),if_neg (by omega)]
  omega
def zw:List Int→Int
  | []=>0
  | [a]=>256*a
  | a::b::r=>256*a+b+zw r
def Zem:List Int→List Int
  | []=>[]
  | [a]=>[a]
  | a::_::r=>a::Zem r
def Zhi:List Int→List Int
  | []=>[]
  | [_]=>[]
  | _::b::r=>b::Zhi r
theorem Zl9:∀ns:List Int,256*(Zem ns).sum+(Zhi ns).sum=zw ns
  | []=>rfl
  | [a]=>by simp [Zem,Zhi,zw]
  | a::b::r=>by
    have:=Zl9 r
    simp only [Zem,Zhi,zw,List.sum_cons]
    omega
theorem Zl7:∀{ns:List Int},(∀z∈ns,0≤z)→0≤zw ns
  | [],_=>by simp [zw]
  | [a],h=>by have:=h a (by simp); simp only [zw]; omega
  | a::b::r,h=>by
    have h1:=h a (by simp)
    have h2:=h b (by simp)
    have h3:=Zl7 (ns:=r) fun z hz=>h z (by simp [hz])
    simp only [zw]; omega
theorem Zg3:∀{ns ms:List Int},ns.length % 2=0→zw (ns++ms)=zw ns+zw ms
  | [],ms,_=>by simp [zw]
  | [a],ms,h=>by simp at h
  | a::b::r,ms,h=>by
    have:=Zg3 (ns:=r) (ms:=ms) (by simp only [List.length_cons] at h; omega)
    show zw (a::b::(r++ms))=_
    simp only [zw,this]
    omega
theorem ZlZ {w:Int} (h:0≤w):ZaT (w+(256*((65535-ZaT w)/256)+(65535-ZaT w) % 256))=65535:=by
  have e:256*((65535-ZaT w)/256)+(65535-ZaT w) % 256=65535-ZaT w:=by omega
  rw [e]
  unfold ZaT
  split<;>split<;>omega
theorem Zc0:∀(m:Nat) (ns:List Int),ns.length≤2*m→((List.range m).map fun k=>2*k).filterMap (fun i=>(ns.map V.int)[i]?)=(Zem ns).map V.int
  | 0,ns,h=>by
    have:ns=[]:=List.length_eq_zero_iff.mp (by omega)
    subst this; rfl
  | m+1,ns,h=>by
    rw [List.range_succ_eq_map,List.map_cons,List.map_map]
    have shift:∀(xs:List Int),(List.map ((fun k=>2*k)∘Nat.succ) (List.range m)).filterMap (fun i=>(xs.map V.int)[i]?)=((List.range m).map fun k=>2*k).filterMap (fun i=>((xs.drop 2).map V.int)[i]?):=fun xs=>by
      rw [List.filterMap_map,List.filterMap_map]
      congr 1
      funext k
      show (xs.map V.int)[2*(k+1)]?=((xs.drop 2).map V.int)[2*k]?
      rw [List.getElem?_map,List.getElem?_map,List.getElem?_drop]
      congr 2
      omega
    match ns,h with
    | [],_=>
      have:=shift []
      rw [List.filterMap_cons_none (by rfl),this,Zc0 m _ (by simp)]
      rfl
    | [a],_=>
      have:=shift [a]
      rw [List.filterMap_cons_some (b:=V.int a) (by rfl),this,Zc0 m _ (by simp)]
      rfl
    | a::b::r,h=>
      have:=shift (a::b::r)
      rw [List.filterMap_cons_some (b:=V.int a) (by rfl),this,Zc0 m _ (by simp only [List.length_cons] at h; simp; omega)]
      rfl
theorem Zmr:∀ns:List Int,Zhi ns=Zem (ns.drop 1)
  | []=>rfl
  | [_]=>rfl
  | [_,_]=>rfl
  | _::b::c::r=>by
    have:=Zmr (c::r)
    simp only [Zhi,List.drop,Zem] at *
    rw [this]
theorem Znw (ns:List Int):Zev (ns.map V.int) none none (some 2)=(Zem ns).map V.int:=by
  unfold Zev sliceBounds sliceRange
  simp only [Option.getD_some,List.length_map,show ((2:Int) > 0)=True from eq_true (by decide),if_true]
  have e:(if (0:Int)<(ns.length:Int) then ((ns.length:Int)-0+2-1)/2 else 0).toNat=(ns.length+1)/2:=by split<;>omega
  rw [e]
  have e2:(fun k:Nat=>((0:Int)+2*(k:Int)).toNat)=fun k=>2*k:=by funext k; omega
  rw [e2]
  exact Zc0 _ ns (by omega)
theorem Zqt (ns:List Int):Zev (ns.map V.int) (some 1) none (some 2)=(Zhi ns).map V.int:=by
  unfold Zev sliceBounds sliceRange
  simp only [Option.getD_some,List.length_map,show ((2:Int) > 0)=True from eq_true (by decide),show ((1:Int)<0)=False from eq_false (by decide),if_true,if_false]
  rw [Zmr]
  by_cases h:ns.length=0
  · have:ns=[]:=List.length_eq_zero_iff.mp h
    subst this; rfl
  · have e0:max (0:Int) (min 1 (ns.length:Int))=1:=by omega
    rw [e0]
    have e:(if (1:Int)<(ns.length:Int) then ((ns.length:Int)-1+2-1)/2 else 0).toNat=ns.length/2:=by split<;>omega
    rw [e,←Zc0 (ns.length/2) (ns.drop 1) (by rw [List.length_drop]; omega),List.filterMap_map,List.filterMap_map]
    congr 1
    funext k
    show (ns.map V.int)[((1:Int)+2*(k:Int)).toNat]?=((ns.drop 1).map V.int)[2*k]?
    rw [List.getElem?_map,List.getElem?_map,List.getElem?_drop]
    congr 2
theorem Ziz:∀ns:List Int,(Zem ns).length≤ns.length
  | []=>Nat.le_refl _
  | [_]=>Nat.le_refl _
  | _::_::r=>by have:=Ziz r; simp only [Zem,List.length_cons]; omega
theorem ZkP:∀ns:List Int,(Zhi ns).length≤ns.length
  | []=>Nat.le_refl _
  | [_]=>Nat.zero_le _
  | _::_::r=>by have:=ZkP r; simp only [Zhi,List.length_cons]; omega
def wpre (ns:List Int):Nat→Int
  | 0=>0
  | i+1=>wpre ns i+ns.getD i 0*(if i % 2=0 then 256 else 1)
theorem Zky (a b:Int) (r:List Int):∀i,wpre (a::b::r) (i+2)=256*a+b+wpre r i
  | 0=>by simp [wpre]; omega
  | i+1=>by
    have e:(i+2) % 2=i % 2:=by omega
    rw [wpre,Zky a b r i]
    show _+r.getD i 0*(if (i+2) % 2=0 then 256 else 1)=256*a+b+(wpre r i+r.getD i 0*(if i % 2=0 then 256 else 1))
    rw [e]
    omega
theorem Zkz:∀ns:List Int,wpre ns ns.length=zw ns
  | []=>rfl
  | [a]=>by simp [wpre,zw]; omega
  | a::b::r=>by
    show wpre (a::b::r) (r.length+2)=_
    rw [Zky,Zkz r]
    rfl
end My
namespace L2
open PySem PySem.Spec PyProof.Rows
section
variable {κ:Type} [DecidableEq κ]
def valV (kvs:List (κ×V)) (k:κ):Option V:=(kvs.find? fun kv=>decide (kv.1=k)).map (·.2)
def Zeu (kvs:List (κ×V)) (k:κ) (v:V):List (κ×V):=
  if (kvs.any fun kv=>decide (kv.1=k))=true then kvs.map (fun kv=>if kv.1=k then (kv.1,v) else kv) else kvs++[(k,v)]
def Zfe (kvs:List (κ×V)) (k:κ):List (κ×V):=kvs.filter fun kv=>decide (kv.1≠k)
theorem Zg5 {p:κ×V} {r:List (κ×V)} {k:κ} (e:p.1=k):valV (p::r) k=some p.2:=by simp [valV,List.find?_cons,e]
theorem Zg6 {p:κ×V} {r:List (κ×V)} {k:κ} (e:¬p.1=k):valV (p::r) k=valV r k:=by simp [valV,List.find?_cons,e]
theorem ZkA (k:κ):∀kvs:List (κ×V),(kvs.any fun kv=>decide (kv.1=k))=(valV kvs k).isSome
  | []=>rfl
  | p::r=>by
    rw [List.any_cons]
    by_cases e:p.1=k
    · simp only [Zg5 e,decide_eq_true e,Bool.true_or,Option.isSome_some]
    · rw [Zg6 e,decide_eq_false e,Bool.false_or]; exact ZkA k r
theorem Zk2 (kvs:List (κ×V)) (k:κ) (v:V):(Zeu kvs k v).length≤kvs.length+1:=by
  unfold Zeu
  split
  · rw [List.length_map]; omega
  · rw [List.length_append,List.length_cons,List.length_nil]; omega
theorem RelO.isSome_eq {o:Option V} {u:Option Value} (r:RelO o u):o.isSome=u.isSome:=by
  cases o with
  | none=>cases u with
    | none=>rfl
    | some _=>exact (show False from r).elim
  | some _=>cases u with
    | none=>exact (show False from r).elim
    | some _=>rfl
theorem RelO.getD {o:Option V} {u:Option Value} {d:V} {d':Value} (r:RelO o u) (rd:RelV d d'):RelV (o.getD d) (u.getD d'):=by
  cases o with
  | none=>cases u with
    | none=>exact rd
    | some _=>exact (show False from r).elim
  | some _=>cases u with
    | none=>exact (show False from r).elim
    | some _=>exact r
theorem KV.val {kvs:List (κ×V)} {vs:List (κ×Value)} (r:KV kvs vs) (k:κ):RelO (valV kvs k) (valueAt vs k):=by
  unfold KV at r
  induction r with
  | nil=>exact True.intro
  | @cons p q ps qs h t ih=>
    obtain ⟨h1,h2⟩:=h
    by_cases e:p.1=k
    · have e':q.1=k:=h1.symm.trans e
      have b:valueAt (q::qs) k=some q.2:=by simp [valueAt,List.find?_cons,e']
      rw [Zg5 e,b]; exact h2
    · have e':¬q.1=k:=fun z=>e (h1.trans z)
      have b:valueAt (q::qs) k=valueAt qs k:=by simp [valueAt,List.find?_cons,e']
      rw [Zg6 e,b]; exact ih
theorem KV.any {kvs:List (κ×V)} {vs:List (κ×Value)} (r:KV kvs vs) (k:κ):(kvs.any fun kv=>decide (kv.1=k))=vs.any fun kv=>decide (kv.1=k):=by
  unfold KV at r
  induction r with
  | nil=>rfl
  | cons h t ih=>rw [List.any_cons,List.any_cons,ih,h.1]
theorem KV.repl {kvs:List (κ×V)} {vs:List (κ×Value)} (r:KV kvs vs) (k:κ) {y:V} {u:Value} (ry:RelV y u) :
    KV (kvs.map fun kv=>if kv.1=k then (kv.1,y) else kv) (vs.map fun kv=>if kv.1=k then (kv.1,u) else kv):=by
  unfold KV at r ⊢
  induction r with
  | nil=>exact .nil
  | @cons p q ps qs h t ih=>
    rw [List.map_cons,List.map_cons]
    refine .cons ?_ ih
    obtain ⟨h1,h2⟩:=h
    by_cases e:p.1=k
    · rw [if_pos e,if_pos (h1.symm.trans e)]; exact ⟨h1,ry⟩
    · rw [if_neg e,if_neg (fun z=>e (h1.trans z))]; exact ⟨h1,h2⟩
theorem KV.put {kvs:List (κ×V)} {vs:List (κ×Value)} (r:KV kvs vs) (k:κ) {y:V} {u:Value} (ry:RelV y u):KV (Zeu kvs k y) (stored vs k u):=by
  unfold Zeu stored
  rw [r.any k]
  by_cases e:(vs.any fun kv=>decide (kv.1=k))=true
  · rw [if_pos e,if_pos e]; exact r.repl k ry
  · rw [if_neg e,if_neg e]; exact Paired.snoc r ⟨rfl,ry⟩
theorem KV.drop {kvs:List (κ×V)} {vs:List (κ×Value)} (r:KV kvs vs) (k:κ):KV (Zfe kvs k) (without vs k):=by
  unfold KV at r ⊢
  unfold Zfe without
  induction r with
  | nil=>exact .nil
  | @cons p q ps qs h t ih=>
    obtain ⟨h1,h2⟩:=h
    rw [List.filter_cons,List.filter_cons]
    by_cases e:p.1=k
    · have a:¬decide (p.1≠k)=true:=by simp [e]
      have b:¬decide (q.1≠k)=true:=by simp [h1.symm.trans e]
      rw [if_neg a,if_neg b]; exact ih
    · have e':¬q.1=k:=fun z=>e (h1.trans z)
      have a:decide (p.1≠k)=true:=by simp [e]
      have b:decide (q.1≠k)=true:=by simp [e']
      rw [if_pos a,if_pos b]; exact .cons ⟨h1,h2⟩ ih
theorem KV.length {kvs:List (κ×V)} {vs:List (κ×Value)} (r:KV kvs vs):kvs.length=vs.length:=Paired.length r
theorem Zli (kvs:List (κ×V)) (k:κ):(Zfe kvs k).length≤kvs.length:=List.length_filter_le _ _
end
theorem Zk5 {P:Program} {w:World} {k:Key} {u:Value} (r:RelV (kV k) u):(ZaJ P w).is k u=true:=by
  cases k with
  | inl i=>obtain ⟨t,e⟩:=(show ∃t,u=Value.int i t from r); subst e; exact ZkX P w i t
  | inr x=>obtain ⟨t,e⟩:=(show ∃t,u=Value.str x t from r); subst e; exact ZkW P w x t
theorem Ziu {P:Program} {w:World}:∀{ks:List Key} {us:List Value},Vals (ks.map kV) us→ItemsAre (ZaJ P w) ks us
  | [],_,r=>by rw [List.map_nil] at r; cases r; exact .nil
  | k::ks,_,r=>by
    rw [List.map_cons] at r
    cases r with
    | cons h t=>exact .cons (Zk5 h) (Ziu t)
abbrev KT (H:Hp):List (List Key×V)→List (List Key×Addr×Value)→Prop:=Paired fun p q=>p.1=q.1∧H q.2.1=some (.tup (p.1.map kV))∧RelV p.2 q.2.2
theorem KT.val {H:Hp} {kvs:List (List Key×V)} {xs:List (List Key×Addr×Value)} (r:KT H kvs xs) (k:List Key):RelO (valV kvs k) ((atKey xs k).map (·.2)):=by
  induction r with
  | nil=>exact True.intro
  | @cons p q ps qs h t ih=>
    obtain ⟨h1,_,h2⟩:=h
    by_cases e:p.1=k
    · have e':q.1=k:=h1.symm.trans e
      have b:atKey (q::qs) k=some q.2:=by simp [atKey,List.find?_cons,e']
      rw [Zg5 e,b]; exact h2
    · have e':¬q.1=k:=fun z=>e (h1.trans z)
      have b:atKey (q::qs) k=atKey qs k:=by simp [atKey,List.find?_cons,e']
      rw [Zg6 e,b]; exact ih
theorem KT.repl {H:Hp} {kvs:List (List Key×V)} {xs:List (List Key×Addr×Value)} (r:KT H kvs xs) (k:List Key) {y:V} {u:Value} (ry:RelV y u) :
    KT H (kvs.map fun kv=>if kv.1=k then (kv.1,y) else kv) (xs.map (putAt k u)):=by
  induction r with
  | nil=>exact .nil
  | @cons p q ps qs h t ih=>
    rw [List.map_cons,List.map_cons]
    refine .cons ?_ ih
    obtain ⟨h1,h2,h3⟩:=h
    unfold putAt
    by_cases e:p.1=k
    · rw [if_pos e,if_pos (h1.symm.trans e)]; exact ⟨h1,h2,ry⟩
    · rw [if_neg e,if_neg (fun z=>e (h1.trans z))]; exact ⟨h1,h2,h3⟩
theorem KT.put {H:Hp} {kvs:List (List Key×V)} {xs:List (List Key×Addr×Value)} (r:KT H kvs xs) (k:List Key) {b:Addr} {y:V} {u:Value} (hb:H b=some (.tup (k.map kV))) (ry:RelV y u) :
    KT H (Zeu kvs k y) (storedH xs k b u):=by
  have e:(kvs.any fun kv=>decide (kv.1=k))=(atKey xs k).isSome:=by
    rw [ZkA,(r.val k).isSome_eq,Option.isSome_map]
  unfold Zeu storedH
  rw [e]
  by_cases q:(atKey xs k).isSome=true
  · rw [if_pos q,if_pos q]; exact r.repl k ry
  · rw [if_neg q,if_neg q]; exact Paired.snoc r ⟨rfl,hb,ry⟩
theorem KT.keeps {H H':Hp} {kvs:List (List Key×V)} {xs:List (List Key×Addr×Value)} (r:KT H kvs xs) (ht:∀b ys,H b=some (.tup ys)→H' b=some (.tup ys)):KT H' kvs xs:=
  Paired.mapP r fun _ _ z=>⟨z.1,ht _ _ z.2.1,z.2.2⟩
section
variable {P:Program} {w:World} {H:Hp} {h:Heap} {a:Addr}
theorem Zsr {u:HO} (ok:HOk P w H h) (e:Rd H a u):ObjOk P w H h a u:=e.ok ok
theorem Zqq {kvs:List (Key×V)} (ok:HOk P w H h) (e:Rd H a (.dK kvs)):kvs.length≤sizeLine∧(a == sysModules)=false∧∃vs,KV kvs vs∧h.DictOf (ZaJ P w) a vs:=
  show ObjOk P w H h a (.dK kvs) from Zsr ok e
theorem Zqr {kvs:List (Key×V)} (ok:HOk P w H h) (e:H a=some (.dK kvs)):kvs.length≤sizeLine∧(a == sysModules)=false∧∃vs,KV kvs vs∧h.DictOf (ZaJ P w) a vs:=Zqq ok (.inl e)
theorem Zp6 {ks:List Key} (ok:HOk P w H h) (e:H a=some (.tup (ks.map kV))):(tupleKind (ZaJ P w)).is h ks a:=by
  obtain ⟨_,its,r,o,h1,h2,n,h3⟩:=(show ObjOk P w H h a (.tup (ks.map kV)) from ok a _ e)
  exact ⟨o,its.toArray,n,h1,h2,h3,by simpa using Ziu r⟩
theorem ZsD {kvs:List (List Key×V)} (ok:HOk P w H h) (e:Rd H a (.dT kvs)):kvs.length≤sizeLine∧(a == sysModules)=false∧
    ∃xs,KT H kvs xs∧h.DictOfH (tupleKind (ZaJ P w)) a xs:=by
  obtain ⟨z,y,xs,r,o,es,ep,h1,h2,h3,h4,h5⟩:=(show ObjOk P w H h a (.dT kvs) from Zsr ok e)
  refine ⟨z,y,xs,r,o,es,ep,h1,h2,h3,h4,fun x hx=>?_,h5⟩
  have all:∀{l:List (List Key×V)} {m:List (List Key×Addr×Value)},KT H l m→∀x∈m,(tupleKind (ZaJ P w)).is h x.1 x.2.1:=by
    intro l m q
    induction q with
    | nil=>intro x hx; exact nomatch hx
    | @cons p q ps qs hq t ih=>
      intro x hx
      rcases List.mem_cons.mp hx with e | hx
      · subst e
        exact Zp6 ok (by rw [←hq.1]; exact hq.2.1)
      · exact ih x hx
  exact all r x hx
end
def DGet (H:Hp) (a:Addr) (y:V) (r:Option V):Prop:=
  (∃kvs k,Rd H a (.dK kvs)∧y=kV k∧r=valV kvs k)∨∃kvs k b,Rd H a (.dT kvs)∧y=.ref b∧H b=some (.tup (k.map kV))∧r=valV kvs k
def DPut (H:Hp) (a:Addr) (y v:V) (H':Hp):Prop:=
  (∃kvs k,H a=some (.dK kvs)∧y=kV k∧kvs.length<sizeLine∧H'=upd H a (.dK (Zeu kvs k v)))∨
  ∃kvs k b,H a=some (.dT kvs)∧y=.ref b∧H b=some (.tup (k.map kV))∧kvs.length<sizeLine∧H'=upd H a (.dT (Zeu kvs k v))
theorem DGet.k {H:Hp} {a:Addr} {kvs:List (Key×V)} {k:Key} (e:H a=some (.dK kvs)):DGet H a (kV k) (valV kvs k):=.inl ⟨kvs,k,.inl e,rfl,rfl⟩
theorem DGet.t {H:Hp} {a b:Addr} {kvs:List (List Key×V)} {k:List Key} (e:H a=some (.dT kvs)) (eb:H b=some (.tup (k.map kV))):DGet H a (.ref b) (valV kvs k):=.inr ⟨kvs,k,b,.inl e,rfl,eb,rfl⟩
theorem DPut.k {H:Hp} {a:Addr} {kvs:List (Key×V)} {k:Key} {v:V} (e:H a=some (.dK kvs)) (hl:kvs.length<sizeLine):DPut H a (kV k) v (upd H a (.dK (Zeu kvs k v))):=.inl ⟨kvs,k,e,rfl,hl,rfl⟩
theorem DPut.t {H:Hp} {a b:Addr} {kvs:List (List Key×V)} {k:List Key} {v:V} (e:H a=some (.dT kvs)) (eb:H b=some (.tup (k.map kV))) (hl:kvs.length<sizeLine) :
    DPut H a (.ref b) v (upd H a (.dT (Zeu kvs k v))):=.inr ⟨kvs,k,b,e,rfl,eb,hl,rfl⟩
section
variable {X:Cx} {pins:List (Addr×Obj)} {σ:St} {H:Hp} {s:Shared} {a:Addr} {y v:V} {u r:Value} {o:Option V} {A:Around} {E:Value→Shared→Prop}
theorem Inv.big (I:Inv X pins σ H s):sysModules<s.heap.objs.size:=by
  have h:mainGlobals<s.heap.objs.size:=(I.mod.glob.keeps I.bk).lt
  exact Nat.lt_trans (by decide) h
theorem Zy6 {Q:Value→Shared→Prop} (hu:A.units+1<cLine) (I:Inv X pins σ H s) (g:DGet H a y o) (ry:RelV y u) (h:∀s',Inv X pins σ H s'→Q (.bool o.isSome) s') :
    wpAny (model X.prog X.w) A (compareOp .In u (.ref a)) Q E s:=by
  rcases g with ⟨kvs,k,e,ey,l⟩ | ⟨kvs,k,b,e,ey,eb,l⟩
  · subst ey
    obtain ⟨z,hd,vs,rel,dd⟩:=Zqq I.hok e
    refine wpAny_in_of (Zk5 ry) hd dd.mapOf ?_
    rw [←(rel.val k).isSome_eq,←l]
    exact h _ (I.tok _)
  · subst ey
    cases (show u=Value.ref b from ry)
    obtain ⟨z,hd,xs,rel,dd⟩:=ZsD I.hok e
    refine wpAny_in_heap (tupleKind_room_in1 hu) (Zp6 I.hok eb) hd dd ?_
    have q:=(rel.val k).isSome_eq
    rw [Option.isSome_map] at q
    rw [←q,←l]
    exact h _ (I.tok _)
theorem Zi6 {h':Heap} {t':Nat} {ob:HO} (I:Inv X pins σ H s) (mu:Mut (H a)) (hs:Heap.SameBut a s.heap h') (he:∃q,h'.get? a=some q) (new:ObjOk X.prog X.w (upd H a ob) h' a ob) :
    Inv X pins σ (upd H a ob) { s with heap:=h',toks:=t' }:=
  I.write (x:=a) (e:=a) mu (.inl rfl) (fun b q hb z=>(hs.2 b hb).trans z) he new
theorem Zl2 {P:Program} {w:World} {H':Hp} {h':Heap} {kvs:List (Key×V)} {vs:List (Key×Value)} (z:kvs.length≤sizeLine) (hd:(a == sysModules)=false) (rel:KV kvs vs) (dd:h'.DictOf (ZaJ P w) a vs) :
    ObjOk P w H' h' a (.dK kvs):=⟨z,hd,vs,rel,dd⟩
end
section
variable {X:Cx} {pins:List (Addr×Obj)} {σ:St} {H:Hp} {s:Shared} {a:Addr} {kvs:List (Key×V)} {k:Key} {u:Value} {A:Around} {E:Value→Shared→Prop}
theorem Zup {Q:Unit→Shared→Prop} (I:Inv X pins σ H s) (e:H a=some (.dK kvs)) (ry:RelV (kV k) u) (l:(valV kvs k).isSome=true) (h:∀s',Inv X pins σ (upd H a (.dK (Zfe kvs k))) s'→Q () s') :
    wpAny (model X.prog X.w) A (delItem (.ref a) u) Q E s:=by
  obtain ⟨z,hd,vs,rel,dd⟩:=Zqr I.hok e
  refine wpAny_delItem_slot dd.typeIs (by decide) PySem.F.slot_dict_delitem
    (call_meetsIn PySem.F.slot_dict_delitem dd.typeIs PySem.F.entry_dict_delitem (PySem.F.args_dict_delitem_2 _ _) (meets_dict_delitem_pairs (ZaJ X.prog X.w) a (Zk5 ry)) ⟨vs,dd,by rw [←rel.length]; exact z,by rw [←(rel.val k).isSome_eq]; exact l,fun h' dd' hs=>h _ ?_⟩)
  have he:∃q,h'.get? a=some q:=let ⟨q,_,_,hq,_⟩:=dd'; ⟨q,hq⟩
  exact Zi6 I (by rw [e]; exact True.intro) hs he (Zl2 (Nat.le_trans (Zli kvs k) z) hd (rel.drop k) dd')
theorem ZvF {v:V} {more:List Value} {Q:Value→Shared→Prop} (I:Inv X pins σ H s) (e:H a=some (.dK kvs)) (ry:RelV (kV k) u) (l:valV kvs k=some v) (hm:more=[]∨∃x,more=[x])
    (h:∀w' s',Inv X pins σ (upd H a (.dK (Zfe kvs k))) s'→RelV v w'→Q w' s'):wpAny (model X.prog X.w) A (call (.builtin "dict.pop") (.ref a::u::more)) Q E s:=by
  obtain ⟨z,hd,vs,rel,dd⟩:=Zqr I.hok e
  obtain ⟨w',hw,rw'⟩:=RelO.some_of (v:=v) (o:=valueAt vs k) (by rw [←l]; exact rel.val k)
  have hp:(keyPart u).isSome=true:=by
    cases k with
    | inl i=>obtain ⟨t,q⟩:=(show ∃t,u=Value.int i t from ry); subst q; rfl
    | inr x=>obtain ⟨t,q⟩:=(show ∃t,u=Value.str x t from ry); subst q; rfl
  have ha:argsOk "dict.pop" ⟨.ref a::u::more,[]⟩:=by
    rcases hm with q | ⟨x,q⟩
    · subst q; exact PySem.F.args_dict_pop_2 _ _
    · subst q; exact PySem.F.args_dict_pop_3 _ _ _
  refine call_meetsIn PySem.F.slot_dict_pop dd.typeIs PySem.F.entry_dict_pop ha (meets_dict_pop_there (ZaJ X.prog X.w) a (Zk5 ry) more hm hp)
    ⟨vs,w',dd,by rw [←rel.length]; exact z,hw,fun h' dd' hs=>h w' _ ?_ rw'⟩
  have he:∃q,h'.get? a=some q:=let ⟨q,_,_,hq,_⟩:=dd'; ⟨q,hq⟩
  exact Zi6 I (by rw [e]; exact True.intro) hs he (Zl2 (Nat.le_trans (Zli kvs k) z) hd (rel.drop k) dd')
end
def ZuO (ty td:TE):TE:=fun σ H Q=>ty σ H fun y H1=>td σ H1 fun x H2=>∃a o,x=.ref a∧DGet H2 a y o∧Q (.bl o.isSome) H2
section
variable {X:Cx} {o i e value:Expr} {pos pos' tpos:Pos} {td ty tv:TE}
theorem Ztz (hu:X.A.units+1<cLine) (hi:PE X i ty) (ho:PE X o td):PC X .In i o (ZuO ty td):=by
  intro pins s σ H Q I h
  refine thn (hi pins s σ H _ I h) fun iv s1 ⟨y,H1,I1,ry,q1⟩=>thn (ho pins s1 σ H1 _ I1 q1) fun u s2 ⟨x,H2,I2,rx,a,ov,ex,g,q2⟩=>?_
  subst ex
  obtain rfl:u=Value.ref a:=rx
  exact Zy6 hu I2 g ry fun s3 I3=>⟨.bl ov.isSome,H2,I3,rfl,q2⟩
end
theorem Zqs {P:Program} {w:World} {H:Hp} (h:Heap) (hb:sysModules<h.objs.size):ObjOk P w H (h.push { cls:=.type "dict",data:=.dict #[] }) h.objs.size (.dK []):=
  ⟨Nat.zero_le _,beq_eq_false_iff_ne.mpr (Ne.symm (Nat.ne_of_lt hb)),[],.nil,Heap.DictOf.new h⟩
def Zs9:TE:=fun _ H Q=>∀p,H p=none→Q (.ref p) (upd H p (.dK []))
section
variable {X:Cx} {pos:Pos}
theorem ZpA:PE X (.Dict [] [] pos) Zs9:=fun pins s σ H Q I h=>
  wpAny_Dict_empty ⟨.ref s.heap.objs.size,_,I.laid (a:=s.heap.objs.size) (o:=.dK []) (t':=s.toks) (fun _ _ q=>Heap.get?_push_of_some _ q) (Nat.le_refl _) (Zqs s.heap I.big),rfl,h _ (I.hok.fresh (Nat.le_refl _))⟩
end
structure M1 (X:Cx) (o:Expr) (m:Str) (apos:Pos) (e:Expr) (cpos:Pos):Prop where
  base:attributeBase o m X.env (eval o X.env)=eval o X.env
  few:((backTo cpos (starEach [e] X.env)).all (fun x=>!x.1) && (backToKw cpos (keywordEach [] X.env)).all (fun x=>x.1.isSome)
    && decide (([e]:List Expr).length+([]:List Keyword).length+(if ([]:List Keyword).isEmpty then 0 else 1)<30))=true
  line:(apos.endLine == cpos.line)=true
  trees:backTo cpos (starEach [e] X.env)=[(false,eval e X.env)]
structure M2 (X:Cx) (o:Expr) (m:Str) (apos:Pos) (e f:Expr) (cpos:Pos):Prop where
  base:attributeBase o m X.env (eval o X.env)=eval o X.env
  few:((backTo cpos (starEach [e,f] X.env)).all (fun x=>!x.1) && (backToKw cpos (keywordEach [] X.env)).all (fun x=>x.1.isSome)
    && decide (([e,f]:List Expr).length+([]:List Keyword).length+(if ([]:List Keyword).isEmpty then 0 else 1)<30))=true
  line:(apos.endLine == cpos.line)=true
  trees:backTo cpos (starEach [e,f] X.env)=[(false,eval e X.env),(false,eval f X.env)]
def IsD (H:Hp) (a:Addr):Prop:=(∃kvs,Rd H a (.dK kvs))∨∃kvs,Rd H a (.dT kvs)
theorem Zp7 {X:Cx} {pins:List (Addr×Obj)} {σ:St} {H:Hp} {s:Shared} {a:Addr} (I:Inv X pins σ H s) (d:IsD H a) :
    s.TypeIs (.ref a) "dict"∧(∀b,Value.ref a=.ref b→∃ob,s.heap.get? b=some ob∧ob.dict=none)∧(a == sysModules)=false:=by
  rcases d with ⟨kvs,e⟩ | ⟨kvs,e⟩
  · obtain ⟨_,hd,vs,_,dd⟩:=Zqq I.hok e
    refine ⟨dd.typeIs,fun b q=>?_,hd⟩
    cases q
    obtain ⟨ob,_,_,h1,h2,_⟩:=dd
    exact ⟨ob,h1,h2.2.1⟩
  · obtain ⟨_,hd,xs,_,dd⟩:=ZsD I.hok e
    refine ⟨dd.typeIs,fun b q=>?_,hd⟩
    cases q
    obtain ⟨ob,_,_,h1,h2,_⟩:=dd
    exact ⟨ob,h1,h2.2.1⟩
section
variable {X:Cx} {pins:List (Addr×Obj)} {σ:St} {H:Hp} {s:Shared} {a:Addr} {y d:V} {u r:Value} {o:Option V} {A:Around} {E:Value→Shared→Prop}
end
def Zs8 (td ty:TE):TE:=fun σ H Q=>td σ H fun x H1=>∃a,x=.ref a∧IsD H1 a∧ty σ H1 fun y H2=>∃kvs k v,H2 a=some (.dK kvs)∧y=kV k∧valV kvs k=some v∧Q v (upd H2 a (.dK (Zfe kvs k)))
section
variable {X:Cx} {o e f:Expr} {apos cpos:Pos} {td ty tx:TE}
theorem Zpz (ho:PE X o td) (he:PE X e ty) (m:M1 X o "pop" apos e cpos):PE X (.Call (.Attribute o "pop" apos) [e] [] cpos) (Zs8 td ty):=by
  intro pins s σ H Q I h
  refine wpAny_Call_method m.base m.few m.line PySem.F.plainAttrs_dict PySem.F.slot_dict_pop PySem.F.type_dict_pop (thn (ho pins s σ H _ I h) fun u s1 ⟨x,H1,I1,rx,a,ex,d,q1⟩=>?_)
  subst ex
  obtain rfl:u=Value.ref a:=rx
  obtain ⟨t1,t2,_⟩:=Zp7 I1 d
  refine ⟨t1,t2,?_⟩
  rw [m.trees]
  refine Calls.callWith_builtin rfl (Calls.evalArgs_plain (Calls.spliced_cons (thn (he pins s1 σ H1 _ I1 q1) fun iv s2 ⟨y,H2,I2,ry,kvs,k,v,ea,ey,l,q2⟩=>Calls.spliced_nil ?_)))
  subst ey
  exact ZvF I2 ea ry l (.inl rfl) fun w' s3 I3 rw'=>⟨v,_,I3,rw',q2⟩
end
section
variable {X:Cx} {pins:List (Addr×Obj)} {σ:St} {H:Hp} {s:Shared} {a:Addr} {kvs:List (Key×V)} {A:Around} {E:Value→Shared→Prop}
end
section
variable {X:Cx} {pins:List (Addr×Obj)} {σ:St} {H:Hp} {s:Shared} {a:Addr} {y:V} {u:Value} {A:Around} {E:Value→Shared→Prop}
end
end L2
namespace L2.MM
open PySem PySem.Spec PyProof.Rows
theorem nr {α:Sort _} {a b:α} (h:a=b):a=b:=h
inductive D where
  | non | bl (b:Bool) | int (i:Int) | str (x:Str) | ty (n:String)
  | scr (ns:List Int) | tup (xs:List D) | lst (xs:List D) | ref (l:Nat)
  deriving Inhabited
inductive Cell where
  | lst (xs:List D) | dK (kvs:List (Key×D)) | dT (kvs:List (List Key×D)) | ins (C:Str) (fs:List (Str×D))
abbrev Sto:=List Cell
structure Bx where
  n:Nat
  m:Nat→Addr
  F:Addr→Prop
  os:List Addr
  ks:Addr→List Int→Prop
def Bx.ok (B:Bx) (a:Addr):Prop:=(∀i,i<B.n→B.m i≠a)∧¬B.F a∧a∉B.os
mutual
def RepV (B:Bx) (H:Hp):D→V→Prop
  | .non,v=>v=.non
  | .bl b,v=>v=.bl b
  | .int i,v=>v=.int i
  | .str x,v=>v=.str x
  | .ty n,v=>v=.ty n
  | .scr ns,v=>∃a,v=.ref a∧((∃o,H a=some (.frz o (.lst (ns.map V.int)))∧B.ok a)∨B.ks a ns)
  | .tup xs,v=>∃a vs,v=.ref a∧H a=some (.tup vs)∧B.ok a∧RepL B H xs vs
  | .lst xs,v=>∃a vs,v=.ref a∧H a=some (.lst vs)∧B.ok a∧RepL B H xs vs
  | .ref l,v=>l<B.n∧v=.ref (B.m l)
def RepL (B:Bx) (H:Hp):List D→List V→Prop
  | [],vs=>vs=[]
  | d::ds,vs=>∃v r,vs=v::r∧RepV B H d v∧RepL B H ds r
end
abbrev RepKV {κ:Type} (B:Bx) (H:Hp):List (κ×D)→List (κ×V)→Prop:=Paired fun p q=>p.1=q.1∧RepV B H p.2 q.2
structure ExtS (B B':Bx) (H H':Hp):Prop where
  n:B.n≤B'.n
  m:∀i,i<B.n→B'.m i=B.m i
  fr:∀i,B.n≤i→i<B'.n→H (B'.m i)=none
  keep:∀a o,H a=some o→(∀i,i<B.n→B.m i≠a)→a∉B.os→H' a=some o
  sm:∀a,H a≠none→H' a≠none
  os:∀a,a∈B'.os→a∈B.os∨H a=none
  F:B'.F=B.F
  ks:B'.ks=B.ks
structure ExtE (B B':Bx) (H H':Hp):Prop extends ExtS B B' H H' where
  osE:B'.os=B.os
  ko:∀a o,a∈B.os→(∀i,i<B.n→B.m i≠a)→H a=some o→H' a=some o
theorem ExtS.refl (B:Bx) (H:Hp):ExtS B B H H:=⟨Nat.le_refl _,fun _ _=>rfl,fun i h h'=>absurd h' (Nat.not_lt.mpr h),fun _ _ h _ _=>h,fun _ h=>h,fun _ h=>.inl h,rfl,rfl⟩
theorem ExtE.refl (B:Bx) (H:Hp):ExtE B B H H:=⟨ExtS.refl B H,rfl,fun _ _ _ _ h=>h⟩
section
variable {B B' B'':Bx} {H H' H'':Hp}
theorem Bx.ok.ext {a:Addr} {o:HO} (k:B.ok a) (E:ExtS B B' H H') (h:H a=some o):B'.ok a∧H' a=some o:=by
  refine ⟨⟨fun i hi e=>?_,by rw [E.F]; exact k.2.1,fun z=>?_⟩,E.keep a o h k.1 k.2.2⟩
  · by_cases q:i<B.n
    · rw [E.m i q] at e; exact k.1 i q e
    · have:=E.fr i (Nat.not_lt.mp q) hi
      rw [e,h] at this; cases this
  · rcases E.os a z with z | z
    · exact k.2.2 z
    · rw [h] at z; cases z
theorem ExtS.trans (E:ExtS B B' H H') (E':ExtS B' B'' H' H''):ExtS B B'' H H'' where
  n:=Nat.le_trans E.n E'.n
  m:=fun i hi=>(E'.m i (Nat.lt_of_lt_of_le hi E.n)).trans (E.m i hi)
  fr:=fun i h1 h2=>by
    by_cases q:i<B'.n
    · rw [E'.m i q]; exact E.fr i h1 q
    · cases z:H (B''.m i) with
      | none=>rfl
      | some o=>exact absurd (E'.fr i (Nat.not_lt.mp q) h2) (E.sm _ (by rw [z]; simp))
  keep:=fun a o h h1 h2=>by
    have h':=E.keep a o h h1 h2
    refine E'.keep a o h' (fun i hi e=>?_) (fun z=>?_)
    · by_cases q:i<B.n
      · rw [E.m i q] at e; exact h1 i q e
      · have:=E.fr i (Nat.not_lt.mp q) hi
        rw [e,h] at this; cases this
    · rcases E.os a z with z | z
      · exact h2 z
      · rw [h] at z; cases z
  sm:=fun a h=>E'.sm a (E.sm a h)
  os:=fun a h=>by
    rcases E'.os a h with z | z
    · exact E.os a z
    · right
      cases q:H a with
      | none=>rfl
      | some o=>exact absurd z (E.sm a (by rw [q]; simp))
  F:=E'.F.trans E.F
  ks:=E'.ks.trans E.ks
theorem ExtE.trans (E:ExtE B B' H H') (E':ExtE B' B'' H' H''):ExtE B B'' H H'' where
  toExtS:=E.toExtS.trans E'.toExtS
  osE:=E'.osE.trans E.osE
  ko:=fun a o ha h1 h=>by
    have h':=E.ko a o ha h1 h
    refine E'.ko a o (by rw [E.osE]; exact ha) (fun i hi e=>?_) h'
    by_cases q:i<B.n
    · rw [E.m i q] at e; exact h1 i q e
    · have:=E.fr i (Nat.not_lt.mp q) hi
      rw [e,h] at this; cases this
mutual
theorem RepV.ext (E:ExtS B B' H H'):∀{d:D} {v:V},RepV B H d v→RepV B' H' d v
  | .non,_,h=>h
  | .bl _,_,h=>h
  | .int _,_,h=>h
  | .str _,_,h=>h
  | .ty _,_,h=>h
  | .scr _,_,h=>by
    obtain ⟨a,e,h⟩:=h
    refine ⟨a,e,?_⟩
    rcases h with ⟨o,h,k⟩ | h
    · obtain ⟨k',h'⟩:=k.ext E h
      exact .inl ⟨o,h',k'⟩
    · exact .inr (by rw [E.ks]; exact h)
  | .tup _,_,h=>by
    obtain ⟨a,vs,e,h,k,l⟩:=h
    obtain ⟨k',h'⟩:=k.ext E h
    exact ⟨a,vs,e,h',k',RepL.ext E l⟩
  | .lst _,_,h=>by
    obtain ⟨a,vs,e,h,k,l⟩:=h
    obtain ⟨k',h'⟩:=k.ext E h
    exact ⟨a,vs,e,h',k',RepL.ext E l⟩
  | .ref l,_,h=>⟨Nat.lt_of_lt_of_le h.1 E.n,by rw [h.2,E.m l h.1]⟩
theorem RepL.ext (E:ExtS B B' H H'):∀{ds:List D} {vs:List V},RepL B H ds vs→RepL B' H' ds vs
  | [],_,h=>h
  | _::_,_,h=>by
    obtain ⟨v,r,e,hv,hr⟩:=h
    exact ⟨v,r,e,RepV.ext E hv,RepL.ext E hr⟩
end
theorem RepL.len:∀{ds:List D} {vs:List V},RepL B H ds vs→vs.length=ds.length
  | [],_,h=>by cases (show _=[] from h); rfl
  | _::_,_,h=>by
    obtain ⟨v,r,rfl,_,hr⟩:=h
    simp [RepL.len hr]
theorem RepL.app:∀{ds es:List D} {vs us:List V},RepL B H ds vs→RepL B H es us→RepL B H (ds++es) (vs++us)
  | [],_,_,_,h,q=>by cases (show _=[] from h); exact q
  | _::_,_,_,_,h,q=>by
    obtain ⟨v,r,rfl,hv,hr⟩:=h
    exact ⟨v,_,rfl,hv,RepL.app hr q⟩
theorem RepL.get:∀{ds:List D} {vs:List V} {i:Nat} {d:D},RepL B H ds vs→ds[i]?=some d→∃v,vs[i]?=some v∧RepV B H d v
  | [],_,_,_,_,e=>by simp at e
  | _::_,_,0,_,h,e=>by
    obtain ⟨v,r,rfl,hv,_⟩:=h
    simp at e; subst e
    exact ⟨v,rfl,hv⟩
  | _::_,_,i+1,_,h,e=>by
    obtain ⟨v,r,rfl,_,hr⟩:=h
    obtain ⟨w,q1,q2⟩:=RepL.get (i:=i) hr (by simpa using e)
    exact ⟨w,by simpa using q1,q2⟩
theorem RepL.take:∀{ds:List D} {vs:List V} (n:Nat),RepL B H ds vs→RepL B H (ds.take n) (vs.take n)
  | _,_,0,_=>by rw [List.take_zero,List.take_zero]; exact rfl
  | [],_,n+1,h=>by cases (show _=[] from h); exact rfl
  | _::_,_,n+1,h=>by
    obtain ⟨v,r,rfl,hv,hr⟩:=h
    exact ⟨v,_,rfl,hv,RepL.take n hr⟩
theorem RepL.drop:∀{ds:List D} {vs:List V} (n:Nat),RepL B H ds vs→RepL B H (ds.drop n) (vs.drop n)
  | _,_,0,h=>h
  | [],_,n+1,h=>by cases (show _=[] from h); exact rfl
  | _::_,_,n+1,h=>by
    obtain ⟨v,r,rfl,hv,hr⟩:=h
    exact RepL.drop n hr
theorem RepL.set {d:D} {v:V} (q:RepV B H d v):∀{ds:List D} {vs:List V} (i:Nat),RepL B H ds vs→RepL B H (ds.set i d) (vs.set i v)
  | [],_,_,h=>by cases (show _=[] from h); exact rfl
  | _::_,_,0,h=>by
    obtain ⟨w,r,rfl,_,hr⟩:=h
    exact ⟨v,r,rfl,q,hr⟩
  | _::_,_,i+1,h=>by
    obtain ⟨w,r,rfl,hw,hr⟩:=h
    exact ⟨w,_,rfl,hw,RepL.set q i hr⟩
theorem RepL.map {α:Type} {f:α→D} {g:α→V} (q:∀a,RepV B H (f a) (g a)):∀l:List α,RepL B H (l.map f) (l.map g)
  | []=>rfl
  | a::l=>⟨_,_,rfl,q a,RepL.map q l⟩
theorem RepKV.ext {κ:Type} (E:ExtS B B' H H'):∀{ks:List (κ×D)} {vs:List (κ×V)},RepKV B H ks vs→RepKV B' H' ks vs
  | _,_,.nil=>.nil
  | _,_,.cons h t=>.cons ⟨h.1,RepV.ext E h.2⟩ (RepKV.ext E t)
end
structure Mo where
  cl:Str→Addr
  K:PySem.W.Frag
def KL (K:PySem.W.Frag) (a:Addr) (ns:List Int):Prop:=∃(o:Obj) (its:Array Value) (n:Nat),K.lookup a=some o∧o.cls=.type "list"∧o.dict=none∧o.data=.seq its n∧its.size≤sizeLine∧Vals (ns.map V.int) its.toList
def CellOk (cl:Mo) (B:Bx) (H:Hp) (a:Addr):Cell→Prop
  | .lst xs=>∃vs,H a=some (.lst vs)∧RepL B H xs vs
  | .dK kvs=>∃vs,H a=some (.dK vs)∧RepKV B H kvs vs
  | .dT kvs=>∃vs,H a=some (.dT vs)∧RepKV B H kvs vs
  | .ins C fs=>∃dx vs,H a=some (.ins (cl.cl C) dx vs)∧RepKV B H fs vs
structure Good (cl:Mo) (B:Bx) (θ:Sto) (H:Hp):Prop where
  len:θ.length=B.n
  inj:∀i j,i<B.n→j<B.n→B.m i=B.m j→i=j
  cel:∀i c,θ[i]?=some c→CellOk cl B H (B.m i) c
  cF:∀i,i<B.n→¬B.F (B.m i)∧B.m i∉B.os
  Fs:∀a,B.F a→H a≠none
  oS:∀a,a∈B.os→H a≠none
  oF:∀a,a∈B.os→¬B.F a
  kc:∀a ns,B.ks a ns→KL cl.K a ns
section
variable {cl:Mo} {B B' B'':Bx} {H H' H'':Hp} {θ θ':Sto}
theorem CellOk.ext {a:Addr} {c:Cell} (k:CellOk cl B H a c) (E:ExtS B B' H H') (h:∀o,H a=some o→H' a=some o):CellOk cl B' H' a c:=by
  cases c with
  | lst xs=>obtain ⟨vs,e,r⟩:=k; exact ⟨vs,h _ e,r.ext E⟩
  | dK kvs=>obtain ⟨vs,e,r⟩:=k; exact ⟨vs,h _ e,r.ext E⟩
  | dT kvs=>obtain ⟨vs,e,r⟩:=k; exact ⟨vs,h _ e,r.ext E⟩
  | ins C fs=>obtain ⟨dx,vs,e,r⟩:=k; exact ⟨dx,vs,h _ e,r.ext E⟩
theorem CellOk.there {a:Addr} {c:Cell} (k:CellOk cl B H a c):H a≠none:=by
  cases c with
  | lst xs=>obtain ⟨vs,e,r⟩:=k; rw [e]; simp
  | dK kvs=>obtain ⟨vs,e,r⟩:=k; rw [e]; simp
  | dT kvs=>obtain ⟨vs,e,r⟩:=k; rw [e]; simp
  | ins C fs=>obtain ⟨dx,vs,e,r⟩:=k; rw [e]; simp
theorem Good.there (G:Good cl B θ H) {i:Nat} (hi:i<B.n):H (B.m i)≠none:=by
  have:i < θ.length:=by rw [G.len]; exact hi
  exact (G.cel i _ (List.getElem?_eq_getElem this)).there
theorem Good.okNone (G:Good cl B θ H) {p:Addr} (h:H p=none):B.ok p:=
  ⟨fun i hi e=>G.there hi (by rw [e]; exact h),fun z=>G.Fs p z h,fun z=>G.oS p z h⟩
theorem ZcP (G:Good cl B θ H) {p:Addr} (h:H p=none) (o:HO):ExtE B B H (upd H p o):=by
  have ne:∀a u,H a=some u→upd H p o a=some u:=fun a u e=>by rw [ZQ (zl e h)]; exact e
  exact ⟨⟨Nat.le_refl _,fun _ _=>rfl,fun i h h'=>absurd h' (Nat.not_lt.mpr h),fun a u e _ _=>ne a u e,fun a e=>by
    cases q:H a with
    | none=>exact absurd q e
    | some u=>rw [ne a u q]; simp,fun _ h=>.inl h,rfl,rfl⟩,rfl,fun a u _ _ e=>ne a u e⟩
theorem ZeH (G:Good cl B θ H) {p:Addr} (h:H p=none) (o:HO):Good cl B θ (upd H p o):=by
  have E:=ZcP G h o
  exact ⟨G.len,G.inj,fun i c e=>(G.cel i c e).ext E.toExtS fun u q=>by rw [ZQ (zl q h)]; exact q,G.cF,fun a z=>E.sm a (G.Fs a z),fun a z=>E.sm a (G.oS a z),G.oF,G.kc⟩
theorem Zrc (G:Good cl B θ H) {p:Addr} (h:H p=none) {xs:List D} {vs:List V} (r:RepL B H xs vs):RepV B (upd H p (.lst vs)) (.lst xs) (.ref p):=
  ⟨p,vs,rfl,zF,G.okNone h,r.ext (ZcP G h _).toExtS⟩
theorem Zrb (G:Good cl B θ H) {p:Addr} (h:H p=none) {xs:List D} {vs:List V} (r:RepL B H xs vs):RepV B (upd H p (.tup vs)) (.tup xs) (.ref p):=
  ⟨p,vs,rfl,zF,G.okNone h,r.ext (ZcP G h _).toExtS⟩
def Bx.push (B:Bx) (p:Addr):Bx:={ B with n:=B.n+1,m:=fun i=>if i=B.n then p else B.m i }
theorem Zhz (G:Good cl B θ H) {p:Addr} (h:H p=none) (o:HO):ExtE B (B.push p) H (upd H p o):=by
  have E:=ZcP G h o
  refine ⟨⟨Nat.le_succ _,fun i hi=>if_neg (Nat.ne_of_lt hi),fun i h1 h2=>?_,E.keep,E.sm,fun _ h=>.inl h,rfl,rfl⟩,rfl,E.ko⟩
  have e:i=B.n:=Nat.le_antisymm (Nat.le_of_lt_succ h2) h1
  show H (if i=B.n then p else B.m i)=none
  rw [if_pos e]; exact h
theorem Ziv (G:Good cl B θ H) {p:Addr} (h:H p=none) {o:HO} {c:Cell} (k:CellOk cl (B.push p) (upd H p o) p c):Good cl (B.push p) (θ++[c]) (upd H p o):=by
  have E:=Zhz G h o
  have hm:∀i,i<B.n→(B.push p).m i=B.m i:=fun i hi=>if_neg (Nat.ne_of_lt hi)
  have hn:(B.push p).m B.n=p:=if_pos rfl
  have cs:∀i,i<(B.push p).n→i<B.n∨i=B.n:=fun i hi=>Nat.lt_succ_iff_lt_or_eq.mp hi
  have ok:=G.okNone h
  refine ⟨by rw [List.length_append,G.len]; rfl,fun i j hi hj e=>?_,fun i c' e=>?_,fun i hi=>?_,fun a z=>E.sm a (G.Fs a z),fun a z=>E.sm a (G.oS a z),G.oF,G.kc⟩
  · rcases cs i hi with a | a<;>rcases cs j hj with b | b
    · rw [hm i a,hm j b] at e; exact G.inj i j a b e
    · rw [hm i a,b,hn] at e; exact absurd e (ok.1 i a)
    · rw [hm j b,a,hn] at e; exact absurd e.symm (ok.1 j b)
    · rw [a,b]
  · by_cases q:i < θ.length
    · rw [List.getElem?_append_left q] at e
      rw [hm i (by rw [←G.len]; exact q)]
      exact (G.cel i c' e).ext E.toExtS fun u z=>by rw [ZQ (zl z h)]; exact z
    · have q':=Nat.not_lt.mp q
      rw [List.getElem?_append_right q'] at e
      have:i - θ.length=0:=by
        cases z:i - θ.length with
        | zero=>rfl
        | succ k=>rw [z] at e; simp at e
      rw [this] at e
      simp at e
      subst e
      have:i=B.n:=by rw [←G.len]; omega
      rw [this,hn]; exact k
  · rcases cs i hi with a | a
    · rw [hm i a]; exact G.cF i a
    · rw [a,hn]; exact ⟨ok.2.1,ok.2.2⟩
theorem Zg0 (G:Good cl B θ H) {l:Nat} (hl:l<B.n) (o:HO):ExtE B B H (upd H (B.m l) o):=by
  have ne:∀a u,(∀i,i<B.n→B.m i≠a)→H a=some u→upd H (B.m l) o a=some u:=fun a u k e=>by rw [ZQ (Ne.symm (k l hl))]; exact e
  exact ⟨⟨Nat.le_refl _,fun _ _=>rfl,fun i h h'=>absurd h' (Nat.not_lt.mpr h),fun a u e k _=>ne a u k e,fun a e=>by
    by_cases q:a=B.m l
    · rw [q,zF]; simp
    · rw [ZQ q]; exact e,fun _ h=>.inl h,rfl,rfl⟩,rfl,fun a u _ k e=>ne a u k e⟩
theorem Zhw (G:Good cl B θ H) {l:Nat} (hl:l<B.n) {o:HO} {c:Cell} (k:CellOk cl B (upd H (B.m l) o) (B.m l) c):Good cl B (θ.set l c) (upd H (B.m l) o):=by
  have E:=Zg0 G hl o
  refine ⟨by rw [List.length_set]; exact G.len,G.inj,fun i c' e=>?_,G.cF,fun a z=>E.sm a (G.Fs a z),fun a z=>E.sm a (G.oS a z),G.oF,G.kc⟩
  by_cases q:i=l
  · subst q
    rw [List.getElem?_set_self (by rw [G.len]; exact hl)] at e
    cases e; exact k
  · rw [List.getElem?_set_ne (Ne.symm q)] at e
    have hi:i<B.n:=by rw [←G.len]; exact (List.getElem?_eq_some_iff.mp e).1
    exact (G.cel i c' e).ext E.toExtS fun u z=>by rw [ZQ (fun z'=>q (G.inj i l hi hl z'))]; exact z
end
inductive R (α:Type) where
  | ok (a:α) (θ:Sto) | ex (c:Str) (θ:Sto) | bad
def R.bind {α β:Type} (r:R α) (k:α→Sto→R β):R β:=match r with
  | .ok a θ=>k a θ
  | .ex c θ=>.ex c θ
  | .bad=>.bad
@[simp] theorem R.bind_ok {α β:Type} (a:α) (θ:Sto) (k:α→Sto→R β):(R.ok a θ).bind k=k a θ:=nr rfl
@[simp] theorem R.bind_bad {α β:Type} (k:α→Sto→R β):(R.bad:R α).bind k=.bad:=nr rfl
inductive Sl where
  | no | val (d:D) | own (xs:List D)
structure Frm (cl:Mo) (B:Bx) (θ:Sto) (ρ:List Sl) (σ:St) (H:Hp):Prop where
  good:Good cl B θ H
  len:ρ.length=σ.length
  val:∀(i:Nat) (d:D),ρ[i]?=some (Sl.val d)→∃v,σ[i]?=some (some v)∧RepV B H d v
  own:∀(i:Nat) (xs:List D),ρ[i]?=some (Sl.own xs)→∃a vs,σ[i]?=some (some (.ref a))∧a∈B.os∧H a=some (.lst vs)∧RepL B H xs vs
  ne:∀(i j:Nat) (xs ys:List D) (a:Addr),i≠j→ρ[i]?=some (Sl.own xs)→ρ[j]?=some (Sl.own ys)→σ[i]?=some (some (.ref a))→σ[j]?≠some (some (.ref a))
theorem Frm.ext {cl:Mo} {B B':Bx} {θ θ':Sto} {ρ:List Sl} {σ:St} {H H':Hp} (F:Frm cl B θ ρ σ H) (E:ExtE B B' H H') (G:Good cl B' θ' H'):Frm cl B' θ' ρ σ H' where
  good:=G
  len:=F.len
  val:=fun i d e=>let ⟨v,h1,h2⟩:=F.val i d e; ⟨v,h1,h2.ext E.toExtS⟩
  own:=fun i xs e=>by
    obtain ⟨a,vs,h1,h2,h3,h4⟩:=F.own i xs e
    exact ⟨a,vs,h1,by rw [E.osE]; exact h2,E.ko a _ h2 (fun i hi z=>(F.good.cF i hi).2 (by rw [z]; exact h2)) h3,h4.ext E.toExtS⟩
  ne:=F.ne
def z8 (mg:Str→Option Value) (x:Str):Addr:=match mg x with
  | some (.ref a)=>a
  | _=>0
abbrev _root_.L2.Cx.cl (X:Cx):Mo:=⟨z8 X.mg,X.K⟩
def XE (X:Cx) (σ:St) (B:Bx) (H:Hp) (c:Str) (θ':Sto):Prop:=False
theorem XE.trans {X:Cx} {σ:St} {B B':Bx} {H H':Hp} {c:Str} {θ':Sto} (h:XE X σ B H c θ') (E:ExtE B B' H H'):XE X σ B' H' c θ':=h
def wpR (X:Cx) (σ:St) {α β:Type} (Rel:Bx→Hp→α→β→Prop) (B:Bx) (H:Hp) (r:R α) (Q:β→Hp→Prop):Prop:=match r with
  | .ok a θ'=>∀B' H' b,ExtE B B' H H'→Good X.cl B' θ' H'→Rel B' H' a b→Q b H'
  | .ex c θ'=>XE X σ B H c θ'
  | .bad=>False
section
variable {X:Cx} {σ:St} {α β γ δ:Type} {Rel:Bx→Hp→α→β→Prop} {Rel':Bx→Hp→γ→δ→Prop} {B B':Bx} {H H':Hp}
theorem wpR.mono {r:R α} {Q Q':β→Hp→Prop} (h:wpR X σ Rel B H r Q) (hQ:∀b H',Q b H'→Q' b H'):wpR X σ Rel B H r Q':=by
  cases r with
  | ok a θ'=>exact fun B' H' b e g q=>hQ _ _ (h B' H' b e g q)
  | ex c θ'=>exact h
  | bad=>exact h
theorem wpR.trans {r:R α} {Q:β→Hp→Prop} (h:wpR X σ Rel B H r Q) (E:ExtE B B' H H'):wpR X σ Rel B' H' r Q:=by
  cases r with
  | ok a θ'=>exact fun B2 H2 b e g q=>h B2 H2 b (E.trans e) g q
  | ex c θ'=>exact XE.trans (c:=c) (θ':=θ') (σ:=σ) (X:=X) h E
  | bad=>exact h
theorem wpR.bind {r:R α} {k:α→Sto→R γ} {Q:δ→Hp→Prop} (h:wpR X σ Rel' B H (r.bind k) Q) :
    wpR X σ Rel B H r (fun b H1=>∃B1 θ1 a,ExtE B B1 H H1∧Good X.cl B1 θ1 H1∧Rel B1 H1 a b∧wpR X σ Rel' B1 H1 (k a θ1) Q):=by
  cases r with
  | ok a θ'=>exact fun B1 H1 b E g q=>⟨B1,θ',a,E,g,q,wpR.trans h E⟩
  | ex c θ'=>exact h
  | bad=>exact h
end
abbrev EM:=List Sl→Sto→R D
abbrev TMr:=List Sl→Sto→R Bool
abbrev AM:=List Sl→Sto→R (List D)
def EqB (_:Bx) (_:Hp) (a b:Bool):Prop:=a=b
def tM (X:Cx) (f:EM):TE:=fun σ H Q=>∃B θ ρ,Frm X.cl B θ ρ σ H∧wpR X σ RepV B H (f ρ θ) Q
def tMT (X:Cx) (f:TMr):TT:=fun σ H Q=>∃B θ ρ,Frm X.cl B θ ρ σ H∧wpR X σ EqB B H (f ρ θ) Q
def tMA (X:Cx) (f:AM):TA:=fun σ H Q=>∃B θ ρ,Frm X.cl B θ ρ σ H∧wpR X σ RepL B H (f ρ θ) Q
def ME (X:Cx) (e:Expr) (f:EM):Prop:=PE X e (tM X f)
def MT (X:Cx) (e:Expr) (f:TMr):Prop:=PT X e (tMT X f)
def MW (X:Cx) (e:Expr) (f:TMr):Prop:=PW X e (tMT X f)
def MA (X:Cx) (es:List Expr) (f:AM):Prop:=PA X es (tMA X f)
section
variable {X:Cx} {σ:St} {H:Hp} {γ δ:Type} {Rel':Bx→Hp→γ→δ→Prop}
theorem Z9 {f:EM} {Q Q':VK} (h:tM X f σ H Q) (hQ:∀v H',Q v H'→Q' v H'):tM X f σ H Q':=let ⟨B,θ,ρ,F,w⟩:=h; ⟨B,θ,ρ,F,w.mono hQ⟩
theorem ZdB {f:TMr} {Q Q':Bool→Hp→Prop} (h:tMT X f σ H Q) (hQ:∀v H',Q v H'→Q' v H'):tMT X f σ H Q':=let ⟨B,θ,ρ,F,w⟩:=h; ⟨B,θ,ρ,F,w.mono hQ⟩
theorem ZbZ {f:AM} {Q Q':List V→Hp→Prop} (h:tMA X f σ H Q) (hQ:∀v H',Q v H'→Q' v H'):tMA X f σ H Q':=let ⟨B,θ,ρ,F,w⟩:=h; ⟨B,θ,ρ,F,w.mono hQ⟩
variable {B:Bx} {θ:Sto} {ρ:List Sl}
theorem step {f:EM} {k:D→Sto→R γ} {Q:δ→Hp→Prop} (F:Frm X.cl B θ ρ σ H) (h:wpR X σ Rel' B H ((f ρ θ).bind k) Q) :
    tM X f σ H (fun v H1=>∃B1 θ1 d,ExtE B B1 H H1∧Frm X.cl B1 θ1 ρ σ H1∧RepV B1 H1 d v∧wpR X σ Rel' B1 H1 (k d θ1) Q):=
  ⟨B,θ,ρ,F,(wpR.bind (Rel:=RepV) h).mono fun v H1 ⟨B1,θ1,d,E,G,r,w⟩=>⟨B1,θ1,d,E,F.ext E G,r,w⟩⟩
theorem Zmh {f:TMr} {k:Bool→Sto→R γ} {Q:δ→Hp→Prop} (F:Frm X.cl B θ ρ σ H) (h:wpR X σ Rel' B H ((f ρ θ).bind k) Q) :
    tMT X f σ H (fun c H1=>∃B1 θ1,ExtE B B1 H H1∧Frm X.cl B1 θ1 ρ σ H1∧wpR X σ Rel' B1 H1 (k c θ1) Q):=
  ⟨B,θ,ρ,F,(wpR.bind (Rel:=EqB) h).mono fun v H1 ⟨B1,θ1,d,E,G,r,w⟩=>by cases (show d=v from r); exact ⟨B1,θ1,E,F.ext E G,w⟩⟩
theorem Zhd {f:AM} {k:List D→Sto→R γ} {Q:δ→Hp→Prop} (F:Frm X.cl B θ ρ σ H) (h:wpR X σ Rel' B H ((f ρ θ).bind k) Q) :
    tMA X f σ H (fun v H1=>∃B1 θ1 d,ExtE B B1 H H1∧Frm X.cl B1 θ1 ρ σ H1∧RepL B1 H1 d v∧wpR X σ Rel' B1 H1 (k d θ1) Q):=
  ⟨B,θ,ρ,F,(wpR.bind (Rel:=RepL) h).mono fun v H1 ⟨B1,θ1,d,E,G,r,w⟩=>⟨B1,θ1,d,E,F.ext E G,r,w⟩⟩
theorem ZO {α β:Type} {Rel:Bx→Hp→α→β→Prop} {a:α} {b:β} {Q:β→Hp→Prop} (G:Good X.cl B θ H) (r:Rel B H a b) (h:wpR X σ Rel B H (.ok a θ) Q):Q b H:=h B H b (ExtE.refl B H) G r
end
theorem PE.imp {X:Cx} {e:Expr} {t t':TE} (h:PE X e t) (hi:∀σ H Q,t' σ H Q→t σ H Q):PE X e t':=fun pins s σ H Q I q=>h pins s σ H Q I (hi σ H Q q)
theorem PT.imp {X:Cx} {e:Expr} {t t':TT} (h:PT X e t) (hi:∀σ H Q,t' σ H Q→t σ H Q):PT X e t':=fun pins s σ H Q I q=>h pins s σ H Q I (hi σ H Q q)
theorem PW.imp {X:Cx} {e:Expr} {t t':TT} (h:PW X e t) (hi:∀σ H Q,t' σ H Q→t σ H Q):PW X e t':=fun wh pins s σ H Q I q=>h wh pins s σ H Q I (hi σ H Q q)
theorem PA.imp {X:Cx} {es:List Expr} {t t':TA} (h:PA X es t) (hi:∀σ H Q,t' σ H Q→t σ H Q):PA X es t':=fun pos pins s σ H Q I q=>h pos pins s σ H Q I (hi σ H Q q)
theorem OpR.imp {X:Cx} {f:Value→Value→Sem Value} {r r':R2} (h:OpR X f r) (hi:∀x y H Q,r' x y H Q→r x y H Q):OpR X f r':=fun pins s σ H x y v u Q I rx ry q=>h pins s σ H x y v u Q I rx ry (hi x y H Q q)
theorem IxR.imp {X:Cx} {r r':R2} (h:IxR X r) (hi:∀x y H Q,r' x y H Q→r x y H Q):IxR X r':=fun pins s σ H x y v u Q v1 s1 I rx ry q=>h pins s σ H x y v u Q v1 s1 I rx ry (hi _ _ _ _ q)
theorem CallR.imp {X:Cx} {f:Value} {r r':List V→Hp→VK→Prop} (h:CallR X f r) (hi:∀xs H Q,r' xs H Q→r xs H Q):CallR X f r':=fun pins s σ H xs us Q I r q=>h pins s σ H xs us Q I r (hi _ _ _ q)
end L2.MM
namespace L2.MM
open PySem PySem.Spec PyProof.Rows
noncomputable section
variable {X:Cx}
def ZaV (θ:Sto):D→Option (List D)
  | .lst xs=>some xs
  | .ref l=>match θ[l]? with
    | some (.lst xs)=>some xs
    | _=>none
  | _=>none
def seqOf (θ:Sto):D→Option (List D)
  | .tup xs=>some xs
  | .scr ns=>some (ns.map D.int)
  | d=>ZaV θ d
theorem Zai {cl:Mo} {B:Bx} {θ:Sto} {H:Hp} (G:Good cl B θ H) {d:D} {v:V} {xs:List D} (r:RepV B H d v) (h:ZaV θ d=some xs):∃a vs,v=.ref a∧H a=some (.lst vs)∧RepL B H xs vs:=by
  cases d with
  | lst ys=>
    obtain ⟨a,vs,e,h1,_,h2⟩:=r
    cases h
    exact ⟨a,vs,e,h1,h2⟩
  | ref l=>
    obtain ⟨hl,rfl⟩:=r
    simp only [ZaV] at h
    split at h
    · rename_i ys e
      cases h
      obtain ⟨vs,q1,q2⟩:=G.cel l _ e
      exact ⟨_,vs,rfl,q1,q2⟩
    · cases h
  | _=>cases h
theorem ZcY {cl:Mo} {B:Bx} {θ:Sto} {H:Hp} (G:Good cl B θ H) {d:D} {v:V} {xs:List D} (r:RepV B H d v) (h:seqOf θ d=some xs) :
    ∃a vs,v=.ref a∧(SqL cl.K H a vs∨SqT cl.K H a vs)∧RepL B H xs vs:=by
  cases d with
  | tup ys=>
    obtain ⟨a,vs,e,h1,_,h2⟩:=r
    cases h
    exact ⟨a,vs,e,.inr (SqT.of h1),h2⟩
  | scr ns=>
    obtain ⟨a,e,h1⟩:=r
    cases h
    refine ⟨a,ns.map V.int,e,.inl ?_,RepL.map (f:=D.int) (g:=V.int) (fun _=>rfl) ns⟩
    rcases h1 with ⟨o,h1,_⟩ | h1
    · exact .inl (.inr ⟨o,h1⟩)
    · exact .inr (G.kc a ns h1)
  | lst ys=>
    obtain ⟨a,vs,e,h1,h2⟩:=Zai G r (show ZaV θ (.lst ys)=some xs from h)
    exact ⟨a,vs,e,.inl (SqL.of h1),h2⟩
  | ref l=>
    obtain ⟨a,vs,e,h1,h2⟩:=Zai G r (show ZaV θ (.ref l)=some xs from h)
    exact ⟨a,vs,e,.inl (SqL.of h1),h2⟩
  | _=>cases h
abbrev BIG:Nat:=100000
theorem Zat {n:Nat} (h:n≤BIG):n≤sizeLine:=Nat.le_trans h (by rw [sizeLine_eq]; decide)
def Zd (i:Nat):EM:=fun ρ θ=>match ρ[i]? with
  | some (Sl.val d)=>.ok d θ
  | _=>.bad
def mC (d:D):EM:=fun _ θ=>.ok d θ
section
variable {a b c e:Expr} {pos:Pos} {fa fb fc:EM} {ft fu:TMr}
theorem Za (i:Nat) {x:Str} {pos:Pos} (hN:X.N[i]?=some x:=by rfl) (hv:Vis X.env.scope x:=by first | exact Or.inl rfl | exact Or.inr (Or.inl rfl) | exact Or.inr (Or.inr rfl))
    (hd:(x == ("__debug__":Str))=false:=by decide) (hcd:(x == ("__classdict__":Str))=false:=by decide):ME X (.Name x pos) (Zd i):=by
  refine PE.imp (Zpt hN hv hd hcd) fun σ H Q h=>?_
  obtain ⟨B,θ,ρ,F,w⟩:=h
  unfold Zd at w
  split at w
  · rename_i d e
    obtain ⟨v,h1,h2⟩:=F.val i d e
    exact ⟨v,h1,ZO F.good h2 w⟩
  · exact w.elim
theorem Znk {d:D} {v:V} (h:PE X e (tC v)) (r:∀B H,RepV B H d v):ME X e (mC d):=by
  refine PE.imp h fun σ H Q h=>?_
  obtain ⟨B,θ,ρ,F,w⟩:=h
  exact ZO F.good (r B H) w
theorem Zh {i j pos}:ME X (.Constant (.int i) j pos) (mC (.int i)):=Znk Ztw fun _ _=>rfl
theorem ZaI {i j pos}:ME X (.Constant (.bool i) j pos) (mC (.bl i)):=Znk Zvb fun _ _=>rfl
theorem ZaM {j pos}:ME X (.Constant .none j pos) (mC .non):=Znk Ztv fun _ _=>rfl
theorem Zm {x:Str} {i:Int} (h:∃t,X.mg x=some (.int i t)) (hg:Gl X x:=by rfl) (hd:(x == ("__debug__":Str))=false:=by decide):ME X (.Name x pos) (mC (.int i)):=Znk (Zrs h hg hd) fun _ _=>rfl
theorem ZE {x:Str} {y:Str} (h:∃t,X.mg x=some (.str y t)) (hg:Gl X x:=by rfl) (hd:(x == ("__debug__":Str))=false:=by decide):ME X (.Name x pos) (mC (.str y)):=by
  obtain ⟨t,h⟩:=h
  exact Znk (Zmp hg h (v:=.str y) ⟨t,rfl⟩ hd) fun _ _=>rfl
theorem ZpW {x:Str} {n:String} {pos:Pos} (hm:X.mg x=none) (hv:bootBuiltins x=some (.type n)) (hg:Gl X x:=by rfl) (hn:x≠"__name__":=by decide) (hd:(x == ("__debug__":Str))=false:=by decide):ME X (.Name x pos) (mC (.ty n)):=
  Znk (Zu6 hm hv hg hn hd) fun _ _=>rfl
abbrev OM:=D→D→Sto→R D
def mOp (g:OM) (fa fb:EM):EM:=fun ρ θ=>(fa ρ θ).bind fun x θ=>(fb ρ θ).bind fun y θ=>g x y θ
def rM (X:Cx) (g:OM):R2:=fun x y H Q=>∃σ B θ d e,Good X.cl B θ H∧RepV B H d x∧RepV B H e y∧wpR X σ RepV B H (g d e θ) Q
theorem Zmf {g:OM} (σ:St) (H:Hp) (Q:VK) (h:tM X (mOp g fa fb) σ H Q):tOp (rM X g) (tM X fa) (tM X fb) σ H Q:=by
  obtain ⟨B,θ,ρ,F,w⟩:=h
  refine Z9 (step F w) ?_
  rintro x' H1 ⟨B1,θ1,x,E1,F1,rx,w1⟩
  refine Z9 (step F1 w1) ?_
  rintro y' H2 ⟨B2,θ2,y,E2,F2,ry,w2⟩
  exact ⟨σ,B2,θ2,x,y,F2.good,rx.ext E2.toExtS,ry,w2⟩
theorem Zs {op:Operator} {g:OM} (ho:OpR X (binaryOp op) (rM X g)) (ha:ME X a fa) (hb:ME X b fb):ME X (.BinOp a op b pos) (mOp g fa fb):=PE.imp (Zu8 ho ha hb) Zmf
theorem zQ {op:CmpOp} {g:OM} (ho:OpR X (compareOp op) (rM X g)) (ha:ME X a fa) (hb:ME X b fb) (hm:behindInMarks op b=false:=by first | exact ZpN _ | rfl):ME X (.Compare a [op] [b] pos) (mOp g fa fb):=PE.imp (Zrt ho ha hb hm) Zmf
theorem ZA {g:OM} (hr:IxR X (rM X g)) (ha:ME X a fa) (hb:ME X b fb) (hs:ZmY b:=by intro _ _; rfl):ME X (.Subscript a b pos) (mOp g fa fb):=PE.imp (Zva hr ha hb hs) Zmf
def ZG (f:EM):TMr:=fun ρ θ=>(f ρ θ).bind fun x θ=>match x with
  | .bl k=>.ok k θ
  | _=>.bad
theorem Zhb {f:EM} (σ:St) (H:Hp) (Q:Bool→Hp→Prop) (h:tMT X (ZG f) σ H Q):tM X f σ H (fun v H1=>∃k,v=.bl k∧Q k H1):=by
  obtain ⟨B,θ,ρ,F,w⟩:=h
  refine Z9 (step F w) ?_
  rintro v H1 ⟨B1,θ1,x,E1,F1,rx,w1⟩
  cases x with
  | bl k=>exact ⟨k,rx,ZO (Rel:=EqB) F1.good rfl w1⟩
  | _=>exact w1.elim
theorem ZC {op:CmpOp} {g:OM} (ho:OpR X (compareOp op) (rM X g)) (ha:ME X a fa) (hb:ME X b fb) (hm:behindInMarks op b=false:=by first | exact ZpN _ | rfl):MT X (.Compare a [op] [b] pos) (ZG (mOp g fa fb)):=by
  refine PT.imp (Zrh ho ha hb hm) fun σ H Q h=>?_
  have q:=Zhb σ H Q h
  exact Zmf σ H _ q
def Zc5 (g g':OM) (fa fb fc:EM):EM:=fun ρ θ=>(fa ρ θ).bind fun x θ=>(fb ρ θ).bind fun y θ=>(g x y θ).bind fun z θ=>match z with
  | .bl true=>(fc ρ θ).bind fun w θ=>g' y w θ
  | .bl false=>.ok (.bl false) θ
  | _=>.bad
theorem ZkE {g g':OM} (σ:St) (H:Hp) (Q:VK) (h:tM X (Zc5 g g' fa fb fc) σ H Q):ZlF (rM X g) (rM X g') (tM X fa) (tM X fb) (tM X fc) σ H Q:=by
  obtain ⟨B,θ,ρ,F,w⟩:=h
  refine Z9 (step F w) ?_
  rintro x' H1 ⟨B1,θ1,x,E1,F1,rx,w1⟩
  refine Z9 (step F1 w1) ?_
  rintro y' H2 ⟨B2,θ2,y,E2,F2,ry,w2⟩
  refine ⟨σ,B2,θ2,x,y,F2.good,rx.ext E2.toExtS,ry,(wpR.bind (Rel:=RepV) w2).mono ?_⟩
  rintro z' H3 ⟨B3,θ3,z,E3,G3,rz,w3⟩
  have F3:=F2.ext E3 G3
  cases z with
  | bl k=>
    refine ⟨k,rz,?_⟩
    cases k with
    | true=>
      rw [if_pos rfl]
      refine Z9 (step F3 w3) ?_
      rintro w' H4 ⟨B4,θ4,u,E4,F4,ru,w4⟩
      exact ⟨σ,B4,θ4,y,u,F4.good,ry.ext (E3.trans E4).toExtS,ru,w4⟩
    | false=>
      rw [if_neg Bool.false_ne_true]
      exact ZO G3 (show RepV B3 H3 (.bl false) (.bl false) from rfl) w3
  | _=>exact w3.elim
theorem ZeC {op op':CmpOp} {g g':OM} (ho:OpR X (compareOp op) (rM X g)) (ho':OpR X (compareOp op') (rM X g')) (ha:ME X a fa) (hb:ME X b fb) (hc:ME X c fc)
    (hm:lastMarks [op,op'] [b,c]=false:=by with_unfolding_all rfl):ME X (.Compare a [op,op'] [b,c] pos) (Zc5 g g' fa fb fc):=PE.imp (ZpB ho ho' ha hb hc hm) ZkE
theorem ZpT {op op':CmpOp} {g g':OM} (ho:OpR X (compareOp op) (rM X g)) (ho':OpR X (compareOp op') (rM X g')) (ha:ME X a fa) (hb:ME X b fb) (hc:ME X c fc)
    (hm:lastMarks [op,op'] [b,c]=false:=by with_unfolding_all rfl):MT X (.Compare a [op,op'] [b,c] pos) (ZG (Zc5 g g' fa fb fc)):=by
  refine PT.imp (Zpl ho ho' ha hb hc hm) fun σ H Q h=>?_
  have q:=Zhb σ H Q h
  exact ZkE σ H _ q
def Zfu (θ:Sto):D→Option Bool
  | .non=>some false
  | .bl b=>some b
  | .int i=>some (i != 0)
  | .str x=>if x.length≤BIG then some ((x.length:Int) != 0) else none
  | d=>(seqOf θ d).map fun xs=>!xs.isEmpty
def zT (f:EM):TMr:=fun ρ θ=>(f ρ θ).bind fun x θ=>match Zfu θ x with
  | some k=>.ok k θ
  | none=>.bad
theorem RepL.emp {B:Bx} {H:Hp} {xs:List D} {vs:List V} (r:RepL B H xs vs):vs.isEmpty=xs.isEmpty:=by
  cases xs with
  | nil=>cases (show vs=[] from r); rfl
  | cons _ _=>obtain ⟨v,q,rfl,_,_⟩:=r; rfl
theorem Zma {cl:Mo} {B:Bx} {θ:Sto} {H:Hp} (G:Good cl B θ H) {d:D} {v:V} {k:Bool} (r:RepV B H d v) (h:Zfu θ d=some k):TruV cl.K v H k:=by
  have sq:∀xs,seqOf θ d=some xs→((seqOf θ d).map fun xs=>!xs.isEmpty)=some k→TruV cl.K v H k:=fun xs e q=>by
    rw [e] at q
    cases q
    obtain ⟨a,vs,rfl,h1,h2⟩:=ZcY G r e
    show TruV cl.K (V.ref a) H (!xs.isEmpty)
    rw [←h2.emp]
    rcases h1 with h1 | h1
    · exact .inl ⟨vs,h1,rfl⟩
    · exact .inr (.inl ⟨vs,h1,rfl⟩)
  cases d with
  | non=>cases (show v=.non from r); cases h; rfl
  | bl b=>cases (show v=.bl b from r); cases h; rfl
  | int i=>cases (show v=.int i from r); cases h; rfl
  | str x=>
    cases (show v=.str x from r)
    simp only [Zfu] at h
    split at h
    · rename_i hz; cases h; exact ⟨Zat hz,rfl⟩
    · cases h
  | ty n=>simp [Zfu,seqOf,ZaV] at h
  | scr ns=>exact sq _ rfl h
  | tup xs=>exact sq _ rfl h
  | lst xs=>exact sq _ rfl h
  | ref l=>
    cases e:seqOf θ (.ref l) with
    | none=>simp only [Zfu,e] at h; cases h
    | some xs=>exact sq xs e h
theorem ZD (ha:ME X a fa) (he:∀whole,isTrue a X.env whole=(do let v ←whole; standAt a.pos; holding [v] (truthy v)):=by intro _; rfl):MT X a (zT fa):=by
  refine PT.imp (Zpk ha he) fun σ H Q h=>?_
  obtain ⟨B,θ,ρ,F,w⟩:=h
  refine Z9 (step F w) ?_
  rintro v H1 ⟨B1,θ1,x,E1,F1,rx,w1⟩
  cases e:Zfu θ1 x with
  | none=>rw [e] at w1; exact w1.elim
  | some k=>rw [e] at w1; exact ⟨k,Zma F1.good rx e,ZO (Rel:=EqB) F1.good rfl w1⟩
def ZeE (f g:TMr):TMr:=fun ρ θ=>(f ρ θ).bind fun k θ=>if k=true then g ρ θ else .ok false θ
def mOr (f g:TMr):TMr:=fun ρ θ=>(f ρ θ).bind fun k θ=>if k=true then .ok true θ else g ρ θ
def Zd3 (f:TMr):TMr:=fun ρ θ=>(f ρ θ).bind fun k θ=>.ok (!k) θ
theorem zX (ha:MT X a ft):MW X (.BoolOp .And [a] pos) ft:=Zrf ha
theorem zV (ha:MT X a ft):MW X (.BoolOp .Or [a] pos) ft:=Zti ha
theorem Zb1 {rest:List Expr} (ha:MT X a ft) (hb:MW X (.BoolOp .And (b::rest) pos) fu):MW X (.BoolOp .And (a::b::rest) pos) (ZeE ft fu):=by
  refine PW.imp (Ztj ha hb) fun σ H Q h=>?_
  obtain ⟨B,θ,ρ,F,w⟩:=h
  refine ZdB (Zmh F w) ?_
  rintro k H1 ⟨B1,θ1,E1,F1,w1⟩
  cases k with
  | true=>rw [if_pos rfl] at w1 ⊢; exact ⟨B1,θ1,ρ,F1,w1⟩
  | false=>rw [if_neg Bool.false_ne_true] at w1 ⊢; exact ZO (Rel:=EqB) F1.good rfl w1
theorem Zcd {rest:List Expr} (ha:MT X a ft) (hb:MW X (.BoolOp .Or (b::rest) pos) fu):MW X (.BoolOp .Or (a::b::rest) pos) (mOr ft fu):=by
  refine PW.imp (Zu1 ha hb) fun σ H Q h=>?_
  obtain ⟨B,θ,ρ,F,w⟩:=h
  refine ZdB (Zmh F w) ?_
  rintro k H1 ⟨B1,θ1,E1,F1,w1⟩
  cases k with
  | true=>rw [if_pos rfl] at w1 ⊢; exact ZO (Rel:=EqB) F1.good rfl w1
  | false=>rw [if_neg Bool.false_ne_true] at w1 ⊢; exact ⟨B1,θ1,ρ,F1,w1⟩
theorem MW.mt {e:Expr} {f:TMr} (h:MW X e f):MT X e f:=PW.pt h
theorem Zbl (ha:MT X a ft):MT X (.UnaryOp .Not a pos) (Zd3 ft):=by
  refine PT.imp (Ztl ha) fun σ H Q h=>?_
  obtain ⟨B,θ,ρ,F,w⟩:=h
  refine ZdB (Zmh F w) ?_
  rintro k H1 ⟨B1,θ1,E1,F1,w1⟩
  exact ZO (Rel:=EqB) F1.good rfl w1
def Zcw (f g:EM):EM:=fun ρ θ=>(f ρ θ).bind fun x θ=>match x with
  | .bl true=>g ρ θ
  | .bl false=>.ok (.bl false) θ
  | _=>.bad
def Zk0 (f g:EM):EM:=fun ρ θ=>(f ρ θ).bind fun x θ=>match x with
  | .bl true=>.ok (.bl true) θ
  | .bl false=>g ρ θ
  | _=>.bad
def ZmB (f:EM):EM:=fun ρ θ=>(f ρ θ).bind fun x θ=>match Zfu θ x with
  | some k=>.ok (.bl (!k)) θ
  | none=>.bad
theorem ZcD {op} (h:ME X a fa):ME X (.BoolOp op [a] pos) fa:=Ztu h
theorem ZbO {rest:List Expr} (ha:ME X a fa) (hb:ME X (.BoolOp .And (b::rest) pos) fb):ME X (.BoolOp .And (a::b::rest) pos) (Zcw fa fb):=by
  refine PE.imp (Zty ha hb) fun σ H Q h=>?_
  obtain ⟨B,θ,ρ,F,w⟩:=h
  refine Z9 (step F w) ?_
  rintro v H1 ⟨B1,θ1,x,E1,F1,rx,w1⟩
  cases x with
  | bl k=>
    refine ⟨k,rx,?_⟩
    cases k with
    | true=>rw [if_pos rfl]; exact ⟨B1,θ1,ρ,F1,w1⟩
    | false=>rw [if_neg Bool.false_ne_true]; exact ZO F1.good (show RepV B1 H1 (.bl false) (.bl false) from rfl) w1
  | _=>exact w1.elim
theorem ZkY {rest:List Expr} (ha:ME X a fa) (hb:ME X (.BoolOp .Or (b::rest) pos) fb):ME X (.BoolOp .Or (a::b::rest) pos) (Zk0 fa fb):=by
  refine PE.imp (Zu7 ha hb) fun σ H Q h=>?_
  obtain ⟨B,θ,ρ,F,w⟩:=h
  refine Z9 (step F w) ?_
  rintro v H1 ⟨B1,θ1,x,E1,F1,rx,w1⟩
  cases x with
  | bl k=>
    refine ⟨k,rx,?_⟩
    cases k with
    | true=>rw [if_pos rfl]; exact ZO F1.good (show RepV B1 H1 (.bl true) (.bl true) from rfl) w1
    | false=>rw [if_neg Bool.false_ne_true]; exact ⟨B1,θ1,ρ,F1,w1⟩
  | _=>exact w1.elim
theorem ZpX (ha:ME X a fa):ME X (.UnaryOp .Not a pos) (ZmB fa):=by
  intro pins s σ H Q I h
  obtain ⟨B,θ,ρ,F,w⟩:=h
  refine UnaryOp_ (thn (ha pins s σ H _ I (step F w)) fun v s1 ⟨x,H1,I1,r1,q1⟩=>?_)
  obtain ⟨B1,θ1,d,E1,F1,rx,w1⟩:=q1
  cases e:Zfu θ1 d with
  | none=>rw [e] at w1; exact w1.elim
  | some k=>
    rw [e] at w1
    refine not_of (thn (Zo6 pins s1 σ H1 x v (fun k' H'=>Q (.bl (!k')) H') I1 r1 ⟨k,Zma F1.good rx e,ZO F1.good (show RepV B1 H1 (.bl (!k)) (.bl (!k)) from rfl) w1⟩) fun b s2 ⟨H2,I2,q2⟩=>?_)
    exact ⟨.bl (!b),H2,I2,rfl,q2⟩
def ZfK (t:TMr) (f g:EM):EM:=fun ρ θ=>(t ρ θ).bind fun k θ=>if k=true then f ρ θ else g ρ θ
theorem ZcE {c:Expr} (hc:MT X c ft) (ha:ME X a fa) (hb:ME X b fb):ME X (.IfExp c a b pos) (ZfK ft fa fb):=by
  refine PE.imp (Zpx hc ha hb) fun σ H Q h=>?_
  obtain ⟨B,θ,ρ,F,w⟩:=h
  refine ZdB (Zmh F w) ?_
  rintro k H1 ⟨B1,θ1,E1,F1,w1⟩
  cases k with
  | true=>rw [if_pos rfl] at w1 ⊢; exact ⟨B1,θ1,ρ,F1,w1⟩
  | false=>rw [if_neg Bool.false_ne_true] at w1 ⊢; exact ⟨B1,θ1,ρ,F1,w1⟩
def Zk:AM:=fun _ θ=>.ok [] θ
def Zc (f:EM) (g:AM):AM:=fun ρ θ=>(f ρ θ).bind fun x θ=>(g ρ θ).bind fun xs θ=>.ok (x::xs) θ
theorem Zf:MA X [] Zk:=PA.imp ZlL fun σ H Q h=>by
  obtain ⟨B,θ,ρ,F,w⟩:=h
  exact ZO (Rel:=RepL) F.good (show RepL B H [] [] from rfl) w
theorem Zb {es:List Expr} {fs:AM} (ha:ME X e fa) (hr:MA X es fs) (hs:starEach (e::es) X.env=(false,eval e X.env)::starEach es X.env:=by rfl):MA X (e::es) (Zc fa fs):=by
  refine PA.imp (ZiR ha hr hs) fun σ H Q h=>?_
  obtain ⟨B,θ,ρ,F,w⟩:=h
  refine Z9 (step F w) ?_
  rintro x' H1 ⟨B1,θ1,x,E1,F1,rx,w1⟩
  refine ZbZ (Zhd F1 w1) ?_
  rintro xs' H2 ⟨B2,θ2,xs,E2,F2,rxs,w2⟩
  exact ZO (Rel:=RepL) F2.good (show RepL B2 H2 (x::xs) (x'::xs') from ⟨x',xs',rfl,rx.ext E2.toExtS,rxs⟩) w2
def Zbe (f:AM):EM:=fun ρ θ=>(f ρ θ).bind fun xs θ=>if xs.length≤BIG then .ok (.tup xs) θ else .bad
def Zcl (f:AM):EM:=fun ρ θ=>(f ρ θ).bind fun xs θ=>if xs.length≤BIG then .ok (.lst xs) θ else .bad
theorem Zg4 {σ:St} {B:Bx} {θ:Sto} {H:Hp} {xs:List D} {vs:List V} {Q:VK} (G:Good X.cl B θ H) (r:RepL B H xs vs) (w:wpR X σ RepV B H (.ok (.tup xs) θ) Q):∀p,H p=none→Q (.ref p) (upd H p (.tup vs)):=
  fun p hp=>w B _ _ (ZcP G hp _) (ZeH G hp _) (Zrb G hp r)
theorem Zfh {σ:St} {B:Bx} {θ:Sto} {H:Hp} {xs:List D} {vs:List V} {Q:VK} (G:Good X.cl B θ H) (r:RepL B H xs vs) (w:wpR X σ RepV B H (.ok (.lst xs) θ) Q):∀p,H p=none→Q (.ref p) (upd H p (.lst vs)):=
  fun p hp=>w B _ _ (ZcP G hp _) (ZeH G hp _) (Zrc G hp r)
theorem zm {es:List Expr} {fs:AM} {x1} (h:MA X es fs):ME X (.Tuple es x1 pos) (Zbe fs):=by
  refine PE.imp (Ztt h) fun σ H Q h=>?_
  obtain ⟨B,θ,ρ,F,w⟩:=h
  refine ZbZ (Zhd F w) ?_
  rintro xs' H2 ⟨B2,θ2,xs,E2,F2,rxs,w2⟩
  split at w2
  · rename_i hz
    exact ⟨by rw [rxs.len]; exact Zat hz,Zg4 F2.good rxs w2⟩
  · exact w2.elim
theorem ZaF {es:List Expr} {fs:AM} (h:MA X es fs):ME X (.List es pos) (Zcl fs):=by
  refine PE.imp (Zpw h) fun σ H Q h=>?_
  obtain ⟨B,θ,ρ,F,w⟩:=h
  refine ZbZ (Zhd F w) ?_
  rintro xs' H2 ⟨B2,θ2,xs,E2,F2,rxs,w2⟩
  split at w2
  · rename_i hz
    exact ⟨by rw [rxs.len]; exact Zat hz,Zfh F2.good rxs w2⟩
  · exact w2.elim
abbrev GM:=List D→Sto→R D
def mCB (g:GM) (f:AM):EM:=fun ρ θ=>(f ρ θ).bind fun xs θ=>g xs θ
def rC (X:Cx) (g:GM):List V→Hp→VK→Prop:=fun xs H Q=>∃σ B θ ds,Good X.cl B θ H∧RepL B H ds xs∧wpR X σ RepV B H (g ds θ) Q
theorem Zsk {g:GM} {fs:AM} (σ:St) (H:Hp) (Q:VK) (h:tM X (mCB g fs) σ H Q):tCB (rC X g) (tMA X fs) σ H Q:=by
  obtain ⟨B,θ,ρ,F,w⟩:=h
  refine ZbZ (Zhd F w) ?_
  rintro xs' H2 ⟨B2,θ2,xs,E2,F2,rxs,w2⟩
  exact ⟨σ,B2,θ2,xs,F2.good,rxs,w2⟩
theorem ZY {x:Str} {id:String} {p:Pos} {es:List Expr} {fs:AM} {g:GM} (hc:CallR X (.builtin id) (rC X g)) (hm:X.mg x=none) (hv:bootBuiltins x=some (.builtin id)) (ha:MA X (e::es) fs) (hg:Gl X x:=by rfl) (hn:x≠"__name__":=by decide) (hdb:(x == ("__debug__":Str))=false:=by decide)
    (he:starEach (e::es) X.env=(false,eval e X.env)::starEach es X.env:=by rfl) (hpl:(backTo pos (starEach es X.env)).any (·.1)=false:=by rfl):ME X (.Call (.Name x p) (e::es) [] pos) (mCB g fs):=
  PE.imp (ZpD hc hg hm hv ha hn hdb he hpl) Zsk
theorem ZbV {x:Str} {T:String} {p:Pos} {es:List Expr} {fs:AM} {g:GM} (hc:CallR X (.type T) (rC X g)) (hm:X.mg x=none) (hv:bootBuiltins x=some (.type T)) (ha:MA X (e::es) fs) (hg:Gl X x:=by rfl) (hn:x≠"__name__":=by decide) (hdb:(x == ("__debug__":Str))=false:=by decide)
    (he:starEach (e::es) X.env=(false,eval e X.env)::starEach es X.env:=by rfl) (hpl:(backTo pos (starEach es X.env)).any (·.1)=false:=by rfl):ME X (.Call (.Name x p) (e::es) [] pos) (mCB g fs):=
  PE.imp (Zng hc hg hm hv ha hn hdb he hpl) Zsk
end
end
end L2.MM
namespace L2.MM
open PySem PySem.Spec PyProof.Rows PySem.SeqAt
noncomputable section
variable {X:Cx}
section
open Classical in
def opI (C:Int→Int→Prop) (g:Int→Int→D):OM:=fun x y θ=>match x,y with
  | .int i,.int j=>if C i j then .ok (g i j) θ else .bad
  | _,_=>.bad
open Classical in
@[simp] theorem Zmq (C:Int→Int→Prop) (g:Int→Int→D) (i j:Int) (θ:Sto):opI C g (.int i) (.int j) θ=if C i j then .ok (g i j) θ else .bad:=nr rfl
open Classical in
theorem ZeA {f:Value→Value→Sem Value} {C:Int→Int→Prop} {g:Int→Int→D} {gV:Int→Int→V} (h:OpR X f (rI C gV)) (r:∀B H i j,RepV B H (g i j) (gV i j)):OpR X f (rM X (opI C g)):=by
  refine OpR.imp h fun x y H Q q=>?_
  obtain ⟨σ,B,θ,d,e,G,rd,re,w⟩:=q
  unfold opI at w
  split at w
  · rename_i i j
    split at w
    · rename_i hc
      exact ⟨i,j,rd,re,hc,ZO G (r B H i j) w⟩
    · exact w.elim
  · exact w.elim
theorem Zif {f:Value→Value→Sem Value} {g:Int→Int→V} (h:OpR X f (rI0 g)):OpR X f (rI (fun _ _=>True) g):=OpR.imp h fun x y H Q ⟨i,j,a,b,_,q⟩=>⟨i,j,a,b,q⟩
abbrev Ze9:OM:=opI (fun _ _=>True) fun i j=>.int (i-j)
abbrev Zfo:OM:=opI (fun _ j=>0<j∧j<18446744073709551616) fun i j=>.int (i/j)
abbrev ZaZ:OM:=opI (fun _ j=>0<j) fun i j=>.int (i % j)
abbrev ZvL:OM:=opI (fun _ _=>True) fun i j=>.int (Builtin.bitAnd i j)
abbrev ltM:OM:=opI (fun _ _=>True) fun i j=>.bl (decide (i<j))
abbrev leM:OM:=opI (fun _ _=>True) fun i j=>.bl (decide (i≤j))
abbrev gtM:OM:=opI (fun _ _=>True) fun i j=>.bl (decide (j<i))
abbrev geM:OM:=opI (fun _ _=>True) fun i j=>.bl (decide (j≤i))
theorem Zdi:OpR X (binaryOp .Sub) (rM X Ze9):=ZeA (Zif ZtA) fun _ _ _ _=>rfl
theorem Zek:OpR X (binaryOp .FloorDiv) (rM X Zfo):=ZeA (OpR.imp ZpF fun x y H Q ⟨i,j,a,b,c,q⟩=>⟨i,j,a,b,⟨c.1,by
  have h:j.natAbs<2 ^ 64:=by have:=c.1; have:=c.2; omega
  have h0:j.natAbs≠0:=by have:=c.1; omega
  have:=(Nat.log2_lt h0).mpr h
  omega⟩,q⟩) fun _ _ _ _=>rfl
theorem Zaq:OpR X (binaryOp .Mod) (rM X ZaZ):=ZeA ZtD fun _ _ _ _=>rfl
theorem Zvk:OpR X (binaryOp .BitAnd) (rM X ZvL):=ZeA (Zif ZtH) fun _ _ _ _=>rfl
theorem ZkS:OpR X (compareOp .Lt) (rM X ltM):=ZeA (Zif Zvg) fun _ _ i j=>by show _=V.bl _; congr
theorem Zhk:OpR X (compareOp .LtE) (rM X leM):=ZeA (Zif Zvh) fun _ _ i j=>by show _=V.bl _; congr
theorem Zgb:OpR X (compareOp .Gt) (rM X gtM):=ZeA (Zif Zvi) fun _ _ i j=>by show _=V.bl _; congr
theorem ZlN:OpR X (compareOp .GtE) (rM X geM):=ZeA (Zif Zvj) fun _ _ i j=>by show _=V.bl _; congr
def ZL:OM:=fun x y θ=>match x,y with
  | .int i,.int j=>.ok (.int (i+j)) θ
  | .str i,.str j=>if i.length+j.length≤BIG then .ok (.str (i++j)) θ else .bad
  | .tup xs,.tup ys=>if xs.isEmpty=false∧xs.length+ys.length≤BIG then .ok (.tup (xs++ys)) θ else .bad
  | x,y=>match ZaV θ x,ZaV θ y with
    | some xs,some ys=>if xs.length+ys.length≤BIG then .ok (.lst (xs++ys)) θ else .bad
    | _,_=>.bad
@[simp] theorem ZqL (i j:Int) (θ:Sto):ZL (.int i) (.int j) θ=.ok (.int (i+j)) θ:=nr rfl
@[simp] theorem ZqK (xs ys:List D) (θ:Sto):ZL (.lst xs) (.lst ys) θ=if xs.length+ys.length≤BIG then .ok (.lst (xs++ys)) θ else .bad:=nr rfl
@[simp] theorem ZvM (xs ys:List D) (θ:Sto):ZL (.tup xs) (.tup ys) θ=if xs.isEmpty=false∧xs.length+ys.length≤BIG then .ok (.tup (xs++ys)) θ else .bad:=nr rfl
theorem ZJ:OpR X (binaryOp .Add) (rM X ZL):=by
  refine OpR.imp (op_add.or (op_add_str.or (op_catT.or ZtG))) fun x y H Q q=>?_
  obtain ⟨σ,B,θ,d,e,G,rd,re,w⟩:=q
  unfold ZL at w
  split at w
  · exact .inl ⟨_,_,rd,re,ZO G (show RepV B H (.int _) (.int _) from rfl) w⟩
  · split at w
    · rename_i hz
      exact .inr (.inl ⟨_,_,rd,re,Zat hz,ZO G (show RepV B H (.str _) (.str _) from rfl) w⟩)
    · exact w.elim
  · split at w
    · rename_i xs ys hz
      obtain ⟨a,vs,rfl,h1,k1,l1⟩:=rd
      obtain ⟨b,us,rfl,h2,k2,l2⟩:=re
      refine .inr (.inr (.inl ⟨a,b,vs,us,rfl,rfl,SqT.of h1,SqT.of h2,?_,?_,fun z=>?_,fun _=>Zg4 G (l1.app l2) w⟩))
      · intro z
        have:=l1.emp
        rw [z,hz.1] at this
        simp at this
      · rw [l1.len,l2.len]; exact Zat hz.2
      · have e0:ys=[]:=by
          have:=l2.emp
          rw [z] at this
          cases ys with
          | nil=>rfl
          | cons _ _=>simp at this
        subst e0
        rw [List.append_nil] at w
        exact ZO G (show RepV B H (.tup xs) (.ref a) from ⟨a,vs,rfl,h1,k1,l1⟩) w
    · exact w.elim
  · split at w
    · rename_i xs ys e1 e2
      split at w
      · rename_i hz
        obtain ⟨a,vs,rfl,h1,l1⟩:=Zai G rd e1
        obtain ⟨b,us,rfl,h2,l2⟩:=Zai G re e2
        exact .inr (.inr (.inr ⟨a,b,vs,us,rfl,rfl,h1,h2,by rw [l1.len,l2.len]; exact Zat hz,Zfh G (l1.app l2) w⟩))
      · exact w.elim
    · exact w.elim
def ZeX (i j:Int):Prop:=(-18446744073709551616<i∧i<18446744073709551616)∨(-18446744073709551616<j∧j<18446744073709551616)
instance {i j:Int}:Decidable (ZeX i j):=by unfold ZeX; infer_instance
def Zcc:OM:=fun x y θ=>match x,y with
  | .int i,.int j=>if ZeX i j then .ok (.int (i*j)) θ else .bad
  | .tup xs,.int k=>if xs.isEmpty=false∧0≤k∧k<1000∧(xs.length:Int)*k≤1000 then .ok (.tup (List.replicate k.toNat xs).flatten) θ else .bad
  | x,.int k=>match ZaV θ x with
    | some xs=>if -1000000≤k∧k≤1000000∧xs.length*k.toNat≤BIG then .ok (.lst (List.replicate k.toNat xs).flatten) θ else .bad
    | _=>.bad
  | _,_=>.bad
@[simp] theorem ZpS (i j:Int) (θ:Sto):Zcc (.int i) (.int j) θ=if ZeX i j then .ok (.int (i*j)) θ else .bad:=nr rfl
@[simp] theorem ZpR (xs:List D) (k:Int) (θ:Sto):Zcc (.lst xs) (.int k) θ=if -1000000≤k∧k≤1000000∧xs.length*k.toNat≤BIG then .ok (.lst (List.replicate k.toNat xs).flatten) θ else .bad:=nr rfl
theorem RepL.rep {B:Bx} {H:Hp} {xs:List D} {vs:List V} (r:RepL B H xs vs):∀k:Nat,RepL B H (List.replicate k xs).flatten (List.replicate k vs).flatten
  | 0=>rfl
  | k+1=>by
    rw [List.replicate_succ,List.replicate_succ,List.flatten_cons,List.flatten_cons]
    exact r.app (RepL.rep r k)
theorem Zcv:OpR X (binaryOp .Mult) (rM X Zcc):=by
  refine OpR.imp (op_mul.or (op_repT.or ZtB)) fun x y H Q q=>?_
  obtain ⟨σ,B,θ,d,e,G,rd,re,w⟩:=q
  unfold Zcc at w
  split at w
  · split at w
    · rename_i hc
      exact .inl ⟨_,_,rd,re,hc.imp (fun h=>⟨by have:=h.1; omega,by have:=h.2; omega⟩) (fun h=>⟨by have:=h.1; omega,by have:=h.2; omega⟩),ZO G (show RepV B H (.int _) (.int _) from rfl) w⟩
    · exact w.elim
  · split at w
    · rename_i xs k hz
      obtain ⟨a,vs,rfl,h1,k1,l1⟩:=rd
      obtain ⟨z1,z2,z3,z4⟩:=hz
      refine .inr (.inl ⟨a,k,vs,rfl,re,SqT.of h1,?_,z2,z3,by rw [l1.len]; exact z4,fun z=>?_,fun _=>Zg4 G (l1.rep _) w⟩)
      · intro z
        have:=l1.emp
        rw [z,z1] at this
        simp at this
      · subst z
        have e0:(List.replicate (1:Int).toNat xs).flatten=xs:=by simp
        rw [e0] at w
        exact ZO G (show RepV B H (.tup xs) (.ref a) from ⟨a,vs,rfl,h1,k1,l1⟩) w
    · exact w.elim
  · split at w
    · rename_i xs e1
      split at w
      · rename_i hz
        obtain ⟨a,vs,rfl,h1,l1⟩:=Zai G rd e1
        exact .inr (.inr ⟨a,_,vs,rfl,re,h1,by have:=hz.1; omega,by have:=hz.2.1; omega,by rw [l1.len]; exact Zat hz.2.2,Zfh G (l1.rep _) w⟩)
      · exact w.elim
    · exact w.elim
  · exact w.elim
def ZrH (f:EM):EM:=fun ρ θ=>(f ρ θ).bind fun x θ=>match x with
  | .int i=>.ok (.int (-i)) θ
  | _=>.bad
theorem ZpY {a:Expr} {fa:EM} {pos:Pos} (ha:ME X a fa):ME X (.UnaryOp .USub a pos) (ZrH fa):=by
  refine PE.imp (Zu5 ZsN ha) fun σ H Q h=>?_
  obtain ⟨B,θ,ρ,F,w⟩:=h
  refine Z9 (step F w) ?_
  rintro v H1 ⟨B1,θ1,x,E1,F1,rx,w1⟩
  cases x with
  | int i=>exact ⟨i,rx,ZO F1.good (show RepV B1 H1 (.int (-i)) (.int (-i)) from rfl) w1⟩
  | _=>exact w1.elim
mutual
def dat:D→PyData
  | .bl b=>.bool b
  | .int i=>.int i
  | .str x=>.str x
  | .tup xs=>.tuple (ZeI xs)
  | .lst xs=>.list (ZeI xs)
  | _=>.none
def ZeI:List D→List PyData
  | []=>[]
  | d::r=>dat d::ZeI r
end
mutual
def plain:D→Bool
  | .non=>true
  | .bl _=>true
  | .int _=>true
  | .str _=>true
  | .tup xs=>Zb0 xs
  | .lst xs=>Zb0 xs
  | _=>false
def Zb0:List D→Bool
  | []=>true
  | d::r=>plain d && Zb0 r
end
mutual
theorem rdv {B:Bx} {H:Hp} {K:PySem.W.Frag}:∀{d:D} {v:V},plain d=true→RepV B H d v→RdV K H v (dat d)
  | .non,_,_,r=>by cases (show _=V.non from r); exact .non
  | .bl b,_,_,r=>by cases (show _=V.bl b from r); exact .bl b
  | .int i,_,_,r=>by cases (show _=V.int i from r); exact .int i
  | .str x,_,_,r=>by cases (show _=V.str x from r); exact .str x
  | .tup xs,_,p,r=>by
    obtain ⟨a,vs,rfl,h,_,l⟩:=r
    exact .tup (SqT.of h) (Zrd p l)
  | .lst xs,_,p,r=>by
    obtain ⟨a,vs,rfl,h,_,l⟩:=r
    exact .lst (SqL.of h) (Zrd p l)
  | .ty _,_,p,_=>nomatch p
  | .scr _,_,p,_=>nomatch p
  | .ref _,_,p,_=>nomatch p
theorem Zrd {B:Bx} {H:Hp} {K:PySem.W.Frag}:∀{ds:List D} {vs:List V},Zb0 ds=true→RepL B H ds vs→RdVs K H vs (ZeI ds)
  | [],_,_,r=>by cases (show _=[] from r); exact .nil
  | d::ds,_,p,r=>by
    obtain ⟨v,q,rfl,hv,hq⟩:=r
    have p':plain d=true∧Zb0 ds=true:=by simpa [Zb0] using p
    exact .cons (rdv p'.1 hv) (Zrd p'.2 hq)
end
mutual
theorem ZkI:∀{d e:D},plain d=true→plain e=true→(same (dat d) (dat e)=true↔d=e):=fun {d e} p q=>by
  cases d with
  | ty _=>exact nomatch p
  | scr _=>exact nomatch p
  | ref _=>exact nomatch p
  | non=>cases e<;>simp_all [plain,dat,same]
  | bl _=>cases e<;>simp_all [plain,dat,same]
  | int _=>cases e<;>simp_all [plain,dat,same]
  | str _=>cases e<;>simp_all [plain,dat,same]
  | tup xs=>
    cases e with
    | tup ys=>
      simp only [dat,same,D.tup.injEq]
      exact Zf8 p q
    | ty _=>exact nomatch q
    | scr _=>exact nomatch q
    | ref _=>exact nomatch q
    | _=>simp [dat,same]
  | lst xs=>
    cases e with
    | lst ys=>
      simp only [dat,same,D.lst.injEq]
      exact Zf8 p q
    | ty _=>exact nomatch q
    | scr _=>exact nomatch q
    | ref _=>exact nomatch q
    | _=>simp [dat,same]
theorem Zf8:∀{ds es:List D},Zb0 ds=true→Zb0 es=true→(sameAll (ZeI ds) (ZeI es)=true↔ds=es)
  | [],[],_,_=>by simp [ZeI,sameAll]
  | [],_::_,_,_=>by simp [ZeI,sameAll]
  | _::_,[],_,_=>by simp [ZeI,sameAll]
  | d::ds,e::es,p,q=>by
    have p':plain d=true∧Zb0 ds=true:=by simpa [Zb0] using p
    have q':plain e=true∧Zb0 es=true:=by simpa [Zb0] using q
    simp only [ZeI,sameAll,Bool.and_eq_true,List.cons.injEq]
    rw [ZkI p'.1 q'.1,Zf8 p'.2 q'.2]
end
def look (θ:Sto) (d:D):D:=match d with
  | .ref l=>match θ[l]? with
    | some (.lst xs)=>.lst xs
    | _=>.ref l
  | d=>d
theorem ZfL {B:Bx} {θ:Sto} {H:Hp} {K:PySem.W.Frag} (G:Good X.cl B θ H) {d:D} {v:V} (r:RepV B H d v) (p:plain (look θ d)=true):RdV K H v (dat (look θ d)):=by
  cases d with
  | ref l=>
    unfold look at p ⊢
    simp only at p ⊢
    split at p
    · rename_i xs e
      obtain ⟨hl,rfl⟩:=r
      obtain ⟨vs,h1,h2⟩:=G.cel l _ e
      exact .lst (SqL.of h1) (Zrd p h2)
    · exact nomatch p
  | _=>exact rdv p r
structure Zly (x y:D):Prop where
  px:plain x=true
  py:plain y=true
  sx:shaped (dat x)=true
  sy:shaped (dat y)=true
  nm:noMix (dat x) (dat y)=true
open Classical in
def eqM:OM:=fun x y θ=>if Zly (look θ x) (look θ y) then .ok (.bl (decide (look θ x=look θ y))) θ else .bad
open Classical in
def neM:OM:=fun x y θ=>if Zly (look θ x) (look θ y) then .ok (.bl (!decide (look θ x=look θ y))) θ else .bad
open Classical in
theorem ZkJ {d e:D} (p:plain d=true) (q:plain e=true):same (dat d) (dat e)=decide (d=e):=by
  rw [Bool.eq_iff_iff,ZkI p q,decide_eq_true_iff]
open Classical in
theorem Zam (hu:X.A.units+64<cLine):OpR X (compareOp .Eq) (rM X eqM):=by
  refine OpR.imp (ZtF hu) fun x y H Q q=>?_
  obtain ⟨σ,B,θ,d,e,G,rd,re,w⟩:=q
  unfold eqM at w
  split at w
  · rename_i c
    refine ⟨_,_,ZfL G rd c.px,ZfL G re c.py,c.sx,c.sy,c.nm,?_⟩
    rw [ZkJ c.px c.py]
    exact ZO G (show RepV B H (.bl _) (.bl _) from rfl) w
  · exact w.elim
open Classical in
theorem Zfj (hu:X.A.units+64<cLine):OpR X (compareOp .NotEq) (rM X neM):=by
  refine OpR.imp (ZtC hu) fun x y H Q q=>?_
  obtain ⟨σ,B,θ,d,e,G,rd,re,w⟩:=q
  unfold neM at w
  split at w
  · rename_i c
    refine ⟨_,_,ZfL G rd c.px,ZfL G re c.py,c.sx,c.sy,c.nm,?_⟩
    rw [ZkJ c.px c.py]
    exact ZO G (show RepV B H (.bl _) (.bl _) from rfl) w
  · exact w.elim
def Zjf:List D→Bool
  | []=>true
  | .int _::r=>Zjf r
  | _=>false
def ZhU:List D→Bool
  | []=>true
  | .str _::r=>ZhU r
  | _=>false
def memI (i:Int):List D→Bool
  | .int j::r=>decide (j=i) || memI i r
  | _=>false
def memS (x:Str):List D→Bool
  | .str y::r=>decide (y=x) || memS x r
  | _=>false
def inD (θ:Sto) (x y:D):Option Bool:=match seqOf θ y with
  | none=>none
  | some ys=>match x with
    | .int i=>if Zjf ys=true then some (memI i ys) else none
    | .str z=>if ZhU ys=true then some (memS z ys) else none
    | _=>none
def inM:OM:=fun x y θ=>match inD θ x y with
  | some k=>.ok (.bl k) θ
  | none=>.bad
def Zc4:OM:=fun x y θ=>match inD θ x y with
  | some k=>.ok (.bl (!k)) θ
  | none=>.bad
theorem ZgL {B:Bx} {H:Hp}:∀{ys:List D} {vs:List V},Zjf ys=true→RepL B H ys vs→vs.all Zdj=true∧∀i:Int,inV (.int i) vs=memI i ys
  | [],_,_,r=>by cases (show _=[] from r); exact ⟨rfl,fun _=>rfl⟩
  | d::ys,_,h,r=>by
    cases d with
    | int j=>
      obtain ⟨v,q,rfl,hv,hq⟩:=r
      cases (show v=V.int j from hv)
      obtain ⟨h1,h2⟩:=ZgL (show Zjf ys=true from h) hq
      refine ⟨by simp [Zdj] at h1 ⊢; exact h1,fun i=>?_⟩
      have:=h2 i
      unfold inV at this ⊢
      rw [List.any_cons,this]
      show (j == i || memI i ys)=(decide (j=i) || memI i ys)
      rw [Bool.beq_eq_decide_eq]
    | _=>exact nomatch h
theorem ZgK {B:Bx} {H:Hp}:∀{ys:List D} {vs:List V},ZhU ys=true→RepL B H ys vs→vs.all Zdj=true∧∀i:Str,inV (.str i) vs=memS i ys
  | [],_,_,r=>by cases (show _=[] from r); exact ⟨rfl,fun _=>rfl⟩
  | d::ys,_,h,r=>by
    cases d with
    | str j=>
      obtain ⟨v,q,rfl,hv,hq⟩:=r
      cases (show v=V.str j from hv)
      obtain ⟨h1,h2⟩:=ZgK (show ZhU ys=true from h) hq
      refine ⟨by simp [Zdj] at h1 ⊢; exact h1,fun i=>?_⟩
      have:=h2 i
      unfold inV at this ⊢
      rw [List.any_cons,this]
      show (j == i || memS i ys)=(decide (j=i) || memS i ys)
      rw [Bool.beq_eq_decide_eq]
    | _=>exact nomatch h
theorem Zp9 {cl:Mo} {B:Bx} {θ:Sto} {H:Hp} (G:Good cl B θ H) {d e:D} {x y:V} {k:Bool} (rd:RepV B H d x) (re:RepV B H e y) (h:inD θ d e=some k) :
    ∃p xs,y=.ref p∧(SqL cl.K H p xs∨SqT cl.K H p xs)∧Zdj x=true∧xs.all Zdj=true∧inV x xs=k:=by
  unfold inD at h
  split at h
  · cases h
  · rename_i ys e1
    obtain ⟨a,vs,rfl,h1,h2⟩:=ZcY G re e1
    split at h
    · split at h
      · rename_i i hz
        cases h
        cases (show x=V.int i from rd)
        obtain ⟨q1,q2⟩:=ZgL hz h2
        exact ⟨a,vs,rfl,h1,rfl,q1,q2 i⟩
      · cases h
    · split at h
      · rename_i i hz
        cases h
        cases (show x=V.str i from rd)
        obtain ⟨q1,q2⟩:=ZgK hz h2
        exact ⟨a,vs,rfl,h1,rfl,q1,q2 i⟩
      · cases h
    · cases h
theorem ZlM:OpR X (compareOp .In) (rM X inM):=by
  refine OpR.imp Znh fun x y H Q q=>?_
  obtain ⟨σ,B,θ,d,e,G,rd,re,w⟩:=q
  unfold inM at w
  split at w
  · rename_i k e1
    obtain ⟨p,xs,h1,h2,h3,h4,h5⟩:=Zp9 G rd re e1
    exact ⟨p,xs,h1,h2,h3,h4,by rw [h5]; exact ZO G (show RepV B H (.bl _) (.bl _) from rfl) w⟩
  · exact w.elim
theorem ZiT:OpR X (compareOp .NotIn) (rM X Zc4):=by
  refine OpR.imp ZiS fun x y H Q q=>?_
  obtain ⟨σ,B,θ,d,e,G,rd,re,w⟩:=q
  unfold Zc4 at w
  split at w
  · rename_i k e1
    obtain ⟨p,xs,h1,h2,h3,h4,h5⟩:=Zp9 G rd re e1
    exact ⟨p,xs,h1,h2,h3,h4,by rw [h5]; exact ZO G (show RepV B H (.bl _) (.bl _) from rfl) w⟩
  · exact w.elim
def Zcy:D→Bool
  | .non=>true
  | _=>false
theorem Zk6 {B:Bx} {H:Hp} {d:D} {v:V} (r:RepV B H d v):Zcy d=decide (v=.non):=by
  cases d with
  | non=>cases (show v=.non from r); simp [Zcy]
  | bl b=>cases (show v=.bl b from r); simp [Zcy]
  | int i=>cases (show v=.int i from r); simp [Zcy]
  | str x=>cases (show v=.str x from r); simp [Zcy]
  | ty n=>cases (show v=.ty n from r); simp [Zcy]
  | scr ns=>obtain ⟨a,rfl,_⟩:=r; simp [Zcy]
  | tup xs=>obtain ⟨a,o,rfl,_⟩:=r; simp [Zcy]
  | lst xs=>obtain ⟨a,o,rfl,_⟩:=r; simp [Zcy]
  | ref l=>obtain ⟨_,rfl⟩:=r; simp [Zcy]
def isM:OM:=fun x y θ=>match y with
  | .non=>.ok (.bl (Zcy x)) θ
  | .bl c=>match x with
    | .bl b=>.ok (.bl (b == c)) θ
    | _=>.bad
  | _=>.bad
def ZiZ:OM:=fun x y θ=>match y with
  | .non=>.ok (.bl (!Zcy x)) θ
  | .bl c=>match x with
    | .bl b=>.ok (.bl (!(b == c))) θ
    | _=>.bad
  | _=>.bad
theorem ZtE:OpR X (compareOp .Is) (fun x y H Q=>∃b c:Bool,x=.bl b∧y=.bl c∧Q (.bl (b == c)) H):=by
  intro pins s σ H x y v u Q I rx ry h
  obtain ⟨b,c,rfl,rfl,q⟩:=h
  cases rx
  cases ry
  have e:(Value.bool b == Value.bool c)=(b == c):=by cases b<;>cases c<;>rfl
  exact wpAny_is_plain rfl ⟨.bl _,H,I,rfl,by rw [e]; exact q⟩
theorem ZrA:OpR X (compareOp .Is) (rM X isM):=by
  refine OpR.imp (op_isN.or ZtE) fun x y H Q q=>?_
  obtain ⟨σ,B,θ,d,e,G,rd,re,w⟩:=q
  unfold isM at w
  split at w
  · refine .inl ⟨re,?_⟩
    have q:=ZO G (show RepV B H (.bl _) (.bl _) from rfl) w
    rw [Zk6 rd] at q
    exact q
  · split at w
    · exact .inr ⟨_,_,rd,re,ZO G (show RepV B H (.bl _) (.bl _) from rfl) w⟩
    · exact w.elim
  · exact w.elim
theorem Zrz:OpR X (compareOp .IsNot) (rM X ZiZ):=by
  refine OpR.imp (op_notN.or Zrw) fun x y H Q q=>?_
  obtain ⟨σ,B,θ,d,e,G,rd,re,w⟩:=q
  unfold ZiZ at w
  split at w
  · refine .inl ⟨re,?_⟩
    have q:=ZO G (show RepV B H (.bl _) (.bl _) from rfl) w
    rw [Zk6 rd] at q
    exact q
  · split at w
    · exact .inr ⟨_,_,rd,re,ZO G (show RepV B H (.bl _) (.bl _) from rfl) w⟩
    · exact w.elim
  · exact w.elim
end
end
end L2.MM
namespace L2.MM
open PySem PySem.Spec PyProof.Rows PySem.SeqAt
noncomputable section
variable {X:Cx}
section
def ixD (θ:Sto) (x:D) (i:Int):Option D:=match x with
  | .str z=>if z.length≤BIG then (atI z.cps.toList i).map fun c=>.str ⟨#[c]⟩ else none
  | x=>(seqOf θ x).bind (atI · i)
def ixM:OM:=fun x y θ=>match y with
  | .int i=>match ixD θ x i with
    | some d=>.ok d θ
    | none=>.bad
  | _=>.bad
theorem RepL.atI {B:Bx} {H:Hp} {xs:List D} {vs:List V} {i:Int} {d:D} (r:RepL B H xs vs) (h:atI xs i=some d):∃v,atI vs i=some v∧RepV B H d v:=by
  unfold L2.atI at h ⊢
  rw [r.len]
  cases e:ixN xs.length i with
  | none=>rw [e] at h; cases h
  | some j=>
    rw [e] at h
    exact r.get h
theorem ZB:IxR X (rM X ixM):=by
  refine IxR.imp ZtQ fun x y H Q q=>?_
  obtain ⟨σ,B,θ,d,e,G,rd,re,w⟩:=q
  unfold ixM at w
  split at w
  · rename_i i
    split at w
    · rename_i r e1
      have sq:(seqOf θ d).bind (L2.atI · i)=some r→rIx X.K x y H Q:=fun h=>by
        cases e2:seqOf θ d with
        | none=>rw [e2] at h; cases h
        | some xs=>
          rw [e2] at h
          obtain ⟨a,vs,rfl,h1,h2⟩:=ZcY G rd e2
          obtain ⟨v,h3,h4⟩:=h2.atI h
          have q:=ZO G h4 w
          rcases h1 with h1 | h1
          · exact .inl ⟨a,vs,i,v,rfl,re,h1,h3,q⟩
          · exact .inr (.inl ⟨a,vs,i,v,rfl,re,h1,h3,q⟩)
      cases d with
      | str z=>
        simp only [ixD] at e1
        split at e1
        · rename_i hz
          cases e2:L2.atI z.cps.toList i with
          | none=>rw [e2] at e1; cases e1
          | some c=>
            rw [e2] at e1
            cases e1
            exact .inr (.inr ⟨z,i,c,rd,re,Zat hz,e2,ZO G (show RepV B H (.str _) (.str _) from rfl) w⟩)
        · cases e1
      | non=>exact sq e1
      | bl _=>exact sq e1
      | int _=>exact sq e1
      | ty _=>exact sq e1
      | scr _=>exact sq e1
      | tup _=>exact sq e1
      | lst _=>exact sq e1
      | ref _=>exact sq e1
    · exact w.elim
  · exact w.elim
abbrev PM:=List Sl→Sto→R (Option Int)
def EqO (_:Bx) (_:Hp) (a b:Option Int):Prop:=a=b
def tMO (X:Cx) (f:PM):TO:=fun σ H Q=>∃B θ ρ,Frm X.cl B θ ρ σ H∧wpR X σ EqO B H (f ρ θ) Q
def MO (X:Cx) (e:Option Expr) (f:PM):Prop:=PO X e (tMO X f)
theorem Zes {f:PM} {σ:St} {H:Hp} {Q Q':Option Int→Hp→Prop} (h:tMO X f σ H Q) (hQ:∀v H',Q v H'→Q' v H'):tMO X f σ H Q':=let ⟨B,θ,ρ,F,w⟩:=h; ⟨B,θ,ρ,F,w.mono hQ⟩
theorem ZkG {σ:St} {H:Hp} {γ δ:Type} {Rel':Bx→Hp→γ→δ→Prop} {B:Bx} {θ:Sto} {ρ:List Sl} {f:PM} {k:Option Int→Sto→R γ} {Q:δ→Hp→Prop} (F:Frm X.cl B θ ρ σ H) (h:wpR X σ Rel' B H ((f ρ θ).bind k) Q) :
    tMO X f σ H (fun c H1=>∃B1 θ1,ExtE B B1 H H1∧Frm X.cl B1 θ1 ρ σ H1∧wpR X σ Rel' B1 H1 (k c θ1) Q):=
  ⟨B,θ,ρ,F,(wpR.bind (Rel:=EqO) h).mono fun v H1 ⟨B1,θ1,d,E,G,r,w⟩=>by cases (show d=v from r); exact ⟨B1,θ1,E,F.ext E G,w⟩⟩
def Za0:PM:=fun _ θ=>.ok none θ
def Zbm (f:EM):PM:=fun ρ θ=>(f ρ θ).bind fun x θ=>match x with
  | .int i=>.ok (some i) θ
  | _=>.bad
theorem PO.imp {e:Option Expr} {t t':TO} (h:PO X e t) (hi:∀σ H Q,t' σ H Q→t σ H Q):PO X e t':=fun pins s σ H Q I q=>h pins s σ H Q I (hi σ H Q q)
theorem Zb2:MO X none Za0:=PO.imp Zrn fun σ H Q h=>by
  obtain ⟨B,θ,ρ,F,w⟩:=h
  exact ZO (Rel:=EqO) F.good rfl w
theorem z7 {e:Expr} {f:EM} (h:ME X e f):MO X (some e) (Zbm f):=PO.imp (Zrm h) fun σ H Q h=>by
  obtain ⟨B,θ,ρ,F,w⟩:=h
  refine Z9 (step F w) ?_
  rintro v H1 ⟨B1,θ1,x,E1,F1,rx,w1⟩
  cases x with
  | int i=>exact ⟨i,rx,ZO (Rel:=EqO) F1.good rfl w1⟩
  | _=>exact w1.elim
def Zbf {α:Type} (xs:List α) (lo hi:Option Int):List α:=(xs.drop (HT.sIx xs.length 0 lo)).take (HT.sIx xs.length xs.length hi-HT.sIx xs.length 0 lo)
theorem RepL.cut {B:Bx} {H:Hp} {xs:List D} {vs:List V} (r:RepL B H xs vs) (lo hi:Option Int):RepL B H (Zbf xs lo hi) (Zll vs lo hi):=by
  unfold Zbf Zll
  rw [r.len]
  exact (r.drop _).take _
def Zet (θ:Sto) (x:D) (lo hi:Option Int):Option D:=match x with
  | .tup xs=>if HT.sIx xs.length 0 lo=0∧HT.sIx xs.length xs.length hi=xs.length then none else some (.tup (Zbf xs lo hi))
  | x=>(ZaV θ x).map fun xs=>.lst (Zbf xs lo hi)
def mSl (f:EM) (lo hi:PM):EM:=fun ρ θ=>(f ρ θ).bind fun x θ=>(lo ρ θ).bind fun l θ=>(hi ρ θ).bind fun h θ=>match Zet θ x l h with
  | some d=>.ok d θ
  | none=>.bad
theorem SlR.imp {r r':V→Option Int→Option Int→Hp→VK→Prop} (h:SlR X r) (hi:∀x l u H Q,r' x l u H Q→r x l u H Q):SlR X r':=by
  intro pins s σ H x v vl vu lo hi' sl Q I rx hs pl pu q
  exact h pins s σ H x v vl vu lo hi' sl Q I rx hs pl pu (hi _ _ _ _ _ q)
theorem Za3 {e:Expr} {lo hi:Option Expr} {f:EM} {fl fh:PM} {pos p2:Pos} (he:ME X e f) (hl:MO X lo fl) (hh:MO X hi fh):ME X (.Subscript e (.Slice lo hi none p2) pos) (mSl f fl fh):=by
  refine PE.imp (Zpu (sl_list.or Ztb) he hl hh) fun σ H Q h=>?_
  obtain ⟨B,θ,ρ,F,w⟩:=h
  refine Z9 (step F w) ?_
  rintro v H1 ⟨B1,θ1,x,E1,F1,rx,w1⟩
  refine Zes (ZkG F1 w1) ?_
  rintro l H2 ⟨B2,θ2,E2,F2,w2⟩
  refine Zes (ZkG F2 w2) ?_
  rintro u H3 ⟨B3,θ3,E3,F3,w3⟩
  have rx3:=rx.ext (E2.trans E3).toExtS
  have lst:∀d,(ZaV θ3 x).map (fun xs=>D.lst (Zbf xs l u))=some d→wpR X σ RepV B3 H3 (R.ok d θ3) Q→ZuV X.K v l u H3 Q:=fun d h w=>by
    cases e2:ZaV θ3 x with
    | none=>rw [e2] at h; cases h
    | some xs=>
      rw [e2] at h
      cases h
      obtain ⟨a,vs,rfl,h1,h2⟩:=Zai F3.good rx3 e2
      exact ⟨a,vs,rfl,SqL.of h1,Zfh F3.good (h2.cut l u) w⟩
  split at w3
  · rename_i d e1
    cases x with
    | tup xs=>
      simp only [Zet] at e1
      split at e1
      · cases e1
      · rename_i hw
        cases e1
        obtain ⟨a,vs,rfl,h1,k1,l1⟩:=rx3
        exact .inr ⟨a,vs,rfl,SqT.of h1,by rw [l1.len]; exact hw,Zg4 F3.good (l1.cut l u) w3⟩
    | non=>exact .inl (lst d e1 w3)
    | bl _=>exact .inl (lst d e1 w3)
    | int _=>exact .inl (lst d e1 w3)
    | str _=>exact .inl (lst d e1 w3)
    | ty _=>exact .inl (lst d e1 w3)
    | scr _=>exact .inl (lst d e1 w3)
    | lst _=>exact .inl (lst d e1 w3)
    | ref _=>exact .inl (lst d e1 w3)
  · exact w3.elim
def ZdF {α:Type} (xs:List α) (lo hi st:Option Int):List α:=(sliceRange (sliceBounds lo hi st xs.length).1 (sliceBounds lo hi st xs.length).2.1 (sliceBounds lo hi st xs.length).2.2).filterMap (xs[·]?)
theorem RepL.none_of:∀{B:Bx} {H:Hp} {xs:List D} {vs:List V} {i:Nat},RepL B H xs vs→xs[i]?=none→vs[i]?=none:=fun {B H xs vs i} r e=>by
  have h1:=r.len
  have h2:xs.length≤i:=List.getElem?_eq_none_iff.mp e
  exact List.getElem?_eq_none_iff.mpr (by omega)
theorem RepL.pick {B:Bx} {H:Hp} {xs:List D} {vs:List V} (r:RepL B H xs vs):∀ks:List Nat,RepL B H (ks.filterMap (xs[·]?)) (ks.filterMap (vs[·]?))
  | []=>rfl
  | k::ks=>by
    cases e:xs[k]? with
    | none=>rw [List.filterMap_cons_none e,List.filterMap_cons_none (r.none_of e)]; exact r.pick ks
    | some x=>
      obtain ⟨u,e',q⟩:=r.get e
      rw [List.filterMap_cons_some e,List.filterMap_cons_some e']
      exact ⟨_,_,rfl,q,r.pick ks⟩
def ZrG (f:EM) (lo hi st:PM):EM:=fun ρ θ=>(f ρ θ).bind fun x θ=>(lo ρ θ).bind fun l θ=>(hi ρ θ).bind fun h θ=>(st ρ θ).bind fun s θ=>match ZaV θ x with
  | some xs=>if s≠some 0∧(ZdF xs l h s).length≤BIG then .ok (.lst (ZdF xs l h s)) θ else .bad
  | none=>.bad
theorem Ziq {e sp:Expr} {lo hi:Option Expr} {f:EM} {fl fh fs:PM} {pos p2:Pos} (he:ME X e f) (hl:MO X lo fl) (hh:MO X hi fh) (hs:MO X (some sp) fs):ME X (.Subscript e (.Slice lo hi (some sp) p2) pos) (ZrG f fl fh fs):=by
  refine PE.imp (Znf he hl hh hs) fun σ H Q h=>?_
  obtain ⟨B,θ,ρ,F,w⟩:=h
  refine Z9 (step F w) ?_
  rintro v H1 ⟨B1,θ1,x,E1,F1,rx,w1⟩
  refine Zes (ZkG F1 w1) ?_
  rintro l H2 ⟨B2,θ2,E2,F2,w2⟩
  refine Zes (ZkG F2 w2) ?_
  rintro u H3 ⟨B3,θ3,E3,F3,w3⟩
  refine Zes (ZkG F3 w3) ?_
  rintro s H4 ⟨B4,θ4,E4,F4,w4⟩
  split at w4
  · rename_i xs e1
    split at w4
    · rename_i hz
      obtain ⟨a,vs,rfl,h1,h2⟩:=Zai F4.good (rx.ext ((E2.trans E3).trans E4).toExtS) e1
      have p:RepL B4 H4 (ZdF xs l u s) (Zev vs l u s):=by
        unfold ZdF Zev
        rw [h2.len]
        exact h2.pick _
      exact ⟨a,vs,rfl,SqL.of h1,hz.1,by rw [p.len]; exact Zat hz.2,Zfh F4.good p w4⟩
    · exact w4.elim
  · exact w4.elim
def Zde:GM:=fun ds θ=>match ds with
  | [.str z]=>if z.length≤BIG then .ok (.int z.length) θ else .bad
  | [d]=>match seqOf θ d with
    | some xs=>.ok (.int xs.length) θ
    | none=>.bad
  | _=>.bad
theorem RepL.one {B:Bx} {H:Hp} {d:D} {vs:List V} (r:RepL B H [d] vs):∃v,vs=[v]∧RepV B H d v:=by
  obtain ⟨v,q,rfl,hv,hq⟩:=r
  cases (show q=[] from hq)
  exact ⟨v,rfl,hv⟩
theorem RepL.two {B:Bx} {H:Hp} {d e:D} {vs:List V} (r:RepL B H [d,e] vs):∃v u,vs=[v,u]∧RepV B H d v∧RepV B H e u:=by
  obtain ⟨v,q,rfl,hv,hq⟩:=r
  obtain ⟨u,rfl,hu⟩:=hq.one
  exact ⟨v,u,rfl,hv,hu⟩
theorem Zdm:CallR X (.builtin "len") (rC X Zde):=by
  refine CallR.imp (call_len_str.or Zja) fun vs H Q q=>?_
  obtain ⟨σ,B,θ,ds,G,r,w⟩:=q
  unfold Zde at w
  split at w
  · split at w
    · rename_i z hz
      obtain ⟨v,rfl,rv⟩:=r.one
      cases (show v=V.str z from rv)
      exact .inl ⟨z,rfl,Zat hz,ZO G (show RepV B H (.int _) (.int _) from rfl) w⟩
    · exact w.elim
  · split at w
    · rename_i xs e1
      obtain ⟨v,rfl,rv⟩:=r.one
      obtain ⟨a,us,rfl,h1,h2⟩:=ZcY G rv e1
      exact .inr ⟨a,us,rfl,h1,by rw [h2.len]; exact ZO G (show RepV B H (.int _) (.int _) from rfl) w⟩
    · exact w.elim
  · exact w.elim
def ZfP:List D→Option (List Int)
  | []=>some []
  | .int i::r=>(ZfP r).map (i::·)
  | _=>none
@[simp] theorem Zp8 (ns:List Int):ZfP (ns.map D.int)=some ns:=by
  induction ns with
  | nil=>rfl
  | cons n r ih=>simp [ZfP,ih]
theorem ZmE:∀{ds:List D} {ns:List Int},ZfP ds=some ns→ds=ns.map D.int
  | [],_,h=>by cases h; rfl
  | d::r,ns,h=>by
    cases d with
    | int i=>
      simp only [ZfP] at h
      cases e:ZfP r with
      | none=>rw [e] at h; cases h
      | some ms=>rw [e] at h; cases h; rw [ZmE e]; rfl
    | _=>cases h
theorem Zk7 {B:Bx} {H:Hp}:∀{ns:List Int} {vs:List V},RepL B H (ns.map D.int) vs→vs=ns.map V.int
  | [],_,r=>r
  | n::ns,_,r=>by
    obtain ⟨v,q,rfl,hv,hq⟩:=r
    cases (show v=V.int n from hv)
    rw [Zk7 hq]; rfl
def Zjb:List D→Option (List Bool)
  | []=>some []
  | .bl i::r=>(Zjb r).map (i::·)
  | _=>none
theorem ZqE:∀{ds:List D} {ns:List Bool},Zjb ds=some ns→ds=ns.map D.bl
  | [],_,h=>by cases h; rfl
  | d::r,ns,h=>by
    cases d with
    | bl i=>
      simp only [Zjb] at h
      cases e:Zjb r with
      | none=>rw [e] at h; cases h
      | some ms=>rw [e] at h; cases h; rw [ZqE e]; rfl
    | _=>cases h
theorem ZmQ {B:Bx} {H:Hp}:∀{ns:List Bool} {vs:List V},RepL B H (ns.map D.bl) vs→vs=ns.map V.bl
  | [],_,r=>r
  | n::ns,_,r=>by
    obtain ⟨v,q,rfl,hv,hq⟩:=r
    cases (show v=V.bl n from hv)
    rw [ZmQ hq]; rfl
def Zm4:GM:=fun ds θ=>match ds with
  | [d]=>match (ZaV θ d).bind ZfP with
    | some ns=>.ok (.int ns.sum) θ
    | none=>.bad
  | _=>.bad
theorem ZsE (hc:X.calm=true:=by rfl):CallR X (.builtin "sum") (rC X Zm4):=by
  refine CallR.imp (Zqy hc) fun vs H Q q=>?_
  obtain ⟨σ,B,θ,ds,G,r,w⟩:=q
  unfold Zm4 at w
  split at w
  · rename_i d
    split at w
    · rename_i ns e1
      obtain ⟨v,rfl,rv⟩:=r.one
      cases e2:ZaV θ d with
      | none=>rw [e2] at e1; cases e1
      | some xs=>
        rw [e2] at e1
        obtain ⟨a,us,rfl,h1,h2⟩:=Zai G rv e2
        rw [ZmE (show ZfP xs=some ns from e1)] at h2
        rw [Zk7 h2] at h1
        exact ⟨a,ns,rfl,SqL.of h1,ZO G (show RepV B H (.int _) (.int _) from rfl) w⟩
    · exact w.elim
  · exact w.elim
def ZqJ:GM:=fun ds θ=>match ds with
  | [d]=>match (ZaV θ d).bind Zjb with
    | some ns=>.ok (.bl (ns.all id)) θ
    | none=>.bad
  | _=>.bad
theorem ZvH (hc:X.calm=true:=by rfl):CallR X (.builtin "all") (rC X ZqJ):=by
  refine CallR.imp (ZqA hc) fun vs H Q q=>?_
  obtain ⟨σ,B,θ,ds,G,r,w⟩:=q
  unfold ZqJ at w
  split at w
  · rename_i d
    split at w
    · rename_i ns e1
      obtain ⟨v,rfl,rv⟩:=r.one
      cases e2:ZaV θ d with
      | none=>rw [e2] at e1; cases e1
      | some xs=>
        rw [e2] at e1
        obtain ⟨a,us,rfl,h1,h2⟩:=Zai G rv e2
        rw [ZqE (show Zjb xs=some ns from e1)] at h2
        rw [ZmQ h2] at h1
        exact ⟨a,ns,rfl,SqL.of h1,ZO G (show RepV B H (.bl _) (.bl _) from rfl) w⟩
    · exact w.elim
  · exact w.elim
def ZiV:GM:=fun ds θ=>match ds with
  | [.int i,.int j]=>.ok (.int (if j<i then j else i)) θ
  | [.int i,.int j,.int k]=>.ok (.int (if j<i then (if k<j then k else j) else (if k<i then k else i))) θ
  | _=>.bad
def ZlQ:GM:=fun ds θ=>match ds with
  | [.int i,.int j]=>.ok (.int (if j > i then j else i)) θ
  | _=>.bad
theorem RepL.three {B:Bx} {H:Hp} {d e f:D} {vs:List V} (r:RepL B H [d,e,f] vs):∃v u w,vs=[v,u,w]∧RepV B H d v∧RepV B H e u∧RepV B H f w:=by
  obtain ⟨v,q,rfl,hv,hq⟩:=r
  obtain ⟨u,w,rfl,hu,hw⟩:=hq.two
  exact ⟨v,u,w,rfl,hv,hu,hw⟩
theorem ZnA (hc:X.calm=true):CallR X (.builtin "min") (fun xs H Q=>∃i j k,xs=[.int i,.int j,.int k]∧Q (.int (if j<i then (if k<j then k else j) else (if k<i then k else i))) H):=by
  intro pins s σ H xs us Q I r h
  obtain ⟨i,j,k,rfl,q⟩:=h
  cases r with
  | cons r1 rr=>
    obtain ⟨u2,u3,e,r2,r3⟩:=Zo4 rr
    subst e
    obtain ⟨t1,rfl⟩:=r1
    obtain ⟨t2,rfl⟩:=r2
    obtain ⟨t3,rfl⟩:=r3
    refine min_three_ints (I.ok.hd hc) fun h' tk kk=>⟨_,H,I.kept kk,?_,q⟩
    by_cases c1:j<i
    · by_cases c2:k<j
      · simp only [c1,c2,if_true]; exact ⟨_,rfl⟩
      · simp only [c1,c2,if_true,if_false]; exact ⟨_,rfl⟩
    · by_cases c2:k<i
      · simp only [c1,c2,if_true,if_false]; exact ⟨_,rfl⟩
      · simp only [c1,c2,if_false]; exact ⟨_,rfl⟩
theorem Zlq (hc:X.calm=true:=by rfl):CallR X (.builtin "min") (rC X ZiV):=by
  refine CallR.imp ((ZnB hc).or (ZnA hc)) fun vs H Q q=>?_
  obtain ⟨σ,B,θ,ds,G,r,w⟩:=q
  unfold ZiV at w
  split at w
  · rename_i i j
    obtain ⟨v,u,rfl,rv,ru⟩:=r.two
    cases (show v=V.int i from rv)
    cases (show u=V.int j from ru)
    exact .inl ⟨i,j,rfl,ZO G (show RepV B H (.int _) (.int _) from rfl) w⟩
  · rename_i i j k
    obtain ⟨v,u,z,rfl,rv,ru,rz⟩:=r.three
    cases (show v=V.int i from rv)
    cases (show u=V.int j from ru)
    cases (show z=V.int k from rz)
    exact .inr ⟨i,j,k,rfl,ZO G (show RepV B H (.int _) (.int _) from rfl) w⟩
  · exact w.elim
theorem ZqB (hc:X.calm=true:=by rfl):CallR X (.builtin "max") (rC X ZlQ):=by
  refine CallR.imp (ZnC hc) fun vs H Q q=>?_
  obtain ⟨σ,B,θ,ds,G,r,w⟩:=q
  unfold ZlQ at w
  split at w
  · rename_i i j
    obtain ⟨v,u,rfl,rv,ru⟩:=r.two
    cases (show v=V.int i from rv)
    cases (show u=V.int j from ru)
    exact ⟨i,j,rfl,ZO G (show RepV B H (.int _) (.int _) from rfl) w⟩
  · exact w.elim
def ZrL:GM:=fun ds θ=>match ds with
  | [.int i]=>.ok (.int i) θ
  | [.bl k]=>.ok (.int (if k then 1 else 0)) θ
  | _=>.bad
theorem ZvG:CallR X (.type "int") (rC X ZrL):=by
  refine CallR.imp ZnD fun vs H Q q=>?_
  obtain ⟨σ,B,θ,ds,G,r,w⟩:=q
  unfold ZrL at w
  split at w
  · rename_i i
    obtain ⟨v,rfl,rv⟩:=r.one
    cases (show v=V.int i from rv)
    exact .inl ⟨i,rfl,ZO G (show RepV B H (.int _) (.int _) from rfl) w⟩
  · rename_i k
    obtain ⟨v,rfl,rv⟩:=r.one
    cases (show v=V.bl k from rv)
    exact .inr ⟨k,rfl,ZO G (show RepV B H (.int _) (.int _) from rfl) w⟩
  · exact w.elim
def Zk1:GM:=fun ds θ=>match ds with
  | [d]=>match seqOf θ d with
    | some xs=>.ok (.lst xs) θ
    | none=>.bad
  | _=>.bad
theorem ZqC:CallR X (.type "list") (rC X Zk1):=by
  refine CallR.imp Zi9 fun vs H Q q=>?_
  obtain ⟨σ,B,θ,ds,G,r,w⟩:=q
  unfold Zk1 at w
  split at w
  · split at w
    · rename_i xs e1
      obtain ⟨v,rfl,rv⟩:=r.one
      obtain ⟨a,us,rfl,h1,h2⟩:=ZcY G rv e1
      exact ⟨a,us,rfl,h1,Zfh G h2 w⟩
    · exact w.elim
  · exact w.elim
def Zer:GM:=fun ds θ=>match ds with
  | [.tup xs]=>.ok (.tup xs) θ
  | [d]=>match ZaV θ d with
    | some xs=>.ok (.tup xs) θ
    | none=>.bad
  | _=>.bad
theorem ZfT:CallR X (.type "tuple") (rC X Zer):=by
  refine CallR.imp Zh4 fun vs H Q q=>?_
  obtain ⟨σ,B,θ,ds,G,r,w⟩:=q
  unfold Zer at w
  split at w
  · rename_i xs
    obtain ⟨v,rfl,rv⟩:=r.one
    obtain ⟨a,us,rfl,h1,k1,l1⟩:=id rv
    exact ⟨a,us,rfl,.inr ⟨SqT.of h1,ZO G rv w⟩⟩
  · split at w
    · rename_i xs e1
      obtain ⟨v,rfl,rv⟩:=r.one
      obtain ⟨a,us,rfl,h1,h2⟩:=Zai G rv e1
      exact ⟨a,us,rfl,.inl ⟨SqL.of h1,Zg4 G h2 w⟩⟩
    · exact w.elim
  · exact w.elim
inductive Ty | non | bl | int | str | lst | tup
def Ty.nm:Ty→String
  | .non=>"NoneType" | .bl=>"bool" | .int=>"int" | .str=>"str" | .lst=>"list" | .tup=>"tuple"
def tyD (θ:Sto):D→Option Ty
  | .non=>some .non
  | .bl _=>some .bl
  | .int _=>some .int
  | .str _=>some .str
  | .tup _=>some .tup
  | .scr _=>none
  | d=>(ZaV θ d).map fun _=>.lst
def isT:Ty→String→Option Bool
  | .non,"int"=>some false | .non,"bool"=>some false | .non,"list"=>some false | .non,"tuple"=>some false | .non,"str"=>some false
  | .bl,"int"=>some true | .bl,"bool"=>some true | .bl,"list"=>some false | .bl,"tuple"=>some false | .bl,"str"=>some false
  | .int,"int"=>some true | .int,"bool"=>some false | .int,"list"=>some false | .int,"tuple"=>some false | .int,"str"=>some false
  | .str,"int"=>some false | .str,"bool"=>some false | .str,"list"=>some false | .str,"tuple"=>some false | .str,"str"=>some true
  | .lst,"int"=>some false | .lst,"bool"=>some false | .lst,"list"=>some true | .lst,"tuple"=>some false | .lst,"str"=>some false
  | .tup,"int"=>some false | .tup,"bool"=>some false | .tup,"list"=>some false | .tup,"tuple"=>some true | .tup,"str"=>some false
  | _,_=>none
theorem ZtR {K:PySem.W.Frag} {t:Ty} {n:String} {b:Bool} (h:isT t n=some b):PySem.W.kitOne K (.type t.nm) (.type n)=some b:=by
  unfold isT at h
  split at h<;>first | (cases h; with_unfolding_all rfl) | cases h
def ZgB:GM:=fun ds θ=>match ds with
  | [d,.ty n]=>match (tyD θ d).bind (isT · n) with
    | some b=>.ok (.bl b) θ
    | none=>.bad
  | _=>.bad
theorem ZsP {B:Bx} {θ:Sto} {H:Hp} {K:PySem.W.Frag} (G:Good X.cl B θ H) {d:D} {v:V} {t:Ty} (r:RepV B H d v) (h:tyD θ d=some t):Zf3 K H v (.type t.nm):=by
  cases d with
  | non=>cases (show v=.non from r); cases h; exact .non
  | bl b=>cases (show v=.bl b from r); cases h; exact .bl b
  | int b=>cases (show v=.int b from r); cases h; exact .int b
  | str b=>cases (show v=.str b from r); cases h; exact .str b
  | tup xs=>obtain ⟨a,vs,rfl,h1,_⟩:=r; cases h; exact .tup h1
  | scr xs=>cases h
  | lst xs=>obtain ⟨a,vs,rfl,h1,_⟩:=r; cases h; exact .lst h1
  | ref l=>
    cases e:ZaV θ (.ref l) with
    | none=>simp only [tyD,e] at h; cases h
    | some xs=>
      simp only [tyD,e] at h
      cases h
      obtain ⟨a,us,rfl,h1,h2⟩:=Zai G r e
      exact .lst h1
  | ty n=>cases h
theorem Zl4:CallR X (.builtin "isinstance") (rC X ZgB):=by
  refine CallR.imp Zlp fun vs H Q q=>?_
  obtain ⟨σ,B,θ,ds,G,r,w⟩:=q
  unfold ZgB at w
  split at w
  · rename_i d n
    split at w
    · rename_i b e1
      obtain ⟨v,u,rfl,rv,ru⟩:=r.two
      cases (show u=V.ty n from ru)
      cases e2:tyD θ d with
      | none=>rw [e2] at e1; cases e1
      | some t=>
        rw [e2] at e1
        exact ⟨v,n,_,b,rfl,ZsP G rv e2,ZtR e1,ZO G (show RepV B H (.bl _) (.bl _) from rfl) w⟩
    · exact w.elim
  · exact w.elim
end
end
end L2.MM
namespace L2.MM
open PySem PySem.Spec PyProof.Rows PySem.SeqAt
noncomputable section
variable {X:Cx}
inductive Src where
  | seq (d:D) | rng (lo:Int) (n:Nat)
def Src.items (θ:Sto):Src→Option (List D)
  | .seq d=>seqOf θ d
  | .rng lo n=>some ((List.range n).map fun (i:Nat)=>D.int (lo+(i:Int)))
def SrcRep (K:PySem.W.Frag) (B:Bx) (H:Hp):Src→It→Prop
  | .seq d,J=>∃a,RepV B H d (.ref a)∧J=(match d with | .tup _=>Itt K a | _=>Itl K a)
  | .rng lo n,J=>J=Itr lo n
abbrev IM:=List Sl→Sto→R Src
section
def tMI (X:Cx) (f:IM):TI:=fun σ H Q=>∃B θ ρ,Frm X.cl B θ ρ σ H∧wpR X σ (SrcRep X.K) B H (f ρ θ) Q
def MI (X:Cx) (tg iter:Expr) (f:IM):Prop:=PI X tg iter (tMI X f)
theorem PI.imp {tg iter:Expr} {t t':TI} (h:PI X tg iter t) (hi:∀σ H Q,t' σ H Q→t σ H Q):PI X tg iter t':=fun pins s σ H Q I q=>h pins s σ H Q I (hi σ H Q q)
theorem SrcRep.ext {K:PySem.W.Frag} {B B':Bx} {H H':Hp} {S:Src} {J:It} (r:SrcRep K B H S J) (E:ExtS B B' H H'):SrcRep K B' H' S J:=by
  cases S with
  | seq d=>obtain ⟨a,h,e⟩:=r; exact ⟨a,h.ext E,e⟩
  | rng lo n=>exact r
theorem ZiK {cl:Mo} {B:Bx} {θ:Sto} {H:Hp} {S:Src} {J:It} {xs:List D} (G:Good cl B θ H) (r:SrcRep cl.K B H S J) (h:S.items θ=some xs) :
    (∀i d,xs[i]?=some d→J.go i H∧∀x H',J.yld i H x H'→H'=H∧RepV B H d x)∧J.stop xs.length H:=by
  cases S with
  | rng lo n=>
    cases (show J=Itr lo n from r)
    cases h
    refine ⟨fun i d e=>?_,by show n≤_; simp⟩
    rw [List.getElem?_map] at e
    by_cases hi:i<n
    · rw [List.getElem?_range hi] at e
      cases e
      exact ⟨hi,fun x H' y=>⟨y.1,y.2⟩⟩
    · rw [List.getElem?_eq_none (by simpa using hi)] at e
      cases e
  | seq d=>
    obtain ⟨a,rv,e⟩:=r
    cases d with
    | tup ys=>
      obtain ⟨a',vs,e1,h1,_,h2⟩:=rv
      cases e1
      cases h
      simp only at e
      subst e
      refine ⟨fun i d e=>?_,⟨vs,SqT.of h1,by rw [h2.len]; exact Nat.le_refl _⟩⟩
      obtain ⟨v,q1,q2⟩:=h2.get e
      refine ⟨⟨vs,v,SqT.of h1,q1⟩,fun x H' y=>⟨y.1,?_⟩⟩
      have:=y.2 vs (SqT.of h1)
      rw [q1] at this
      cases this
      exact q2
    | scr ns=>
      cases h
      obtain ⟨a',vs',e1,h1,_⟩:=ZcY G rv (show seqOf θ (.scr ns)=some (ns.map D.int) from rfl)
      cases e1
      simp only at e
      subst e
      have hS:SqL cl.K H a (ns.map V.int):=by
        obtain ⟨a',e1,h1⟩:=rv
        cases e1
        rcases h1 with ⟨o,h1,_⟩ | h1
        · exact .inl (.inr ⟨o,h1⟩)
        · exact .inr (G.kc a ns h1)
      have h2:RepL B H (ns.map D.int) (ns.map V.int):=RepL.map (f:=D.int) (g:=V.int) (fun _=>rfl) ns
      refine ⟨fun i d e=>?_,⟨ns.map V.int,hS,by simp⟩⟩
      obtain ⟨v,q1,q2⟩:=h2.get e
      refine ⟨⟨_,v,hS,q1⟩,fun x H' y=>⟨y.1,?_⟩⟩
      have:=y.2 _ hS
      rw [q1] at this
      cases this
      exact q2
    | lst ys=>
      obtain ⟨a',vs,e1,h1,h2⟩:=Zai G rv (show ZaV θ (.lst ys)=some xs from h)
      cases e1
      simp only at e
      subst e
      refine ⟨fun i d e=>?_,⟨vs,SqL.of h1,by rw [h2.len]; exact Nat.le_refl _⟩⟩
      obtain ⟨v,q1,q2⟩:=h2.get e
      refine ⟨⟨vs,v,SqL.of h1,q1⟩,fun x H' y=>⟨y.1,?_⟩⟩
      have:=y.2 vs (SqL.of h1)
      rw [q1] at this
      cases this
      exact q2
    | ref l=>
      obtain ⟨a',vs,e1,h1,h2⟩:=Zai G rv (show ZaV θ (.ref l)=some xs from h)
      cases e1
      simp only at e
      subst e
      refine ⟨fun i d e=>?_,⟨vs,SqL.of h1,by rw [h2.len]; exact Nat.le_refl _⟩⟩
      obtain ⟨v,q1,q2⟩:=h2.get e
      refine ⟨⟨vs,v,SqL.of h1,q1⟩,fun x H' y=>⟨y.1,?_⟩⟩
      have:=y.2 vs (SqL.of h1)
      rw [q1] at this
      cases this
      exact q2
    | non=>cases h
    | bl _=>cases h
    | int _=>cases h
    | str _=>cases h
    | ty _=>cases h
def ZyS (K:PySem.W.Frag) (tl:TE):TI:=fun σ H R=>tl σ H fun x H1=>∃a,x=.ref a∧(((∃xs,SqL K H1 a xs)∧R (Itl K a) H1)∨((∃xs,SqT K H1 a xs)∧R (Itt K a) H1))
theorem Ztq {tg l:Expr} {tl:TE} (hl:PE X l tl):PI X tg l (ZyS X.K tl):=by
  intro pins s σ H R I h
  refine thn (hl pins s σ H _ I h) fun v s1 ⟨x,H1,I1,r1,q1⟩=>?_
  obtain ⟨a,e,q1⟩:=q1
  subst e
  cases r1
  rcases q1 with ⟨⟨xs,hq⟩,q⟩ | ⟨⟨xs,hq⟩,q⟩
  · obtain ⟨its,rv,p,hz⟩:=I1.list hq
    refine wpAny_pyIter_list p.isList ?_
    refine ⟨s1.heap.objs.size,[s1.heap.objs.size],_,_,H1,rfl,I1.kept (t':=s1.toks) fun b o e=>Heap.get?_push_of_some _ e,Zm0 a _,⟨_,Heap.get?_push_size _ rfl,rfl,rfl⟩,fun b hb=>?_,q⟩
    have e:b=s1.heap.objs.size:=by simpa using hb
    subst e
    exact I1.fpOk (Nat.le_refl _) (I1.hok.fresh (Nat.le_refl _))
  · obtain ⟨its,rv,p,hz⟩:=I1.tuple hq
    refine wpAny_pyIter_tuple (show s1.heap.IsTuple a its.toArray from p) ?_
    refine ⟨s1.heap.objs.size,[s1.heap.objs.size],_,_,H1,rfl,I1.kept (t':=s1.toks) fun b o e=>Heap.get?_push_of_some _ e,Zlz a _,⟨_,Heap.get?_push_size _ rfl,rfl,rfl⟩,fun b hb=>?_,q⟩
    have e:b=s1.heap.objs.size:=by simpa using hb
    subst e
    exact I1.fpOk (Nat.le_refl _) (I1.hok.fresh (Nat.le_refl _))
def mIn (f:EM):IM:=fun ρ θ=>(f ρ θ).bind fun d θ=>match seqOf θ d with
  | some _=>.ok (.seq d) θ
  | none=>.bad
theorem ZlP {tg l:Expr} {f:EM} (h:ME X l f):MI X tg l (mIn f):=by
  refine PI.imp (Ztq h) fun σ H R q=>?_
  obtain ⟨B,θ,ρ,F,w⟩:=q
  refine Z9 (step F w) ?_
  rintro v H1 ⟨B1,θ1,d,E1,F1,rd,w1⟩
  split at w1
  · rename_i xs e
    obtain ⟨a,vs,rfl,h1,h2⟩:=ZcY F1.good rd e
    refine ⟨a,rfl,?_⟩
    have fin:=fun J (hJ:SrcRep X.K B1 H1 (.seq d) J)=>ZO (Rel:=SrcRep X.K) F1.good hJ w1
    cases d with
    | tup ys=>
      obtain ⟨a',us,e1,g1,_,_⟩:=id rd
      cases e1
      exact .inr ⟨⟨us,SqT.of g1⟩,fin _ ⟨a,rd,rfl⟩⟩
    | scr ns=>
      have hS:SqL X.K H1 a (ns.map V.int):=by
        obtain ⟨a',e1,g1⟩:=id rd
        cases e1
        rcases g1 with ⟨o,g1,_⟩ | g1
        · exact .inl (.inr ⟨o,g1⟩)
        · exact .inr (F1.good.kc a ns g1)
      exact .inl ⟨⟨_,hS⟩,fin _ ⟨a,rd,rfl⟩⟩
    | lst ys=>
      obtain ⟨a',us,e1,g1,_⟩:=Zai F1.good rd (show ZaV θ1 (.lst ys)=some xs from e)
      cases e1
      exact .inl ⟨⟨us,SqL.of g1⟩,fin _ ⟨a,rd,rfl⟩⟩
    | ref l=>
      obtain ⟨a',us,e1,g1,_⟩:=Zai F1.good rd (show ZaV θ1 (.ref l)=some xs from e)
      cases e1
      exact .inl ⟨⟨us,SqL.of g1⟩,fin _ ⟨a,rd,rfl⟩⟩
    | non=>cases e
    | bl _=>cases e
    | int _=>cases e
    | str _=>cases e
    | ty _=>cases e
  · exact w1.elim
def ZcN (f:AM):IM:=fun ρ θ=>(f ρ θ).bind fun ds θ=>match ds with
  | [.int j]=>if -1000000≤j∧j≤1000000 then .ok (.rng 0 j.toNat) θ else .bad
  | _=>.bad
theorem ZdI {tg a:Expr} {f:AM} {p pos:Pos} (hm:X.mg "range"=none) (ha:MA X [a] f) (hg:Gl X "range":=by rfl) (hs:starEach [a] X.env=[(false,eval a X.env)]:=by rfl):MI X tg (.Call (.Name "range" p) [a] [] pos) (ZcN f):=by
  refine PI.imp (Zne hg hm ha hs) fun σ H R q=>?_
  obtain ⟨B,θ,ρ,F,w⟩:=q
  refine ZbZ (Zhd F w) ?_
  rintro vs H1 ⟨B1,θ1,ds,E1,F1,rd,w1⟩
  split at w1
  · rename_i j
    split at w1
    · rename_i hj
      obtain ⟨v,rfl,rv⟩:=rd.one
      cases (show v=V.int j from rv)
      exact ⟨j,rfl,by have:=hj.1; omega,by have:=hj.2; omega,ZO (Rel:=SrcRep X.K) F1.good (show SrcRep X.K B1 H1 (.rng 0 j.toNat) _ from rfl) w1⟩
    · exact w1.elim
  · exact w1.elim
def ZeG (src:List Nat) (ρ:List Sl) (x:D):List Sl:=Sl.val x::src.map fun (j:Nat)=>match ρ[j]? with
  | some (Sl.val d)=>Sl.val d
  | _=>Sl.no
theorem Frm.inner {B:Bx} {θ:Sto} {ρ:List Sl} {σ:St} {H:Hp} (F:Frm X.cl B θ ρ σ H) (src:List Nat) {x:D} {v:V} (r:RepV B H x v):Frm X.cl B θ (ZeG src ρ x) (L2.inner src σ (some v)) H:=by
  have key:∀(i:Nat) (s:Sl),(ZeG src ρ x)[i]?=some s→s=.no∨∃d,s=.val d∧∃v',(L2.inner src σ (some v))[i]?=some (some v')∧RepV B H d v':=fun i s e=>by
    cases i with
    | zero=>simp [ZeG] at e; subst e; exact .inr ⟨x,rfl,v,by simp [L2.inner],r⟩
    | succ i=>
      simp only [ZeG,List.getElem?_cons_succ,List.getElem?_map] at e
      simp only [L2.inner,List.getElem?_cons_succ,List.getElem?_map]
      cases q:src[i]? with
      | none=>rw [q] at e; cases e
      | some j=>
        rw [q] at e
        simp only [Option.map_some,Option.some.injEq] at e
        split at e
        · rename_i d ed
          subst e
          obtain ⟨v',h1,h2⟩:=F.val j d ed
          exact .inr ⟨d,rfl,v',by simp [h1],h2⟩
        · exact .inl e.symm
  refine ⟨F.good,by simp [ZeG,L2.inner],fun i d e=>?_,fun i xs e=>?_,fun i j xs ys a _ e _=>?_⟩
  · rcases key i _ e with z | ⟨d',z,v',h1,h2⟩
    · cases z
    · cases z; exact ⟨v',h1,h2⟩
  · rcases key i _ e with z | ⟨d',z,_⟩<;>cases z
  · rcases key i _ e with z | ⟨d',z,_⟩<;>cases z
open Classical in
def ZgE (S:Src) (all:List D) (elt:D→Sto→R D):List D→List D→Sto→R D
  | [],acc,θ=>if S.items θ=some all∧acc.length≤BIG then .ok (.lst acc) θ else .bad
  | x::r,acc,θ=>if S.items θ=some all then (elt x θ).bind fun y θ=>ZgE S all elt r (acc++[y]) θ else .bad
def ZeD (fi:IM) (src:List Nat) (elt:EM):EM:=fun ρ θ=>(fi ρ θ).bind fun S θ=>match S.items θ with
  | some xs=>if xs.length≤BIG then ZgE S xs (fun x θ=>elt (ZeG src ρ x) θ) xs [] θ else .bad
  | none=>.bad
open Classical in
theorem Zmg {fi:IM} {src:List Nat} {elt:EM} (σ:St) (H:Hp) (Q:VK) (h:tM X (ZeD fi src elt) σ H Q):tLc (tMI X fi) src (tM X elt) σ H Q:=by
  obtain ⟨B,θ,ρ,F,w⟩:=h
  refine ⟨B,θ,ρ,F,(wpR.bind (Rel:=SrcRep X.K) w).mono ?_⟩
  rintro J H1 ⟨B1,θ1,S,E1,G1,rJ,w1⟩
  split at w1
  · rename_i xs e1
    split at w1
    · rename_i hz
      refine ⟨xs.length,fun i ys H'=>∃B' θ' acc,ExtE B1 B' H1 H'∧Good X.cl B' θ' H'∧RepL B' H' acc ys∧wpR X σ RepV B' H' (ZgE S xs (fun x θ=>elt (ZeG src ρ x) θ) (xs.drop i) acc θ') Q,Zat hz,?_,?_,?_⟩
      · exact ⟨B1,θ1,[],ExtE.refl _ _,G1,rfl,w1⟩
      · rintro i ys H' hi ⟨B2,θ2,acc,E2,G2,racc,w2⟩
        rw [List.drop_eq_getElem_cons hi] at w2
        unfold ZgE at w2
        split at w2
        · rename_i e2
          obtain ⟨g1,g2⟩:=(ZiK G2 (rJ.ext E2.toExtS) e2).1 i xs[i] (List.getElem?_eq_getElem hi)
          refine ⟨g1,fun y H3 hy=>?_⟩
          obtain ⟨rfl,ry⟩:=g2 y H3 hy
          have F2:=(F.ext (E1.trans E2) G2).inner src ry
          refine ⟨B2,θ2,_,F2,(wpR.bind (Rel:=RepV) w2).mono ?_⟩
          rintro z H4 ⟨B4,θ4,d,E4,G4,rd,w4⟩
          exact ⟨B4,θ4,acc++[d],E2.trans E4,G4,(racc.ext E4.toExtS).app ⟨z,[],rfl,rd,rfl⟩,w4⟩
        · exact w2.elim
      · rintro ys H' ⟨B2,θ2,acc,E2,G2,racc,w2⟩
        rw [List.drop_length] at w2
        unfold ZgE at w2
        split at w2
        · rename_i e2
          exact ⟨(ZiK G2 (rJ.ext E2.toExtS) e2.1).2,Zfh G2 racc w2⟩
        · exact w2.elim
    · exact w1.elim
  · exact w1.elim
theorem Zvo {x:Str} {px pos:Pos} {iter elt:Expr} {scope:Scope} {N':List Str} {src:List Nat} {sc:Scope} {N:List Str} {fi:IM} {fe:EM} (S:Zby scope sc x N N' src) (hsc:X.env.scope=sc) (hN:X.N=N) (hi:MI X (.Name x px) iter fi)
    (helt:∀(cl:List (Str×Addr)) (C:Addr) (s₀:Shared) (H₀:Hp) (fp:List Addr),ME (X.comp scope N' cl C s₀ H₀ fp) elt fe) (hcm:X.calm=true:=by rfl) (hs:∀v,foldedSetIterable iter X.env v=pure v:=by intro _; rfl) :
    ME X (.ListComp elt [⟨.Name x px,iter,[],0⟩] scope pos) (ZeD fi src fe):=
  PE.imp (Zu9 (te:=tM X fe) S hsc hN hi (fun cl C s₀ H₀ fp=>helt cl C s₀ H₀ fp) hcm hs) Zmg
inductive Fl where
  | nx | rt (d:D) | bk | ct
abbrev SM:=List Sl→Sto→R (Fl×List Sl)
def ZsC (Dn:ZeY) (B:Bx) (σ:St) (H:Hp):Fl→Prop
  | .nx=>Dn.nx σ H
  | .bk=>Dn.bk σ H
  | .ct=>Dn.ct σ H
  | .rt d=>∀v,RepV B H d v→Dn.rt v H
def wpS (X:Cx) (σ:St) (B:Bx) (H:Hp) (r:R (Fl×List Sl)) (Dn:ZeY):Prop:=match r with
  | .ok (fl,ρ') θ'=>∀B' H' σ',ExtS B B' H H'→Frm X.cl B' θ' ρ' σ' H'→ZsC Dn B' σ' H' fl
  | .ex c θ'=>XE X σ B H c θ'
  | .bad=>False
def tMS (X:Cx) (f:SM):TS:=fun Dn σ H=>∃B θ ρ,Frm X.cl B θ ρ σ H∧wpS X σ B H (f ρ θ) Dn
def MS (X:Cx) (st:Stmt) (f:SM):Prop:=PS X st (tMS X f)
def MSs (X:Cx) (sts:List Stmt) (f:SM):Prop:=PSs X sts (tMS X f)
theorem PS.imp {st:Stmt} {t t':TS} (h:PS X st t) (hi:∀D σ H,t' D σ H→t D σ H):PS X st t':=fun pins s σ H D I q=>h pins s σ H D I (hi D σ H q)
theorem PSs.imp {st:List Stmt} {t t':TS} (h:PSs X st t) (hi:∀D σ H,t' D σ H→t D σ H):PSs X st t':=fun pins s σ H D I q=>h pins s σ H D I (hi D σ H q)
theorem wpS.trans {σ σ':St} {B B':Bx} {H H':Hp} {r:R (Fl×List Sl)} {Dn:ZeY} (h:wpS X σ B H r Dn) (E:ExtS B B' H H'):wpS X σ' B' H' r Dn:=by
  cases r with
  | ok a θ'=>exact fun B2 H2 σ2 e g=>h B2 H2 σ2 (E.trans e) g
  | ex c θ'=>exact h
  | bad=>exact h
theorem wpS.bind {α β:Type} {Rel:Bx→Hp→α→β→Prop} {σ:St} {B:Bx} {H:Hp} {r:R α} {k:α→Sto→R (Fl×List Sl)} {Dn:ZeY} (h:wpS X σ B H (r.bind k) Dn) :
    wpR X σ Rel B H r (fun b H1=>∃B1 θ1 a,ExtE B B1 H H1∧Good X.cl B1 θ1 H1∧Rel B1 H1 a b∧wpS X σ B1 H1 (k a θ1) Dn):=by
  cases r with
  | ok a θ'=>exact fun B1 H1 b E g q=>⟨B1,θ',a,E,g,q,wpS.trans h E.toExtS⟩
  | ex c θ'=>exact h
  | bad=>exact h
theorem Zhc {σ:St} {H:Hp} {B:Bx} {θ:Sto} {ρ:List Sl} {f:EM} {k:D→Sto→R (Fl×List Sl)} {Dn:ZeY} (F:Frm X.cl B θ ρ σ H) (h:wpS X σ B H ((f ρ θ).bind k) Dn) :
    tM X f σ H (fun v H1=>∃B1 θ1 d,ExtE B B1 H H1∧Frm X.cl B1 θ1 ρ σ H1∧RepV B1 H1 d v∧wpS X σ B1 H1 (k d θ1) Dn):=
  ⟨B,θ,ρ,F,(wpS.bind (Rel:=RepV) h).mono fun v H1 ⟨B1,θ1,d,E,G,r,w⟩=>⟨B1,θ1,d,E,F.ext E G,r,w⟩⟩
theorem Zpe {σ:St} {H:Hp} {B:Bx} {θ:Sto} {ρ:List Sl} {f:TMr} {k:Bool→Sto→R (Fl×List Sl)} {Dn:ZeY} (F:Frm X.cl B θ ρ σ H) (h:wpS X σ B H ((f ρ θ).bind k) Dn) :
    tMT X f σ H (fun c H1=>∃B1 θ1,ExtE B B1 H H1∧Frm X.cl B1 θ1 ρ σ H1∧wpS X σ B1 H1 (k c θ1) Dn):=
  ⟨B,θ,ρ,F,(wpS.bind (Rel:=EqB) h).mono fun v H1 ⟨B1,θ1,d,E,G,r,w⟩=>by cases (show d=v from r); exact ⟨B1,θ1,E,F.ext E G,w⟩⟩
theorem ZdS {σ:St} {B:Bx} {H:Hp} {θ:Sto} {ρ:List Sl} {fl:Fl} {Dn:ZeY} (F:Frm X.cl B θ ρ σ H) (h:wpS X σ B H (.ok (fl,ρ) θ) Dn):ZsC Dn B σ H fl:=h B H σ (ExtS.refl B H) F
def ZN:SM:=fun ρ θ=>.ok (.nx,ρ) θ
def Zg9 (r:R (Fl×List Sl)) (k:SM):R (Fl×List Sl):=r.bind fun p θ=>match p with
  | (.nx,ρ)=>k ρ θ
  | p=>.ok p θ
def Zq (f g:SM):SM:=fun ρ θ=>Zg9 (f ρ θ) g
theorem Zy:MSs X [] ZN:=PSs.imp Zrj fun D σ H h=>by
  obtain ⟨B,θ,ρ,F,w⟩:=h
  exact ZdS F w
theorem wpS.seq {σ:St} {B:Bx} {H:Hp} {r:R (Fl×List Sl)} {g:SM} {Dn:ZeY} (w:wpS X σ B H (Zg9 r g) Dn):wpS X σ B H r { Dn with nx:=tMS X g Dn }:=by
  cases r with
  | ex c θ'=>exact w
  | bad=>exact w
  | ok p θ'=>
    obtain ⟨fl,ρ'⟩:=p
    intro B' H' σ' E F
    cases fl with
    | nx=>exact ⟨B',θ',ρ',F,wpS.trans w E⟩
    | bk=>exact w B' H' σ' E F
    | ct=>exact w B' H' σ' E F
    | rt d=>exact w B' H' σ' E F
theorem Ze {st:Stmt} {rest:List Stmt} {f g:SM} (h1:MS X st f) (h2:MSs X rest g):MSs X (st::rest) (Zq f g):=PSs.imp (Zpm h1 h2) fun D σ H h=>by
  obtain ⟨B,θ,ρ,F,w⟩:=h
  exact ⟨B,θ,ρ,F,wpS.seq w⟩
theorem Zj {st:Stmt} {f:SM} (h1:MS X st f):MSs X [st] f:=Zri h1
def ZrI:SM:=fun _ _=>.bad
theorem ZpU {st:Stmt}:MS X st ZrI:=fun _ _ _ _ _ _ h=>by obtain ⟨_,_,_,_,w⟩:=h; exact w.elim
def zC (f:EM):SM:=fun ρ θ=>(f ρ θ).bind fun _ θ=>.ok (.nx,ρ) θ
theorem ZT {e:Expr} {f:EM} {pos:Pos} (he:ME X e f) (hs:swapsWith e none pos.line X.env=pure false:=by rfl):MS X (.Expr e pos) (zC f):=PS.imp (Zmn he hs) fun D σ H h=>by
  obtain ⟨B,θ,ρ,F,w⟩:=h
  refine Z9 (Zhc F w) ?_
  rintro v H1 ⟨B1,θ1,d,E1,F1,rd,w1⟩
  exact ZdS F1 w1
def ZK (f:EM):SM:=fun ρ θ=>(f ρ θ).bind fun d θ=>.ok (.rt d,ρ) θ
theorem Zv {e:Expr} {f:EM} {pos:Pos} (he:ME X e f):MS X (.Return (some e) pos) (ZK f):=PS.imp (Ztn he) fun D σ H h=>by
  obtain ⟨B,θ,ρ,F,w⟩:=h
  refine Z9 (Zhc F w) ?_
  rintro v H1 ⟨B1,θ1,d,E1,F1,rd,w1⟩
  exact ZdS F1 w1 v rd
def ZfJ:SM:=fun ρ θ=>.ok (.rt .non,ρ) θ
theorem Zd1 {pos:Pos}:MS X (.Return none pos) ZfJ:=PS.imp Zrk fun D σ H h=>by
  obtain ⟨B,θ,ρ,F,w⟩:=h
  exact ZdS F w .non rfl
def mIf (t:TMr) (f g:SM):SM:=fun ρ θ=>(t ρ θ).bind fun k θ=>if k=true then f ρ θ else g ρ θ
theorem ZI {c:Expr} {a b:List Stmt} {t:TMr} {f g:SM} {pos:Pos} (hc:MT X c t) (ha:MSs X a f) (hb:MSs X b g):MS X (.If c a b pos) (mIf t f g):=PS.imp (Zu3 hc ha hb) fun D σ H h=>by
  obtain ⟨B,θ,ρ,F,w⟩:=h
  refine ZdB (Zpe F w) ?_
  rintro k H1 ⟨B1,θ1,E1,F1,w1⟩
  cases k with
  | true=>rw [if_pos rfl] at w1 ⊢; exact ⟨B1,θ1,ρ,F1,w1⟩
  | false=>rw [if_neg Bool.false_ne_true] at w1 ⊢; exact ⟨B1,θ1,ρ,F1,w1⟩
theorem Frm.set {B:Bx} {θ:Sto} {ρ:List Sl} {σ:St} {H:Hp} (F:Frm X.cl B θ ρ σ H) (i:Nat) {d:D} {v:V} (r:RepV B H d v):Frm X.cl B θ (ρ.set i (.val d)) (σ.set i (some v)) H:=by
  have oth:∀(j:Nat) (s:Sl),(ρ.set i (Sl.val d))[j]?=some s→(j=i∧s=.val d∧j < σ.length)∨(j≠i∧ρ[j]?=some s):=fun j s e=>by
    by_cases q:j=i
    · subst q
      have hl:j < ρ.length:=by
        have:=(List.getElem?_eq_some_iff.mp e).1
        simpa using this
      rw [List.getElem?_set_self hl] at e
      cases e
      exact .inl ⟨rfl,rfl,by rw [←F.len]; exact hl⟩
    · rw [List.getElem?_set_ne (Ne.symm q)] at e
      exact .inr ⟨q,e⟩
  refine ⟨F.good,by simp [F.len],fun j e h=>?_,fun j xs h=>?_,fun j k xs ys a hne h1 h2 h3=>?_⟩
  · rcases oth j _ h with ⟨rfl,z,hl⟩ | ⟨q,z⟩
    · cases z; exact ⟨v,by rw [List.getElem?_set_self hl],r⟩
    · rw [List.getElem?_set_ne (Ne.symm q)]; exact F.val j e z
  · rcases oth j _ h with ⟨rfl,z,hl⟩ | ⟨q,z⟩
    · cases z
    · rw [List.getElem?_set_ne (Ne.symm q)]; exact F.own j xs z
  · rcases oth j _ h1 with ⟨_,z,_⟩ | ⟨q1,z1⟩
    · cases z
    · rcases oth k _ h2 with ⟨_,z,_⟩ | ⟨q2,z2⟩
      · cases z
      · rw [List.getElem?_set_ne (Ne.symm q1)] at h3
        rw [List.getElem?_set_ne (Ne.symm q2)]
        exact F.ne j k xs ys a hne z1 z2 h3
def ZM (i:Nat) (f:EM):SM:=fun ρ θ=>(f ρ θ).bind fun d θ=>.ok (.nx,ρ.set i (.val d)) θ
theorem Zz (i:Nat) {x:Str} {e:Expr} {f:EM} {pos pos':Pos} (hN:X.N.Nodup) (he:ME X e f) (hi:X.N[i]?=some x:=by rfl) (hx:Loc X.env.scope x:=by first | exact Or.inl rfl | exact Or.inr rfl)
    (hs:swapsWith e (some (.Name x pos')) pos.line X.env=pure false:=by rfl) (hf:X.fn x=true∨X.env.scope.names.lookup x=some .local:=by first | exact .inl rfl | exact .inr rfl):MS X (.Assign [.Name x pos'] e pos) (ZM i f):=
  PS.imp (Zpo hN hi hx he hs hf) fun D σ H h=>by
  obtain ⟨B,θ,ρ,F,w⟩:=h
  refine Z9 (Zhc F w) ?_
  rintro v H1 ⟨B1,θ1,d,E1,F1,rd,w1⟩
  exact w1 B1 H1 _ (ExtS.refl _ _) (F1.set i rd)
theorem ZkV (i:Nat) {x y:Str} {px py pos spos:Pos} {iter elt:Expr} {scope:Scope} {N':List Str} {src:List Nat} {sc:Scope} {N:List Str} {fi:IM} {fe:EM} (hnd:X.N.Nodup) (S:Zby scope sc x N N' src) (hsc:X.env.scope=sc) (hN:X.N=N) (hi:MI X (.Name x px) iter fi)
    (helt:∀(cl:List (Str×Addr)) (C:Addr) (s₀:Shared) (H₀:Hp) (fp:List Addr),ME (X.comp scope N' cl C s₀ H₀ fp) elt fe) (hi':X.N[i]?=some y:=by rfl)
    (hsw:swapsWith (.ListComp elt [⟨.Name x px,iter,[],0⟩] scope pos) (some (.Name y py)) spos.line X.env=pure true:=by rfl)
    (hy:X.env.scope.names.lookup y=some .local:=by rfl) (hcm:X.calm=true:=by rfl) (hs:∀v,foldedSetIterable iter X.env v=pure v:=by intro _; rfl) :
    MS X (.Assign [.Name y py] (.ListComp elt [⟨.Name x px,iter,[],0⟩] scope pos) spos) (ZM i (ZeD fi src fe)):=
  PS.imp (Zu2 (te:=tM X fe) hnd hi' S hsc hN hi (fun cl C s₀ H₀ fp=>helt cl C s₀ H₀ fp) hsw hy hcm hs) fun D σ H h=>by
  obtain ⟨B,θ,ρ,F,w⟩:=h
  refine Zmg σ H _ (Z9 (Zhc F w) ?_)
  rintro v H1 ⟨B1,θ1,d,E1,F1,rd,w1⟩
  exact w1 B1 H1 _ (ExtS.refl _ _) (F1.set i rd)
end
end
end L2.MM
namespace L2.MM
open PySem PySem.Spec PyProof.Rows PySem.SeqAt
noncomputable section
variable {X:Cx}
def Zfc (k:SM):Fl×List Sl→Sto→R (Fl×List Sl)
  | (.nx,ρ),θ=>k ρ θ
  | (.ct,ρ),θ=>k ρ θ
  | (.bk,ρ),θ=>.ok (.nx,ρ) θ
  | (.rt d,ρ),θ=>.ok (.rt d,ρ) θ
theorem wpS.loop {σ:St} {B:Bx} {H:Hp} {r:R (Fl×List Sl)} {k:SM} {Dn:ZeY} (w:wpS X σ B H (r.bind (Zfc k)) Dn) :
    wpS X σ B H r { Dn with nx:=fun σ' H'=>∃B' θ' ρ',ExtS B B' H H'∧Frm X.cl B' θ' ρ' σ' H'∧wpS X σ' B' H' (k ρ' θ') Dn,ct:=fun σ' H'=>∃B' θ' ρ',ExtS B B' H H'∧Frm X.cl B' θ' ρ' σ' H'∧wpS X σ' B' H' (k ρ' θ') Dn,bk:=Dn.nx }:=by
  cases r with
  | ex c θ'=>exact w
  | bad=>exact w
  | ok p θ'=>
    obtain ⟨fl,ρ'⟩:=p
    intro B' H' σ' E F
    cases fl with
    | nx=>exact ⟨B',θ',ρ',E,F,wpS.trans w E⟩
    | ct=>exact ⟨B',θ',ρ',E,F,wpS.trans w E⟩
    | bk=>exact w B' H' σ' E F
    | rt d=>exact w B' H' σ' E F
theorem wpS.mono {σ:St} {B:Bx} {H:Hp} {r:R (Fl×List Sl)} {D D':ZeY} (w:wpS X σ B H r D) (h1:∀σ H,D.nx σ H→D'.nx σ H) (h2:∀v H,D.rt v H→D'.rt v H) (h3:∀σ H,D.bk σ H→D'.bk σ H) (h4:∀σ H,D.ct σ H→D'.ct σ H):wpS X σ B H r D':=by
  cases r with
  | ex c θ'=>exact w
  | bad=>exact w
  | ok p θ'=>
    obtain ⟨fl,ρ'⟩:=p
    intro B' H' σ' E F
    have:=w B' H' σ' E F
    cases fl with
    | nx=>exact h1 _ _ this
    | ct=>exact h4 _ _ this
    | bk=>exact h3 _ _ this
    | rt d=>exact fun v r=>h2 _ _ (this v r)
abbrev TgM:=D→List Sl→Option (List Sl)
def tMG (X:Cx) (g:TgM):TG:=fun v σ H Q=>∃B θ ρ d ρ',Frm X.cl B θ ρ σ H∧RepV B H d v∧g d ρ=some ρ'∧∀σ',Frm X.cl B θ ρ' σ' H→Q σ' H
def MG (X:Cx) (tg:Expr) (g:TgM):Prop:=PG X tg (tMG X g)
theorem PG.imp {tg:Expr} {t t':TG} (h:PG X tg t) (hi:∀v σ H Q,t' v σ H Q→t v σ H Q):PG X tg t':=fun pins s σ H v u Q I r q=>h pins s σ H v u Q I r (hi v σ H Q q)
def gNm (i:Nat):TgM:=fun d ρ=>some (ρ.set i (.val d))
theorem ZfI (i:Nat) {x:Str} {pos:Pos} (hN:X.N.Nodup) (hi:X.N[i]?=some x:=by rfl) (hx:Loc X.env.scope x:=by first | exact Or.inl rfl | exact Or.inr rfl) (hf:X.fn x=true∨X.env.scope.names.lookup x=some .local:=by first | exact .inl rfl | exact .inr rfl):MG X (.Name x pos) (gNm i):=
  PG.imp (Zfz hN hi hx hf) fun v σ H Q h=>by
  obtain ⟨B,θ,ρ,d,ρ',F,r,e,q⟩:=h
  cases e
  exact q _ (F.set i r)
open Classical in
def ZcF (S:Src) (all:List D) (tg:TgM) (body:SM):List D→SM
  | []=>fun ρ θ=>if S.items θ=some all then .ok (.nx,ρ) θ else .bad
  | x::r=>fun ρ θ=>if S.items θ=some all then (match tg x ρ with
    | none=>.bad
    | some ρ1=>(body ρ1 θ).bind (Zfc (ZcF S all tg body r))) else .bad
def Zd5 (fi:IM) (tg:TgM) (body:SM):SM:=fun ρ θ=>(fi ρ θ).bind fun S θ=>match S.items θ with
  | some xs=>ZcF S xs tg body xs ρ θ
  | none=>.bad
open Classical in
theorem Zhp {tg iter:Expr} {body:List Stmt} {fi:IM} {g:TgM} {fb:SM} {pos:Pos} (hp:PassesOwn (model X.prog X.w) X.A X.env X.xe) (hi:MI X tg iter fi) (hg:MG X tg g) (hb:MSs X body fb) (hc:X.calm=true:=by rfl)
    (hs:∀x,foldedSetIterable iter X.env x=pure x:=by intro _; rfl):MS X (.For tg iter body [] pos) (Zd5 fi g fb):=
  PS.imp (Zpp hp hc hi hg hb hs) fun Dn σ H h=>by
  obtain ⟨B,θ,ρ,F,w⟩:=h
  refine ⟨B,θ,ρ,F,(wpS.bind (Rel:=SrcRep X.K) w).mono ?_⟩
  rintro J H1 ⟨B1,θ1,S,E1,G1,rJ,w1⟩
  split at w1
  · rename_i xs e1
    refine ⟨fun i m σ H=>∃B θ ρ,Frm X.cl B θ ρ σ H∧SrcRep X.K B H S J∧m=xs.length-i∧i≤xs.length∧wpS X σ B H (ZcF S xs g fb (xs.drop i) ρ θ) Dn,⟨xs.length,B1,θ1,ρ,F.ext E1 G1,rJ,rfl,Nat.zero_le _,w1⟩,?_⟩
    rintro i m σ2 H2 ⟨B2,θ2,ρ2,F2,rJ2,rfl,hi2,w2⟩
    by_cases hlt:i<xs.length
    · rw [List.drop_eq_getElem_cons hlt] at w2
      unfold ZcF at w2
      split at w2
      · rename_i e2
        obtain ⟨g1,g2⟩:=(ZiK F2.good rJ2 e2).1 i xs[i] (List.getElem?_eq_getElem hlt)
        split at w2
        · exact w2.elim
        · rename_i ρ3 e3
          refine .inr ⟨g1,fun σ' H'=>∃B' θ' ρ',ExtS B2 B' H2 H'∧Frm X.cl B' θ' ρ' σ' H'∧wpS X σ' B' H' (ZcF S xs g fb (xs.drop (i+1)) ρ' θ') Dn,?_,fun x H' hy=>?_⟩
          · rintro σ' H' ⟨B',θ',ρ',E',F',w'⟩
            exact ⟨xs.length-(i+1),by omega,B',θ',ρ',F',rJ2.ext E',rfl,hlt,w'⟩
          · obtain ⟨rfl,rx⟩:=g2 x H' hy
            refine ⟨B2,θ2,ρ2,xs[i],ρ3,F2,rx,e3,fun σ' F'=>⟨B2,θ2,ρ3,F',?_⟩⟩
            have w3:=wpS.loop w2
            exact wpS.trans w3 (ExtS.refl _ _)
      · exact w2.elim
    · have e:i=xs.length:=by omega
      subst e
      rw [List.drop_length] at w2
      unfold ZcF at w2
      split at w2
      · rename_i e2
        exact .inl ⟨(ZiK F2.good rJ2 e2).2,ZdS F2 w2⟩
      · exact w2.elim
  · exact w1.elim
def ZcB (t:TMr) (body:SM):Nat→SM
  | 0=>ZrI
  | n+1=>fun ρ θ=>(t ρ θ).bind fun k θ=>if k=true then (body ρ θ).bind (Zfc (ZcB t body n)) else .ok (.nx,ρ) θ
theorem Zho (n:Nat) {c:Expr} {body:List Stmt} {t:TMr} {fb:SM} {pos:Pos} (hp:PassesOwn (model X.prog X.w) X.A X.env X.xe) (hc:MT X c t) (hb:MSs X body fb):MS X (.While c body [] pos) (ZcB t fb n):=
  PS.imp (Zpn hp hc hb) fun Dn σ H h=>by
  obtain ⟨B,θ,ρ,F,w⟩:=h
  refine ⟨fun m σ H=>∃B θ ρ,Frm X.cl B θ ρ σ H∧wpS X σ B H (ZcB t fb m ρ θ) Dn,⟨n,B,θ,ρ,F,w⟩,?_⟩
  rintro m σ2 H2 ⟨B2,θ2,ρ2,F2,w2⟩
  cases m with
  | zero=>exact w2.elim
  | succ m=>
    refine ZdB (Zpe F2 w2) ?_
    rintro k H3 ⟨B3,θ3,E3,F3,w3⟩
    cases k with
    | true=>
      rw [if_pos rfl] at w3 ⊢
      refine ⟨_,?_,⟨B3,θ3,ρ2,F3,wpS.loop w3⟩⟩
      rintro σ' H' ⟨B',θ',ρ',E',F',w'⟩
      exact ⟨m,Nat.lt_succ_self _,B',θ',ρ',F',w'⟩
    | false=>
      rw [if_neg Bool.false_ne_true] at w3 ⊢
      exact ZdS F3 w3
theorem Frm.setOwn {cl:Mo} {B:Bx} {θ:Sto} {ρ:List Sl} {σ:St} {H:Hp} (F:Frm cl B θ ρ σ H) (i:Nat) {p:Addr} (hp:H p=none) {xs:List D} {vs:List V} (r:RepL B H xs vs) :
    ExtS B { B with os:=p::B.os } H (upd H p (.lst vs))∧Frm cl { B with os:=p::B.os } θ (ρ.set i (.own xs)) (σ.set i (some (.ref p))) (upd H p (.lst vs)):=by
  have E0:=ZcP F.good hp (.lst vs)
  have G0:=ZeH F.good hp (.lst vs)
  have ok:=F.good.okNone hp
  have E:ExtS B { B with os:=p::B.os } H (upd H p (.lst vs)):=⟨E0.n,E0.m,E0.fr,E0.keep,E0.sm,fun a h=>by
    rcases List.mem_cons.mp h with rfl | h
    · exact .inr hp
    · exact .inl h,rfl,rfl⟩
  refine ⟨E,?_⟩
  have E1:ExtS B { B with os:=p::B.os } H (upd H p (.lst vs)):=E
  have G:Good cl { B with os:=p::B.os } θ (upd H p (.lst vs)):=⟨G0.len,G0.inj,fun j c e=>(F.good.cel j c e).ext E fun u q=>by rw [ZQ (zl q hp)]; exact q,fun j hj=>⟨(G0.cF j hj).1,fun z=>by
      rcases List.mem_cons.mp z with z | z
      · exact ok.1 j hj z
      · exact (G0.cF j hj).2 z⟩,G0.Fs,fun a z=>by
      rcases List.mem_cons.mp z with rfl | z
      · rw [zF]; simp
      · exact G0.oS a z,fun a z=>by
      rcases List.mem_cons.mp z with rfl | z
      · exact ok.2.1
      · exact G0.oF a z,G0.kc⟩
  have oth:∀(j:Nat) (s:Sl),(ρ.set i (Sl.own xs))[j]?=some s→(j=i∧s=.own xs∧j < σ.length)∨(j≠i∧ρ[j]?=some s):=fun j s e=>by
    by_cases q:j=i
    · subst q
      have hl:j < ρ.length:=by
        have:=(List.getElem?_eq_some_iff.mp e).1
        simpa using this
      rw [List.getElem?_set_self hl] at e
      cases e
      exact .inl ⟨rfl,rfl,by rw [←F.len]; exact hl⟩
    · rw [List.getElem?_set_ne (Ne.symm q)] at e
      exact .inr ⟨q,e⟩
  have old:∀j ys,ρ[j]?=some (Sl.own ys)→∀a,σ[j]?=some (some (V.ref a))→a≠p:=fun j ys h a e z=>by
    obtain ⟨a',us,q1,q2,q3,q4⟩:=F.own j ys h
    rw [e] at q1
    cases q1
    rw [z,hp] at q3
    cases q3
  refine ⟨G,by simp [F.len],fun j d h=>?_,fun j ys h=>?_,fun j k ys zs a hne h1 h2 h3=>?_⟩
  · rcases oth j _ h with ⟨_,z,_⟩ | ⟨q,z⟩
    · cases z
    · rw [List.getElem?_set_ne (Ne.symm q)]
      obtain ⟨v,q1,q2⟩:=F.val j d z
      exact ⟨v,q1,q2.ext E⟩
  · rcases oth j _ h with ⟨rfl,z,hl⟩ | ⟨q,z⟩
    · cases z
      exact ⟨p,vs,by rw [List.getElem?_set_self hl],List.mem_cons_self,zF,r.ext E⟩
    · rw [List.getElem?_set_ne (Ne.symm q)]
      obtain ⟨a,us,q1,q2,q3,q4⟩:=F.own j ys z
      exact ⟨a,us,q1,List.mem_cons_of_mem _ q2,by rw [ZQ (zl q3 hp)]; exact q3,q4.ext E⟩
  · rcases oth j _ h1 with ⟨rfl,z1,hl⟩ | ⟨q1,z1⟩
    · rcases oth k _ h2 with ⟨rfl,z2,_⟩ | ⟨q2,z2⟩
      · exact absurd rfl hne
      · rw [List.getElem?_set_self hl] at h3
        cases h3
        rw [List.getElem?_set_ne (Ne.symm q2)]
        exact fun z=>old k zs z2 _ z rfl
    · rw [List.getElem?_set_ne (Ne.symm q1)] at h3
      rcases oth k _ h2 with ⟨rfl,z2,hl⟩ | ⟨q2,z2⟩
      · rw [List.getElem?_set_self hl]
        intro z
        cases z
        exact old j ys z1 _ h3 rfl
      · rw [List.getElem?_set_ne (Ne.symm q2)]
        exact F.ne j k ys zs a hne z1 z2 h3
def ZgW (i:Nat) (f:AM):SM:=fun ρ θ=>(f ρ θ).bind fun xs θ=>if xs.length≤BIG then .ok (.nx,ρ.set i (.own xs)) θ else .bad
theorem Zpf {σ:St} {H:Hp} {B:Bx} {θ:Sto} {ρ:List Sl} {f:AM} {k:List D→Sto→R (Fl×List Sl)} {Dn:ZeY} (F:Frm X.cl B θ ρ σ H) (h:wpS X σ B H ((f ρ θ).bind k) Dn) :
    tMA X f σ H (fun v H1=>∃B1 θ1 d,ExtE B B1 H H1∧Frm X.cl B1 θ1 ρ σ H1∧RepL B1 H1 d v∧wpS X σ B1 H1 (k d θ1) Dn):=
  ⟨B,θ,ρ,F,(wpS.bind (Rel:=RepL) h).mono fun v H1 ⟨B1,θ1,d,E,G,r,w⟩=>⟨B1,θ1,d,E,F.ext E G,r,w⟩⟩
theorem Zin (i:Nat) {x:Str} {es:List Expr} {f:AM} {pos pos' lpos:Pos} (hN:X.N.Nodup) (he:MA X es f) (hi:X.N[i]?=some x:=by rfl) (hx:Loc X.env.scope x:=by first | exact Or.inl rfl | exact Or.inr rfl)
    (hs:swapsWith (.List es lpos) (some (.Name x pos')) pos.line X.env=pure false:=by rfl) (hf:X.fn x=true∨X.env.scope.names.lookup x=some .local:=by first | exact .inl rfl | exact .inr rfl):MS X (.Assign [.Name x pos'] (.List es lpos) pos) (ZgW i f):=
  PS.imp (Zpo hN hi hx (Zpw he) hs hf) fun D σ H h=>by
  obtain ⟨B,θ,ρ,F,w⟩:=h
  refine ZbZ (Zpf F w) ?_
  rintro vs H1 ⟨B1,θ1,xs,E1,F1,rd,w1⟩
  split at w1
  · rename_i hz
    refine ⟨by rw [rd.len]; exact Zat hz,fun p hp=>?_⟩
    obtain ⟨E2,F2⟩:=F1.setOwn i hp rd
    exact w1 _ _ _ E2 F2
  · exact w1.elim
theorem Frm.updOwn {cl:Mo} {B:Bx} {θ:Sto} {ρ:List Sl} {σ:St} {H:Hp} (F:Frm cl B θ ρ σ H) {i:Nat} {xs ys:List D} {us:List V} {a:Addr} (h:ρ[i]?=some (Sl.own xs)) (ha:σ[i]?=some (some (.ref a))) (r:RepL B H ys us) :
    ExtS B B H (upd H a (.lst us))∧Frm cl B θ (ρ.set i (.own ys)) σ (upd H a (.lst us)):=by
  obtain ⟨a',vs,q1,q2,q3,q4⟩:=F.own i xs h
  rw [ha] at q1
  cases q1
  have hc:∀j,j<B.n→B.m j≠a:=fun j hj z=>(F.good.cF j hj).2 (by rw [z]; exact q2)
  have E:ExtS B B H (upd H a (.lst us)):=⟨Nat.le_refl _,fun _ _=>rfl,fun i h h'=>absurd h' (Nat.not_lt.mpr h),fun b o e _ hb=>by rw [ZQ (fun z=>hb (by rw [z]; exact q2))]; exact e,fun b e=>by
    by_cases q:b=a
    · rw [q,zF]; simp
    · rw [ZQ q]; exact e,fun _ h=>.inl h,rfl,rfl⟩
  have hl:i < ρ.length:=(List.getElem?_eq_some_iff.mp h).1
  have oth:∀(j:Nat) (s:Sl),(ρ.set i (Sl.own ys))[j]?=some s→(j=i∧s=.own ys)∨(j≠i∧ρ[j]?=some s):=fun j s e=>by
    by_cases q:j=i
    · subst q
      rw [List.getElem?_set_self hl] at e
      cases e
      exact .inl ⟨rfl,rfl⟩
    · rw [List.getElem?_set_ne (Ne.symm q)] at e
      exact .inr ⟨q,e⟩
  refine ⟨E,⟨⟨F.good.len,F.good.inj,fun j c e=>(F.good.cel j c e).ext E fun u q=>by
      have hj:j<B.n:=by rw [←F.good.len]; exact (List.getElem?_eq_some_iff.mp e).1
      rw [ZQ (hc j hj)]; exact q,F.good.cF,fun b z=>E.sm b (F.good.Fs b z),fun b z=>E.sm b (F.good.oS b z),F.good.oF,F.good.kc⟩,by simp [F.len],fun j d e=>?_,fun j zs e=>?_,fun j k zs ws b hne h1 h2 h3=>?_⟩⟩
  · rcases oth j _ e with ⟨_,z⟩ | ⟨_,z⟩
    · cases z
    · obtain ⟨v,p1,p2⟩:=F.val j d z
      exact ⟨v,p1,p2.ext E⟩
  · rcases oth j _ e with ⟨rfl,z⟩ | ⟨q,z⟩
    · cases z
      exact ⟨a,us,ha,q2,zF,r.ext E⟩
    · obtain ⟨b,ws,p1,p2,p3,p4⟩:=F.own j zs z
      refine ⟨b,ws,p1,p2,?_,p4.ext E⟩
      rw [ZQ (fun z'=>F.ne i j xs zs a (Ne.symm q) h z ha (by rw [←z']; exact p1))]
      exact p3
  · have o1:∃zs',ρ[j]?=some (Sl.own zs'):=by
      rcases oth j _ h1 with ⟨rfl,_⟩ | ⟨_,z⟩
      · exact ⟨xs,h⟩
      · exact ⟨_,z⟩
    have o2:∃ws',ρ[k]?=some (Sl.own ws'):=by
      rcases oth k _ h2 with ⟨rfl,_⟩ | ⟨_,z⟩
      · exact ⟨xs,h⟩
      · exact ⟨_,z⟩
    obtain ⟨zs',o1⟩:=o1
    obtain ⟨ws',o2⟩:=o2
    exact F.ne j k zs' ws' b hne o1 o2 h3
def Zd6 (i:Nat) (f:EM):SM:=fun ρ θ=>(f ρ θ).bind fun d θ=>match ρ[i]? with
  | some (Sl.own xs)=>if xs.length<BIG then .ok (.nx,ρ.set i (.own (xs++[d]))) θ else .bad
  | _=>.bad
theorem Zio (i:Nat) {x:Str} {e:Expr} {f:EM} {p apos pos pos':Pos} (he:ME X e f) (hN:X.N[i]?=some x:=by rfl) (hv:Vis X.env.scope x:=by first | exact Or.inl rfl | exact Or.inr (Or.inl rfl) | exact Or.inr (Or.inr rfl))
    (hd:(x == ("__debug__":Str))=false:=by decide) (hcd:(x == ("__classdict__":Str))=false:=by decide)
    (hpe:∀{to:TE},PE X (.Name x p) to→PE X (.Call (.Attribute (.Name x p) "append" apos) [e] [] pos) (tBM X.K "list" Zmk to (Zsl (tM X f) Zs6)))
    (hs:swapsWith (.Call (.Attribute (.Name x p) "append" apos) [e] [] pos) none pos'.line X.env=pure false:=by rfl):MS X (.Expr (.Call (.Attribute (.Name x p) "append" apos) [e] [] pos) pos') (Zd6 i f):=
  PS.imp (Zmn (hpe (Zpt hN hv hd hcd)) hs) fun D σ H h=>by
  obtain ⟨B,θ,ρ,F,w⟩:=h
  have own:∃xs,ρ[i]?=some (Sl.own xs):=by
    unfold Zd6 at w
    cases q:f ρ θ with
    | bad=>rw [q] at w; exact w.elim
    | ex c θ'=>rw [q] at w; exact False.elim w
    | ok d θ'=>
      rw [q] at w
      simp only [R.bind_ok] at w
      split at w
      · rename_i xs e; exact ⟨xs,e⟩
      · exact w.elim
  obtain ⟨xs,hx⟩:=own
  obtain ⟨a,vs,q1,q2,q3,q4⟩:=F.own i xs hx
  refine ⟨.ref a,q1,.inl ⟨rfl,vs,SqL.of q3⟩,?_⟩
  refine Z9 (Zhc F w) ?_
  rintro y H1 ⟨B1,θ1,d,E1,F1,rd,w1⟩
  rw [hx] at w1
  simp only at w1
  split at w1
  · rename_i hz
    obtain ⟨a',us,p1,p2,p3,p4⟩:=F1.own i xs hx
    rw [q1] at p1
    cases p1
    refine ⟨a,us,y,rfl,rfl,p3,by rw [p4.len]; exact Nat.lt_of_lt_of_le hz (Zat (Nat.le_refl _)),?_⟩
    obtain ⟨E2,F2⟩:=F1.updOwn hx q1 (p4.app (show RepL B1 H1 [d] [y] from ⟨y,[],rfl,rd,rfl⟩))
    exact w1 _ _ _ E2 F2
  · exact w1.elim
def Zd4 (i:Nat) (f:SM):SM:=fun ρ θ=>match ρ[i]? with
  | some (Sl.own xs)=>f (ρ.set i (.val (.lst xs))) θ
  | _=>f ρ θ
theorem ZlE {i:Nat} {f:SM} {D:ZeY} {σ:St} {H:Hp} (h:tMS X (Zd4 i f) D σ H):tMS X f D σ H:=by
  obtain ⟨B,θ,ρ,F,w⟩:=h
  unfold Zd4 at w
  split at w
  · rename_i xs hx
    obtain ⟨a,vs,q1,q2,q3,q4⟩:=F.own i xs hx
    let B':Bx:={ B with os:=B.os.filter fun b=>decide (b≠a) }
    have sub:∀b,b∈B'.os→b∈B.os∧b≠a:=fun b hb=>by
      have:=List.mem_filter.mp hb
      exact ⟨this.1,of_decide_eq_true this.2⟩
    have E:ExtS B B' H H:=⟨Nat.le_refl _,fun _ _=>rfl,fun i h h'=>absurd h' (Nat.not_lt.mpr h),fun _ _ e _ _=>e,fun _ e=>e,fun b hb=>.inl (sub b hb).1,rfl,rfl⟩
    have hc:∀j,j<B.n→B.m j≠a:=fun j hj z=>(F.good.cF j hj).2 (by rw [z]; exact q2)
    have G:Good X.cl B' θ H:=⟨F.good.len,F.good.inj,fun j c e=>(F.good.cel j c e).ext E fun _ q=>q,fun j hj=>⟨(F.good.cF j hj).1,fun z=>(F.good.cF j hj).2 (sub _ z).1⟩,F.good.Fs,fun b z=>F.good.oS b (sub b z).1,fun b z=>F.good.oF b (sub b z).1,F.good.kc⟩
    have rv:RepV B' H (.lst xs) (.ref a):=⟨a,vs,rfl,q3,⟨hc,F.good.oF a q2,fun z=>(sub a z).2 rfl⟩,q4.ext E⟩
    have hl:i < ρ.length:=(List.getElem?_eq_some_iff.mp hx).1
    have oth:∀(j:Nat) (s:Sl),(ρ.set i (Sl.val (.lst xs)))[j]?=some s→(j=i∧s=.val (.lst xs))∨(j≠i∧ρ[j]?=some s):=fun j s e=>by
      by_cases q:j=i
      · subst q
        rw [List.getElem?_set_self hl] at e
        cases e
        exact .inl ⟨rfl,rfl⟩
      · rw [List.getElem?_set_ne (Ne.symm q)] at e
        exact .inr ⟨q,e⟩
    refine ⟨B',θ,_,⟨G,by simp [F.len],fun j d e=>?_,fun j ys e=>?_,fun j k ys zs b hne h1 h2 h3=>?_⟩,wpS.trans w E⟩
    · rcases oth j _ e with ⟨rfl,z⟩ | ⟨_,z⟩
      · cases z; exact ⟨_,q1,rv⟩
      · obtain ⟨v,p1,p2⟩:=F.val j d z
        exact ⟨v,p1,p2.ext E⟩
    · rcases oth j _ e with ⟨_,z⟩ | ⟨q,z⟩
      · cases z
      · obtain ⟨b,ws,p1,p2,p3,p4⟩:=F.own j ys z
        refine ⟨b,ws,p1,List.mem_filter.mpr ⟨p2,decide_eq_true fun z'=>?_⟩,p3,p4.ext E⟩
        subst z'
        exact F.ne i j xs ys b (Ne.symm q) hx z q1 p1
    · rcases oth j _ h1 with ⟨_,z⟩ | ⟨_,z1⟩
      · cases z
      · rcases oth k _ h2 with ⟨_,z⟩ | ⟨_,z2⟩
        · cases z
        · exact F.ne j k ys zs b hne z1 z2 h3
  · exact ⟨B,θ,ρ,F,w⟩
theorem Zgd (i:Nat) {st:Stmt} {f:SM} (h:MS X st f):MS X st (Zd4 i f):=PS.imp h fun _ _ _ q=>ZlE q
def ZdU (n:Nat) (ds:List D):List Sl:=ds.map Sl.val++List.replicate (n-ds.length) Sl.no
def ZP (np nn:Nat) (fb:SM):GM:=fun ds θ=>if ds.length=np then (fb (ZdU nn ds) θ).bind fun p θ=>match p.1 with
  | .nx=>.ok .non θ
  | .rt d=>.ok d θ
  | _=>.bad
  else .bad
def spM (X:Mo) (f:GM):Sp:=fun vs H Q E=>∃B θ ds,B.os=[]∧Good X B θ H∧RepL B H ds vs∧(match f ds θ with
  | .ok d θ'=>∀B' H' v,ExtE B B' H H'→Good X B' θ' H'→RepV B' H' d v→Q v H'
  | .ex c θ'=>False
  | .bad=>False)
def MDef (P:Program) (w:World) (K:PySem.W.Frag) (mg:Str→Option Value) (base:Heap) (k:Nat) (x:Str) (f:GM):Prop:=∃ps,Def P w K mg base k x ps (spM ⟨z8 mg,K⟩ f)
theorem MDef.mono {P:Program} {w:World} {K:PySem.W.Frag} {mg:Str→Option Value} {base:Heap} {x:Str} {f:GM} {j k:Nat} (D:MDef P w K mg base j x f) (h:j≤k):MDef P w K mg base k x f:=let ⟨ps,q⟩:=D; ⟨ps,q.mono h⟩
theorem Zm6 {cl:Mo} {B:Bx} {θ:Sto} {H:Hp} {ds:List D} {vs:List V} {N:List Str} {nn:Nat} (G:Good cl B θ H) (r:RepL B H ds vs) (hn:N.length=nn):Frm cl B θ (ZdU nn ds) (ZdC N vs) H:=by
  subst hn
  have hl:=r.len
  have key:∀(i:Nat) (s:Sl),(ZdU N.length ds)[i]?=some s→s=.no∨∃d,s=.val d∧∃v,(ZdC N vs)[i]?=some (some v)∧RepV B H d v:=fun i s e=>by
    unfold ZdU at e
    by_cases q:i<ds.length
    · rw [List.getElem?_append_left (by simpa using q),List.getElem?_map,List.getElem?_eq_getElem q] at e
      cases e
      obtain ⟨v,h1,h2⟩:=r.get (List.getElem?_eq_getElem q)
      refine .inr ⟨_,rfl,v,?_,h2⟩
      unfold ZdC
      rw [List.getElem?_append_left (by simpa [hl] using q),List.getElem?_map,h1]
      rfl
    · rw [List.getElem?_append_right (by simpa using q)] at e
      exact .inl (List.eq_of_mem_replicate (List.mem_of_getElem? e))
  refine ⟨G,by simp [ZdU,ZdC,hl],fun i d e=>?_,fun i xs e=>?_,fun i j xs ys a _ e _=>?_⟩
  · rcases key i _ e with z | ⟨d',z,v',h1,h2⟩
    · cases z
    · cases z; exact ⟨v',h1,h2⟩
  · rcases key i _ e with z | ⟨d',z,_⟩<;>cases z
  · rcases key i _ e with z | ⟨d',z,_⟩<;>cases z
theorem mfn {P:Program} {w:World} {K:PySem.W.Frag} {mg:Str→Option Value} {base:Heap} {x qual:Str} {st:Stmt} {N ps:List Str} {k:Nat} {fb:SM} {f:Addr} {fd:FuncData} (F:Fun K x qual st f fd) (S:Zp N ps (Zg st)) (np nn:Nat) (hp:ps.length=np) (hn:N.length=nn)
    (hbody:∀(cdv:Value) (A:Around) (outer:List Env) (s:Shared) (H:Hp) (E:XK),Room k (A.deeper (envOfC qual (Zg st) s.heap.objs.size f cdv))→MSs (ZgT CX0 P w K mg base N qual (Zg st) f cdv A outer s H E).nox (Zn st) fb) :
    FnOk P w K mg base CX0 (k+1) f fd ps (spM ⟨z8 mg,K⟩ (ZP np nn fb)):=by
  refine F.ok S ?_ ?_
  · rintro vs H Q E ⟨B,θ,ds,_,_,r,q⟩
    unfold ZP at q
    split at q
    · rename_i h
      split at h
      · rename_i hl; rw [r.len,hl,hp]
      · cases h
    · exact q.elim
    · exact q.elim
  · intro cdv A outer s H vs Q E hr h
    obtain ⟨B,θ,ds,hos,G,r,q⟩:=h
    refine ⟨tMS (ZgT CX0 P w K mg base N qual (Zg st) f cdv A outer s H E).nox fb,hbody cdv A outer s H E hr,B,θ,ZdU nn ds,Zm6 G r hn,?_⟩
    unfold ZP at q
    by_cases hl:ds.length=np
    · rw [if_pos hl] at q
      cases e:fb (ZdU nn ds) θ with
      | bad=>rw [e] at q; exact q.elim
      | ex c θ'=>rw [e] at q; exact q.elim
      | ok p θ'=>
        rw [e] at q
        obtain ⟨fl,ρ'⟩:=p
        intro B' H' σ' E' F'
        have hos':∀a,a∈B.os→False:=fun a ha=>by rw [hos] at ha; cases ha
        let B2:Bx:={ B' with os:=[] }
        have E2:ExtE B B2 H H':=⟨⟨E'.n,E'.m,E'.fr,E'.keep,E'.sm,fun a ha=>(nomatch ha),E'.F,E'.ks⟩,hos.symm,fun a o ha=>(hos' a ha).elim⟩
        have E3:ExtS B' B2 H' H':=⟨Nat.le_refl _,fun _ _=>rfl,fun i h h'=>absurd h' (Nat.not_lt.mpr h),fun _ _ e _ _=>e,fun _ e=>e,fun b hb=>(nomatch hb),rfl,rfl⟩
        have G2:Good ⟨z8 mg,K⟩ B2 θ' H':=⟨F'.good.len,F'.good.inj,fun j c e=>(F'.good.cel j c e).ext E3 fun _ q=>q,fun j hj=>⟨(F'.good.cF j hj).1,fun z=>nomatch z⟩,F'.good.Fs,fun b z=>(nomatch z),fun b z=>(nomatch z),F'.good.kc⟩
        cases fl with
        | nx=>exact q B2 H' .non E2 G2 rfl
        | rt d=>exact fun v rv=>q B2 H' v E2 G2 (rv.ext E3)
        | bk=>exact q.elim
        | ct=>exact q.elim
    · rw [if_neg hl] at q
      exact q.elim
theorem ZX {P:Program} {w:World} {K:PySem.W.Frag} {mg:Str→Option Value} {base:Heap} {x:Str} {st:Stmt} {N ps:List Str} {k:Nat} {fb:SM} (D0:Def0 K mg x st ps) (S:Zp N ps (Zg st)) (np nn:Nat) (hp:ps.length=np) (hn:N.length=nn)
    (hbody:∀(f:Addr) (cdv:Value) (A:Around) (outer:List Env) (s:Shared) (H:Hp) (E:XK),Room k (A.deeper (envOfC x (Zg st) s.heap.objs.size f cdv))→MSs (ZgT CX0 P w K mg base N x (Zg st) f cdv A outer s H E).nox (Zn st) fb):MDef P w K mg base (k+1) x (ZP np nn fb):=by
  obtain ⟨f,fd,F,b,m⟩:=D0
  exact ⟨ps,f,fd,mfn F S np nn hp hn (hbody f),b,F.kp,m⟩
def Bx.inC (B:Bx):Bx:={ B with F:=fun a=>B.F a∨a∈B.os,os:=[] }
theorem inC_ok {B:Bx} {a:Addr}:B.inC.ok a↔B.ok a:=by
  constructor
  · rintro ⟨h1,h2,h3⟩
    exact ⟨h1,fun z=>h2 (.inl z),fun z=>h2 (.inr z)⟩
  · rintro ⟨h1,h2,h3⟩
    exact ⟨h1,fun z=>z.elim h2 h3,fun z=>nomatch z⟩
mutual
theorem RepV.same {B B':Bx} {H:Hp} (hn:B'.n=B.n) (hm:B'.m=B.m) (hk:B'.ks=B.ks) (ho:∀a,B.ok a→B'.ok a):∀{d:D} {v:V},RepV B H d v→RepV B' H d v
  | .non,_,h=>h
  | .bl _,_,h=>h
  | .int _,_,h=>h
  | .str _,_,h=>h
  | .ty _,_,h=>h
  | .scr _,_,h=>by
    obtain ⟨a,e,h⟩:=h
    refine ⟨a,e,?_⟩
    rcases h with ⟨o,h,k⟩ | h
    · exact .inl ⟨o,h,ho a k⟩
    · exact .inr (by rw [hk]; exact h)
  | .tup _,_,h=>by obtain ⟨a,vs,e,h,k,l⟩:=h; exact ⟨a,vs,e,h,ho a k,RepL.same hn hm hk ho l⟩
  | .lst _,_,h=>by obtain ⟨a,vs,e,h,k,l⟩:=h; exact ⟨a,vs,e,h,ho a k,RepL.same hn hm hk ho l⟩
  | .ref l,_,h=>⟨by rw [hn]; exact h.1,by rw [hm]; exact h.2⟩
theorem RepL.same {B B':Bx} {H:Hp} (hn:B'.n=B.n) (hm:B'.m=B.m) (hk:B'.ks=B.ks) (ho:∀a,B.ok a→B'.ok a):∀{ds:List D} {vs:List V},RepL B H ds vs→RepL B' H ds vs
  | [],_,h=>h
  | _::_,_,h=>by obtain ⟨v,r,e,hv,hr⟩:=h; exact ⟨v,r,e,RepV.same hn hm hk ho hv,RepL.same hn hm hk ho hr⟩
end
theorem RepKV.same {κ:Type} {B B':Bx} {H:Hp} (hn:B'.n=B.n) (hm:B'.m=B.m) (hk:B'.ks=B.ks) (ho:∀a,B.ok a→B'.ok a):∀{ks:List (κ×D)} {vs:List (κ×V)},RepKV B H ks vs→RepKV B' H ks vs
  | _,_,.nil=>.nil
  | _,_,.cons h t=>.cons ⟨h.1,RepV.same hn hm hk ho h.2⟩ (RepKV.same hn hm hk ho t)
theorem CellOk.same {cl:Mo} {B B':Bx} {H:Hp} {a:Addr} {c:Cell} (hn:B'.n=B.n) (hm:B'.m=B.m) (hk:B'.ks=B.ks) (ho:∀a,B.ok a→B'.ok a) (k:CellOk cl B H a c):CellOk cl B' H a c:=by
  cases c with
  | lst xs=>obtain ⟨vs,e,r⟩:=k; exact ⟨vs,e,r.same hn hm hk ho⟩
  | dK kvs=>obtain ⟨vs,e,r⟩:=k; exact ⟨vs,e,r.same hn hm hk ho⟩
  | dT kvs=>obtain ⟨vs,e,r⟩:=k; exact ⟨vs,e,r.same hn hm hk ho⟩
  | ins C fs=>obtain ⟨dx,vs,e,r⟩:=k; exact ⟨dx,vs,e,r.same hn hm hk ho⟩
theorem Zqc {cl:Mo} {B:Bx} {θ:Sto} {H:Hp} (G:Good cl B θ H):Good cl B.inC θ H:=
  ⟨G.len,G.inj,fun i c e=>CellOk.same (B:=B) (B':=B.inC) rfl rfl rfl (fun a=>inC_ok.mpr) (G.cel i c e),fun i hi=>⟨fun z=>z.elim (G.cF i hi).1 (G.cF i hi).2,fun z=>nomatch z⟩,fun a z=>z.elim (G.Fs a) (G.oS a),fun a z=>(nomatch z),fun a z=>(nomatch z),G.kc⟩
theorem Zvc {cl:Mo} {B B':Bx} {θ θ':Sto} {H H':Hp} (G:Good cl B θ H) (E:ExtE B.inC B' H H') (G':Good cl B' θ' H') :
    ExtE B { B' with F:=B.F,os:=B.os } H H'∧Good cl { B' with F:=B.F,os:=B.os } θ' H'∧∀d v,RepV B' H' d v→RepV { B' with F:=B.F,os:=B.os } H' d v:=by
  have hF:B'.F=fun a=>B.F a∨a∈B.os:=E.F
  have ho:∀a,B'.ok a→Bx.ok { B' with F:=B.F,os:=B.os } a:=fun a ⟨h1,h2,h3⟩=>by
    rw [hF] at h2
    exact ⟨h1,fun z=>h2 (.inl z),fun z=>h2 (.inr z)⟩
  have keep:∀a o,H a=some o→(∀i,i<B.n→B.m i≠a)→H' a=some o:=fun a o h k=>E.keep a o h k (fun z=>nomatch z)
  refine ⟨⟨⟨E.n,E.m,E.fr,fun a o h k _=>keep a o h k,E.sm,fun a h=>.inl h,rfl,E.ks⟩,rfl,fun a o _ k h=>keep a o h k⟩,⟨G'.len,G'.inj,fun i c e=>CellOk.same (B:=B') (B':={ B' with F:=B.F,os:=B.os }) rfl rfl rfl ho (G'.cel i c e),fun i hi=>?_,fun a z=>E.sm a (G.Fs a z),fun a z=>E.sm a (G.oS a z),G.oF,G'.kc⟩,fun d v r=>RepV.same (B:=B') (B':={ B' with F:=B.F,os:=B.os }) rfl rfl rfl ho r⟩
  have:=(G'.cF i hi).1
  rw [hF] at this
  exact ⟨fun z=>this (.inl z),fun z=>this (.inr z)⟩
theorem ZmP {f:GM} {σ:St} {B:Bx} {θ:Sto} {H:Hp} {ds:List D} {vs:List V} {Q:VK} {E:XK} (G:Good X.cl B θ H) (r:RepL B H ds vs) (w:wpR X σ RepV B H (f ds θ) Q):spM X.cl f vs H Q E:=by
  refine ⟨B.inC,θ,ds,rfl,Zqc G,RepL.same (B:=B) (B':=B.inC) rfl rfl rfl (fun a=>inC_ok.mpr) r,?_⟩
  cases e:f ds θ with
  | bad=>rw [e] at w; exact w
  | ex c θ'=>rw [e] at w; exact w
  | ok d θ'=>
    rw [e] at w
    intro B' H' v E' G' rv
    obtain ⟨h1,h2,h3⟩:=Zvc G E' G'
    exact w _ H' v h1 h2 (h3 d v rv)
theorem Zi {k j:Nat} {x:Str} {f:GM} {p pos:Pos} {e:Expr} {es:List Expr} {fs:AM} (D0:MDef X.prog X.w X.K X.mg X.base k x f) (hr:Room j X.A) (hj:k≤j) (ha:MA X (e::es) fs) (hg:Gl X x:=by rfl) (hdb:(x == ("__debug__":Str))=false:=by decide)
    (he:starEach (e::es) X.env=(false,eval e X.env)::starEach es X.env:=by rfl) (hpl:(backTo pos (starEach es X.env)).any (·.1)=false:=by rfl):ME X (.Call (.Name x p) (e::es) [] pos) (mCB f fs):=by
  obtain ⟨ps,D0⟩:=D0
  refine PE.imp (ZpC D0 hr hj ha hg hdb he hpl) fun σ H Q h=>?_
  obtain ⟨B,θ,ρ,F,w⟩:=h
  refine ZbZ (Zhd F w) ?_
  rintro vs H1 ⟨B1,θ1,ds,E1,F1,rd,w1⟩
  rw [List.append_nil]
  exact ZmP F1.good rd w1
end
end L2.MM
namespace L2.MM
open PySem PySem.Spec PyProof.Rows PySem.SeqAt
noncomputable section
def Zmi (K:PySem.W.Frag):Sp:=fun vs H Q _=>∃(a:Addr) (ns:List Int),vs=[.ref a]∧Zr6 H∧SqL K H a (ns.map V.int)∧ns.length≤63∧∀H',Q (.bl true) H'
theorem ZrJ {P:Program} {w:World} {K:PySem.W.Frag} {mg:Str→Option Value} {base:Heap} {k:Nat} {f:Addr} {fd:FuncData} {ps:List Str} {g:GM} (h:∀ns:List Int,ns.length≤63→∃θ',g [.scr ns] []=.ok (.bl true) θ')
    (F:FnOk P w K mg base CX0 k f fd ps (spM ⟨z8 mg,K⟩ g)):FnOk P w K mg base CX0 k f fd ps (Zmi K):=by
  refine F.imp ?_
  rintro vs H Q E ⟨a,ns,rfl,hO,hS,hl,q⟩
  obtain ⟨θ',e⟩:=h ns hl
  refine ⟨⟨0,fun _=>0,fun _=>False,[],KL K⟩,[],[.scr ns],rfl,⟨rfl,fun i j hi=>absurd hi (Nat.not_lt_zero _),fun i c h=>by simp at h,fun i hi=>absurd hi (Nat.not_lt_zero _),fun a h=>h.elim,fun a h=>(nomatch h),fun a h=>(nomatch h),fun a ns h=>h⟩,?_,?_⟩
  · refine ⟨.ref a,[],rfl,⟨a,rfl,?_⟩,rfl⟩
    rcases hS with (h1 | ⟨o,h1⟩) | h1
    · rcases hO a with z | ⟨o,xs,z⟩
      · rw [z] at h1; cases h1
      · rw [z] at h1; cases h1
    · exact .inl ⟨o,h1,fun i hi=>absurd hi (Nat.not_lt_zero _),fun z=>z,fun z=>(nomatch z)⟩
    · exact .inr h1
  · rw [e]
    intro B' H' v _ _ rv
    cases (show v=V.bl true from rv)
    exact q H'
end
end L2.MM
namespace L2.MM
open PySem PySem.Spec PyProof.Rows PySem.SeqAt
noncomputable section
section
variable {i j k:Nat} {ρ:List Sl} {θ:Sto} {f g h:EM} {fs:AM} {t u:TMr}
@[simp] theorem Zr7:Zd i ρ θ=match ρ[i]? with | some (Sl.val d)=>.ok d θ | _=>.bad:=nr rfl
@[simp] theorem x_c {d:D}:mC d ρ θ=.ok d θ:=nr rfl
@[simp] theorem Zuu {o:OM}:mOp o f g ρ θ=(f ρ θ).bind fun x θ=>(g ρ θ).bind fun y θ=>o x y θ:=nr rfl
@[simp] theorem Zx0:ZG f ρ θ=(f ρ θ).bind fun x θ=>match x with | .bl k=>.ok k θ | _=>.bad:=nr rfl
@[simp] theorem Zze:zT f ρ θ=(f ρ θ).bind fun x θ=>match Zfu θ x with | some k=>.ok k θ | none=>.bad:=nr rfl
@[simp] theorem Zzs:ZeE t u ρ θ=(t ρ θ).bind fun k θ=>if k=true then u ρ θ else .ok false θ:=nr rfl
@[simp] theorem ZzQ:mOr t u ρ θ=(t ρ θ).bind fun k θ=>if k=true then .ok true θ else u ρ θ:=nr rfl
@[simp] theorem Zzi:Zd3 t ρ θ=(t ρ θ).bind fun k θ=>.ok (!k) θ:=nr rfl
def ZtY (g:Sto→R D):D→Sto→R D
  | .bl true,θ=>g θ
  | .bl false,θ=>.ok (.bl false) θ
  | _,_=>.bad
def orK (g:Sto→R D):D→Sto→R D
  | .bl true,θ=>.ok (.bl true) θ
  | .bl false,θ=>g θ
  | _,_=>.bad
@[simp] theorem Zwe {g:Sto→R D} {k:Bool}:ZtY g (.bl k) θ=if k=true then g θ else .ok (.bl false) θ:=by cases k<;>rfl
@[simp] theorem ZyH {g:Sto→R D} {k:Bool}:orK g (.bl k) θ=if k=true then .ok (.bl true) θ else g θ:=by cases k<;>rfl
@[simp] theorem Zyc:Zcw f g ρ θ=(f ρ θ).bind (ZtY (g ρ)):=by
  show (f ρ θ).bind _=_
  congr 1
  funext x θ
  cases x<;>first | rfl | (rename_i b; cases b<;>rfl)
@[simp] theorem Zzh:Zk0 f g ρ θ=(f ρ θ).bind (orK (g ρ)):=by
  show (f ρ θ).bind _=_
  congr 1
  funext x θ
  cases x<;>first | rfl | (rename_i b; cases b<;>rfl)
@[simp] theorem Zvq {p:Prop} [Decidable p] {m:Bool}:(if p then R.ok (D.bl m) θ else R.ok (D.bl false) θ)=R.ok (D.bl (decide p && m)) θ:=by by_cases h:p<;>simp [h]
@[simp] theorem Zv5 {p:Prop} [Decidable p] {m:Bool}:(if p then R.ok (D.bl true) θ else R.ok (D.bl m) θ)=R.ok (D.bl (decide p || m)) θ:=by by_cases h:p<;>simp [h]
@[simp] theorem Zuk {p:Prop} [Decidable p] {m:Bool}:(if p then R.ok m θ else R.ok false θ)=R.ok (decide p && m) θ:=by by_cases h:p<;>simp [h]
@[simp] theorem Zvp {p:Prop} [Decidable p] {m:Bool}:(if p then R.ok true θ else R.ok m θ)=R.ok (decide p || m) θ:=by by_cases h:p<;>simp [h]
@[simp] theorem Zx6:ZmB f ρ θ=(f ρ θ).bind fun x θ=>match Zfu θ x with | some k=>.ok (.bl (!k)) θ | none=>.bad:=nr rfl
@[simp] theorem Zzj:ZrH f ρ θ=(f ρ θ).bind fun x θ=>match x with | .int i=>.ok (.int (-i)) θ | _=>.bad:=nr rfl
@[simp] theorem Zzm:ZfK t f g ρ θ=(t ρ θ).bind fun k θ=>if k=true then f ρ θ else g ρ θ:=nr rfl
@[simp] theorem ZvT {o o':OM}:Zc5 o o' f g h ρ θ=(f ρ θ).bind fun x θ=>(g ρ θ).bind fun y θ=>(o x y θ).bind (ZtY fun θ=>(h ρ θ).bind fun w θ=>o' y w θ):=by
  show (f ρ θ).bind _=_
  congr 1
  funext x θ
  congr 1
  funext y θ
  congr 1
  funext z θ
  cases z<;>first | rfl | (rename_i b; cases b<;>rfl)
@[simp] theorem Zr9:Zk ρ θ=.ok [] θ:=nr rfl
@[simp] theorem Zo3:Zc f fs ρ θ=(f ρ θ).bind fun x θ=>(fs ρ θ).bind fun xs θ=>.ok (x::xs) θ:=nr rfl
@[simp] theorem Zzd:Zbe fs ρ θ=(fs ρ θ).bind fun xs θ=>if xs.length≤BIG then .ok (.tup xs) θ else .bad:=nr rfl
@[simp] theorem Zuv:Zcl fs ρ θ=(fs ρ θ).bind fun xs θ=>if xs.length≤BIG then .ok (.lst xs) θ else .bad:=nr rfl
@[simp] theorem Zyd {o:GM}:mCB o fs ρ θ=(fs ρ θ).bind fun xs θ=>o xs θ:=nr rfl
@[simp] theorem Zo1:Za0 ρ θ=.ok none θ:=nr rfl
@[simp] theorem ZsH:Zbm f ρ θ=(f ρ θ).bind fun x θ=>match x with | .int i=>.ok (some i) θ | _=>.bad:=nr rfl
@[simp] theorem Zx1 {lo hi:PM}:mSl f lo hi ρ θ=(f ρ θ).bind fun x θ=>(lo ρ θ).bind fun l θ=>(hi ρ θ).bind fun h θ=>match Zet θ x l h with
  | some d=>.ok d θ
  | none=>.bad:=nr rfl
@[simp] theorem Zzf {lo hi st:PM}:ZrG f lo hi st ρ θ=(f ρ θ).bind fun x θ=>(lo ρ θ).bind fun l θ=>(hi ρ θ).bind fun h θ=>(st ρ θ).bind fun s θ=>match ZaV θ x with
  | some xs=>if s≠some 0∧(ZdF xs l h s).length≤BIG then .ok (.lst (ZdF xs l h s)) θ else .bad
  | none=>.bad:=nr rfl
@[simp] theorem ZzS:mIn f ρ θ=(f ρ θ).bind fun d θ=>match seqOf θ d with | some _=>.ok (.seq d) θ | none=>.bad:=nr rfl
@[simp] theorem Zx4:ZcN fs ρ θ=(fs ρ θ).bind fun ds θ=>match ds with
  | [.int j]=>if -1000000≤j∧j≤1000000 then .ok (.rng 0 j.toNat) θ else .bad
  | _=>.bad:=by
  unfold ZcN; exact nr rfl
variable {a b:SM} {Fl':Fl×List Sl}
@[simp] theorem Zx2:ZN ρ θ=.ok (.nx,ρ) θ:=nr rfl
@[simp] theorem Zzr:ZrI ρ θ=.bad:=nr rfl
@[simp] theorem Zt3 {ρ':List Sl}:Zg9 (.ok (.nx,ρ') θ) a=a ρ' θ:=nr rfl
@[simp] theorem Zt2 {ρ':List Sl} {d:D}:Zg9 (.ok (.rt d,ρ') θ) a=.ok (.rt d,ρ') θ:=nr rfl
@[simp] theorem Zzg:Zq a b ρ θ=Zg9 (a ρ θ) b:=nr rfl
@[simp] theorem Zya:zC f ρ θ=(f ρ θ).bind fun _ θ=>.ok (.nx,ρ) θ:=nr rfl
@[simp] theorem Zo0:ZK f ρ θ=(f ρ θ).bind fun d θ=>.ok (.rt d,ρ) θ:=nr rfl
@[simp] theorem Zx5:ZfJ ρ θ=.ok (.rt .non,ρ) θ:=nr rfl
@[simp] theorem ZzT:mIf t a b ρ θ=(t ρ θ).bind fun k θ=>if k=true then a ρ θ else b ρ θ:=nr rfl
@[simp] theorem Zut:ZM i f ρ θ=(f ρ θ).bind fun d θ=>.ok (.nx,ρ.set i (.val d)) θ:=nr rfl
@[simp] theorem Zus:ZgW i fs ρ θ=(fs ρ θ).bind fun xs θ=>if xs.length≤BIG then .ok (.nx,ρ.set i (.own xs)) θ else .bad:=nr rfl
@[simp] theorem Zuz:Zd6 i f ρ θ=(f ρ θ).bind fun d θ=>match ρ[i]? with
  | some (Sl.own xs)=>if xs.length<BIG then .ok (.nx,ρ.set i (.own (xs++[d]))) θ else .bad
  | _=>.bad:=nr rfl
@[simp] theorem Zuy:Zd4 i a ρ θ=match ρ[i]? with | some (Sl.own xs)=>a (ρ.set i (.val (.lst xs))) θ | _=>a ρ θ:=nr rfl
@[simp] theorem Zdy {ρ':List Sl}:Zfc a (.nx,ρ') θ=a ρ' θ:=nr rfl
@[simp] theorem Zzn {d:D}:gNm i d ρ=some (ρ.set i (.val d)):=nr rfl
@[simp] theorem Zzq {np nn:Nat} {ds:List D}:ZP np nn a ds θ=if ds.length=np then (a (ZdU nn ds) θ).bind fun p θ=>match p.1 with | .nx=>.ok .non θ | .rt d=>.ok d θ | _=>.bad else .bad:=nr rfl
@[simp] theorem ZvP {n:Nat} {ds:List D}:ZdU n ds=ds.map Sl.val++List.replicate (n-ds.length) Sl.no:=nr rfl
@[simp] theorem Zr8 {xs:List D}:seqOf θ (.lst xs)=some xs:=nr rfl
@[simp] theorem Zgt {xs:List D}:seqOf θ (.tup xs)=some xs:=nr rfl
@[simp] theorem Zt1 {b:Bool}:Zfu θ (.bl b)=some b:=nr rfl
@[simp] theorem ZsG {ns:List Int}:Zfu θ (.scr ns)=some (!(ns.map D.int).isEmpty):=nr rfl
@[simp] theorem ZsJ {xs:List D}:look θ (.lst xs)=.lst xs:=nr rfl
@[simp] theorem ZsK {n:Int}:look θ (.int n)=.int n:=nr rfl
@[simp] theorem ZsI {n:Str}:look θ (.str n)=.str n:=nr rfl
@[simp] theorem Zo2 {xs:List D} {n:Int}:ixM (.lst xs) (.int n) θ=match atI xs n with | some d=>.ok d θ | none=>.bad:=nr rfl
@[simp] theorem Zkx {xs:List D} {n:Int}:ixM (.tup xs) (.int n) θ=match atI xs n with | some d=>.ok d θ | none=>.bad:=nr rfl
@[simp] theorem Zux {xs:List Int} {n:Int}:ixM (.scr xs) (.int n) θ=match atI (xs.map D.int) n with | some d=>.ok d θ | none=>.bad:=nr rfl
@[simp] theorem Zuw {xs:List D}:Zde [.lst xs] θ=.ok (.int xs.length) θ:=nr rfl
@[simp] theorem ZmZ {xs:List D}:Zde [.tup xs] θ=.ok (.int xs.length) θ:=nr rfl
@[simp] theorem Zt4 {xs:List Int}:Zde [.scr xs] θ=.ok (.int (xs.map D.int).length) θ:=nr rfl
@[simp] theorem Zur {xs:List D}:Zm4 [.lst xs] θ=match ZfP xs with | some ns=>.ok (.int ns.sum) θ | none=>.bad:=nr rfl
@[simp] theorem ZuA {xs:List D}:ZqJ [.lst xs] θ=match Zjb xs with | some ns=>.ok (.bl (ns.all id)) θ | none=>.bad:=nr rfl
@[simp] theorem Zzk {m n:Int}:ZiV [.int m,.int n] θ=.ok (.int (if n<m then n else m)) θ:=nr rfl
@[simp] theorem Zx7 {m n k:Int}:ZiV [.int m,.int n,.int k] θ=.ok (.int (if n<m then (if k<n then k else n) else (if k<m then k else m))) θ:=nr rfl
@[simp] theorem Zzl {m n:Int}:ZlQ [.int m,.int n] θ=.ok (.int (if n > m then n else m)) θ:=nr rfl
@[simp] theorem Zx9 {k:Bool}:ZrL [.bl k] θ=.ok (.int (if k then 1 else 0)) θ:=nr rfl
@[simp] theorem ZoZ {xs:List D} {lo hi:Option Int}:Zet θ (.lst xs) lo hi=some (.lst (Zbf xs lo hi)):=nr rfl
@[simp] theorem ZzR {x:D}:isM x .non θ=.ok (.bl (Zcy x)) θ:=nr rfl
@[simp] theorem ZvQ {x:D}:ZiZ x .non θ=.ok (.bl (!Zcy x)) θ:=nr rfl
end
mutual
def pl:Nat→D→Bool
  | _,.non=>true
  | _,.bl _=>true
  | _,.int _=>true
  | _,.str x=>PyData.strOk x
  | k+1,.tup xs=>pls k xs
  | k+1,.lst xs=>pls k xs
  | _,_=>false
def pls:Nat→List D→Bool
  | _,[]=>true
  | k,d::r=>pl k d && pls k r
end
mutual
def noB:D→Bool
  | .bl _=>false
  | .tup xs=>ZfH xs
  | .lst xs=>ZfH xs
  | _=>true
def ZfH:List D→Bool
  | []=>true
  | d::r=>noB d && ZfH r
end
mutual
theorem Zmo:∀(k:Nat) (d:D),pl k d=true→plain d=true∧(dat d).canLay0=true∧(dat d).depth≤k
  | _,.non,_=>⟨rfl,rfl,Nat.zero_le _⟩
  | _,.bl _,_=>⟨rfl,rfl,Nat.zero_le _⟩
  | _,.int _,_=>⟨rfl,rfl,Nat.zero_le _⟩
  | k,.str x,h=>⟨rfl,by cases k<;>simpa [pl,dat,PyData.canLay0] using h,Nat.zero_le _⟩
  | k+1,.tup xs,h=>by
    obtain ⟨a,b,c⟩:=ZlI k xs (by simpa [pl] using h)
    exact ⟨a,b,by simp only [dat,PyData.depth]; omega⟩
  | k+1,.lst xs,h=>by
    obtain ⟨a,b,c⟩:=ZlI k xs (by simpa [pl] using h)
    exact ⟨a,b,by simp only [dat,PyData.depth]; omega⟩
  | 0,.tup xs,h=>by simp [pl] at h
  | 0,.lst xs,h=>by simp [pl] at h
  | 0,.ty _,h=>by simp [pl] at h
  | 0,.scr _,h=>by simp [pl] at h
  | 0,.ref _,h=>by simp [pl] at h
  | _+1,.ty _,h=>by simp [pl] at h
  | _+1,.scr _,h=>by simp [pl] at h
  | _+1,.ref _,h=>by simp [pl] at h
theorem ZlI:∀(k:Nat) (ds:List D),pls k ds=true→Zb0 ds=true∧PyData.canLayAll0 (ZeI ds)=true∧PyData.depthAll (ZeI ds)≤k
  | _,[],_=>⟨rfl,rfl,Nat.zero_le _⟩
  | k,d::r,h=>by
    have h':pl k d=true∧pls k r=true:=by simpa [pls] using h
    obtain ⟨a,b,c⟩:=Zmo k d h'.1
    obtain ⟨a',b',c'⟩:=ZlI k r h'.2
    exact ⟨by simp [Zb0,a,a'],by simp [ZeI,PyData.canLayAll0,b,b'],by simp only [ZeI,PyData.depthAll]; omega⟩
end
mutual
theorem Zmy:∀(d e:D),noB d=true→noB e=true→noMix (dat d) (dat e)=true:=fun d e p q=>by
  cases d with
  | bl _=>simp [noB] at p
  | tup xs=>
    cases e with
    | bl _=>simp [noB] at q
    | tup ys=>simp only [dat,noMix]; exact Zhl xs ys p q
    | _=>simp [dat,noMix]
  | lst xs=>
    cases e with
    | bl _=>simp [noB] at q
    | lst ys=>simp only [dat,noMix]; exact Zhl xs ys p q
    | _=>simp [dat,noMix]
  | _=>cases e<;>simp_all [noB,dat,noMix]
theorem Zhl:∀(ds es:List D),ZfH ds=true→ZfH es=true→noMixAll (ZeI ds) (ZeI es)=true
  | [],[],_,_=>rfl
  | [],_::_,_,_=>rfl
  | _::_,[],_,_=>rfl
  | d::ds,e::es,p,q=>by
    have p':noB d=true∧ZfH ds=true:=by simpa [ZfH] using p
    have q':noB e=true∧ZfH es=true:=by simpa [ZfH] using q
    simp only [ZeI,noMixAll,Bool.and_eq_true]
    exact ⟨Zmy d e p'.1 q'.1,Zhl ds es p'.2 q'.2⟩
end
theorem Zid {k:Nat} {d:D} (h:pl k d=true) (hk:k≤64):shaped (dat d)=true:=by
  obtain ⟨_,b,c⟩:=Zmo k d h
  unfold shaped
  rw [b,decide_eq_true (by omega)]
  rfl
theorem Zd8 {x y:D} (h1:pl 9 x=true) (h2:pl 9 y=true) (h3:noB x=true) (h4:noB y=true):Zly x y:=
  ⟨(Zmo _ _ h1).1,(Zmo _ _ h2).1,Zid h1 (by decide),Zid h2 (by decide),Zmy x y h3 h4⟩
section
open Classical
theorem Zi5 {x y:D} {θ:Sto} (h:Zly (look θ x) (look θ y)):eqM x y θ=.ok (.bl (decide (look θ x=look θ y))) θ:=if_pos h
theorem Zhn {x y:D} {θ:Sto} (h:Zly (look θ x) (look θ y)):neM x y θ=.ok (.bl (!decide (look θ x=look θ y))) θ:=if_pos h
end
@[simp] theorem Zu4 (k:Nat) (ns:List Int):pls k (ns.map D.int)=true:=by
  induction ns with
  | nil=>rfl
  | cons n r ih=>simp only [List.map_cons,pls,ih,Bool.and_true]; cases k<;>rfl
@[simp] theorem Zui (ns:List Int):ZfH (ns.map D.int)=true:=by
  induction ns with
  | nil=>rfl
  | cons n r ih=>simp only [List.map_cons,ZfH,ih,Bool.and_true]; rfl
@[simp] theorem Zsy (ns ms:List Int):(ns.map D.int=ms.map D.int)↔ns=ms:=by
  constructor
  · intro h
    have:∀(ns ms:List Int),ns.map D.int=ms.map D.int→ns=ms:=fun ns=>by
      induction ns with
      | nil=>intro ms h; cases ms with
        | nil=>rfl
        | cons _ _=>cases h
      | cons n r ih=>intro ms h; cases ms with
        | nil=>cases h
        | cons m s=>simp at h; rw [h.1,ih s h.2]
    exact this ns ms h
  · intro h; rw [h]
@[simp] theorem Zy3 (a b:Int) (θ:Sto):eqM (.int a) (.int b) θ=.ok (.bl (decide (a=b))) θ:=by
  rw [Zi5 (Zd8 rfl rfl rfl rfl)]
  simp
@[simp] theorem ZyJ (a b:Int) (θ:Sto):neM (.int a) (.int b) θ=.ok (.bl (!decide (a=b))) θ:=by
  rw [Zhn (Zd8 rfl rfl rfl rfl)]
  simp
@[simp] theorem ZrU (a b:List Int) (θ:Sto):eqM (.lst (a.map D.int)) (.lst (b.map D.int)) θ=.ok (.bl (decide (a=b))) θ:=by
  rw [Zi5 (Zd8 (by simp [pl]) (by simp [pl]) (by simp [noB]) (by simp [noB]))]
  simp
@[simp] theorem ZrC (a b:List Int) (θ:Sto):neM (.lst (a.map D.int)) (.lst (b.map D.int)) θ=.ok (.bl (!decide (a=b))) θ:=by
  rw [Zhn (Zd8 (by simp [pl]) (by simp [pl]) (by simp [noB]) (by simp [noB]))]
  simp
end
end L2.MM
namespace L2.MM
open PySem PySem.Spec PyProof.Rows PySem.SeqAt My
noncomputable section
@[simp] theorem Zt0:BIG=100000:=nr rfl
def il (ns:List Int):D:=.lst (ns.map D.int)
def itp (ns:List Int):D:=.tup (ns.map D.int)
section
variable {θ:Sto} {a b ns ms:List Int} {i j:Int}
@[simp] theorem ZzM:D.lst (ns.map D.int)=il ns:=nr rfl
theorem Zd7:D.lst []=il []:=rfl
@[simp] theorem ZzL (x:Int):D.lst [.int x]=il [x]:=nr rfl
@[simp] theorem ZvD (x y:Int):D.lst [.int x,.int y]=il [x,y]:=nr rfl
@[simp] theorem ZzK (x y z w:Int):D.lst [.int x,.int y,.int z,.int w]=il [x,y,z,w]:=nr rfl
@[simp] theorem ZzJ (x y z w v:Int):D.lst [.int x,.int y,.int z,.int w,.int v]=il [x,y,z,w,v]:=nr rfl
@[simp] theorem Zvu:ZaV θ (il a)=some (a.map D.int):=nr rfl
@[simp] theorem Zvt:seqOf θ (il a)=some (a.map D.int):=nr rfl
@[simp] theorem Zv6:look θ (itp a)=itp a:=nr rfl
@[simp] theorem Zqa:ZL (il a) (il b) θ=if a.length+b.length≤BIG then .ok (il (a++b)) θ else .bad:=by
  unfold il
  rw [ZqK]
  simp [il]
theorem Zi1 (h:a.length+b.length≤100000):ZL (il a) (il b) θ=.ok (il (a++b)) θ:=by
  rw [Zqa,if_pos h]
@[simp] theorem ZyP:Zde [il a] θ=.ok (.int a.length) θ:=by
  unfold il; rw [Zuw]; simp
@[simp] theorem ZyN:Zde [itp a] θ=.ok (.int a.length) θ:=by
  unfold itp; rw [ZmZ]; simp
theorem Zr3 {α β:Type} (f:α→β) (xs:List α) (n:Int):atI (xs.map f) n=(atI xs n).map f:=by
  unfold L2.atI
  rw [List.length_map]
  cases ixN xs.length n with
  | none=>rfl
  | some k=>simp
theorem Zvv:ixM (il a) (.int i) θ=match atI a i with | some z=>.ok (.int z) θ | none=>.bad:=by
  unfold il
  rw [Zo2,Zr3]
  cases atI a i<;>rfl
theorem ZqG {xs:List Int} {i:Int} (h0:0≤i) (h:i<xs.length):atI xs i=some (xs.getD i.toNat 0):=by
  have c:i=((i.toNat:Nat):Int):=by omega
  rw [c]
  refine Zg1 ?_
  have d:i.toNat<xs.length:=by omega
  rw [List.getD_eq_getElem?_getD,Int.toNat_natCast,List.getElem?_eq_getElem d]
  rfl
def gt (a:List Int) (i:Nat):Int:=a.getD i 0
theorem ZbQ (h0:0≤i) (h:i<a.length):ixM (il a) (.int i) θ=.ok (.int (gt a i.toNat)) θ:=by rw [Zvv,ZqG h0 h]; rfl
@[simp] theorem ZyR {x:Int} {r:List Int}:ixM (il (x::r)) (.int 0) θ=.ok (.int x) θ:=ZbQ (a:=x::r) (i:=0) (by decide) (by rw [List.length_cons]; omega)
@[simp] theorem ZyQ {x y:Int} {r:List Int}:ixM (il (x::y::r)) (.int 1) θ=.ok (.int y) θ:=ZbQ (a:=x::y::r) (i:=1) (by decide) (by rw [List.length_cons,List.length_cons]; omega)
@[simp high] theorem ZzV {x:D} {r:List D}:ixM (.tup (x::r)) (.int 0) θ=.ok x θ:=by
  rw [Zkx,show (0:Int)=((0:Nat):Int) from rfl,Zg1 (j:=0) (v:=x) rfl]
@[simp high] theorem ZzU {x y:D} {r:List D}:ixM (.tup (x::y::r)) (.int 1) θ=.ok y θ:=by
  rw [Zkx,show (1:Int)=((1:Nat):Int) from rfl,Zg1 (j:=1) (v:=y) rfl]
theorem Zqu {α β:Type} (f:α→β) (xs:List α) (lo hi:Option Int):Zbf (xs.map f) lo hi=(Zbf xs lo hi).map f:=by
  unfold Zbf
  rw [List.length_map,List.map_take,List.map_drop]
@[simp] theorem Zk9 {lo hi:Option Int}:Zet θ (il a) lo hi=some (il (Zbf a lo hi)):=by
  unfold il; rw [ZoZ,Zqu]
@[simp] theorem Zv7:Zk1 [itp a] θ=.ok (il a) θ:=nr rfl
@[simp] theorem Zvs:Zer [il a] θ=.ok (itp a) θ:=nr rfl
@[simp] theorem ZyO:Zm4 [il a] θ=.ok (.int a.sum) θ:=by unfold il; rw [Zur,Zp8]
@[simp] theorem ZzD {n:String}:ZgB [il a,.ty n] θ=match isT .lst n with | some b=>.ok (.bl b) θ | none=>.bad:=nr rfl
@[simp] theorem ZzE:eqM (il a) (il b) θ=.ok (.bl (decide (a=b))) θ:=ZrU a b θ
@[simp] theorem ZzC:neM (il a) (il b) θ=.ok (.bl (!decide (a=b))) θ:=ZrC a b θ
theorem Zf9 {α β:Type} (f:α→β) (xs:List α) (lo hi st:Option Int):ZdF (xs.map f) lo hi st=(ZdF xs lo hi st).map f:=by
  unfold ZdF
  rw [List.length_map,List.map_filterMap]
  congr
  funext k
  simp
theorem Zhq:∀{ns ms:List Int},ns.map V.int=ms.map V.int→ns=ms
  | [],[],_=>rfl
  | [],_::_,h=>by cases h
  | _::_,[],h=>by cases h
  | _::_,_::_,h=>by simp at h; rw [h.1,Zhq h.2]
@[simp] theorem Zss (ns:List Int):ZdF ns none none (some 2)=Zem ns:=Zhq (by
  have:=Znw ns
  rw [show Zev (ns.map V.int) none none (some 2)=ZdF (ns.map V.int) none none (some 2) from rfl,Zf9] at this
  exact this)
@[simp] theorem Ztp (ns:List Int):ZdF ns (some 1) none (some 2)=Zhi ns:=Zhq (by
  have:=Zqt ns
  rw [show Zev (ns.map V.int) (some 1) none (some 2)=ZdF (ns.map V.int) (some 1) none (some 2) from rfl,Zf9] at this
  exact this)
end
theorem ZiO {n d:Nat} {k:Int} (h:0≤k):HT.sIx n d (some k)=min k.toNat n:=by
  have c:k=((k.toNat:Nat):Int):=by omega
  rw [c]
  exact HT.sIx_nat n d k.toNat
theorem Zgn {α:Type} (xs:List α) {k:Int} (h:0≤k):Zbf xs none (some k)=xs.take k.toNat:=by
  unfold Zbf
  rw [HT.sIx_none,ZiO h,List.drop_zero,Nat.sub_zero,←List.take_take,List.take_length]
theorem ZdK {α:Type} (xs:List α) {k:Int} (h:0≤k):Zbf xs (some k) none=xs.drop k.toNat:=by
  unfold Zbf
  rw [HT.sIx_none,ZiO h]
  by_cases q:k.toNat≤xs.length
  · rw [Nat.min_eq_left q,List.take_of_length_le]
    rw [List.length_drop]
    exact Nat.le_refl _
  · rw [Nat.min_eq_right (by omega),List.drop_length,List.drop_eq_nil_of_le (by omega)]
    simp
theorem Zi7 {α:Type} (xs:List α) {k l:Int} (h:0≤k) (h':0≤l):Zbf xs (some k) (some l)=(xs.drop k.toNat).take (l.toNat-k.toNat):=by
  unfold Zbf
  rw [ZiO h,ZiO h']
  by_cases q:k.toNat≤xs.length
  · rw [Nat.min_eq_left q]
    by_cases r:l.toNat≤xs.length
    · rw [Nat.min_eq_left r]
    · rw [Nat.min_eq_right (by omega),List.take_of_length_le (by rw [List.length_drop]; exact Nat.le_refl _),List.take_of_length_le (by rw [List.length_drop]; omega)]
  · rw [Nat.min_eq_right (a:=k.toNat) (by omega),List.drop_length,List.drop_eq_nil_of_le (i:=k.toNat) (by omega)]
    simp
section
variable {θ:Sto} {ρ:List Sl}
@[simp] theorem ZcR {lo:Int} {n:Nat}:(Src.rng lo n).items θ=some ((List.range n).map fun (i:Nat)=>D.int (lo+(i:Int))):=nr rfl
@[simp] theorem Zm7 {d:D}:(Src.seq d).items θ=seqOf θ d:=nr rfl
open Classical in
theorem Zgo {S:Src} {all:List D} {elt:D→Sto→R D} {θ:Sto} (f:D→D) (hS:S.items θ=some all):∀(xs acc:List D),(∀x∈xs,elt x θ=.ok (f x) θ)→(acc.length+xs.length≤BIG)→ZgE S all elt xs acc θ=.ok (.lst (acc++xs.map f)) θ
  | [],acc,_,hl=>by
    unfold ZgE
    rw [if_pos ⟨hS,by simpa using hl⟩]
    simp
  | x::r,acc,h,hl=>by
    unfold ZgE
    rw [if_pos hS,h x List.mem_cons_self]
    rw [R.bind_ok,Zgo f hS r (acc++[f x]) (fun y hy=>h y (List.mem_cons_of_mem _ hy)) (by simp at hl ⊢; omega)]
    simp
theorem Zir {fi:IM} {src:List Nat} {elt:EM} {lo:Int} {n:Nat} {θ':Sto} (f:Int→D) (hi:fi ρ θ=.ok (.rng lo n) θ') (hn:n≤BIG) (he:∀i:Nat,i<n→elt (ZeG src ρ (.int (lo+i))) θ'=.ok (f (lo+i)) θ') :
    ZeD fi src elt ρ θ=.ok (.lst ((List.range n).map fun (i:Nat)=>f (lo+i))) θ':=by
  unfold ZeD
  rw [hi,R.bind_ok]
  simp only [ZcR]
  rw [if_pos (by simpa using hn),Zgo (fun d=>match d with | .int k=>f k | d=>d) rfl]
  · simp
  · intro x hx
    obtain ⟨i,hi,rfl⟩:=List.mem_map.mp hx
    exact he i (List.mem_range.mp hi)
  · simpa using hn
theorem Znl {fi:IM} {src:List Nat} {elt:EM} {d:D} {xs:List D} {θ':Sto} (f:D→D) (hi:fi ρ θ=.ok (.seq d) θ') (hd:seqOf θ' d=some xs) (hn:xs.length≤BIG) (he:∀x∈xs,elt (ZeG src ρ x) θ'=.ok (f x) θ') :
    ZeD fi src elt ρ θ=.ok (.lst (xs.map f)) θ':=by
  unfold ZeD
  rw [hi,R.bind_ok]
  simp only [Zm7,hd]
  rw [if_pos hn,Zgo (S:=.seq d) f hd xs [] he (by simpa using hn)]
  simp
@[simp] theorem Zvr {src:List Nat} {x:D}:ZeG src ρ x=Sl.val x::src.map fun (j:Nat)=>match ρ[j]? with | some (Sl.val d)=>Sl.val d | _=>Sl.no:=nr rfl
open Classical in
theorem ZrS {lo:Int} {n:Nat} {all:List D} {tg:TgM} {body:SM} (st:Nat→List Sl) (hs:∀i ρ1,i<n→tg (.int (lo+i)) (st i)=some ρ1→body ρ1 θ=.ok (.nx,st (i+1)) θ) (ht:∀i,i<n→∃ρ1,tg (.int (lo+i)) (st i)=some ρ1) (hall:all=(List.range n).map fun (i:Nat)=>D.int (lo+(i:Int))) :
    ZcF (.rng lo n) all tg body all (st 0) θ=.ok (.nx,st n) θ:=by
  subst hall
  have key:∀m,m≤n→ZcF (.rng lo n) ((List.range n).map fun (i:Nat)=>D.int (lo+(i:Int))) tg body (((List.range n).map fun (i:Nat)=>D.int (lo+(i:Int))).drop (n-m)) (st (n-m)) θ=.ok (.nx,st n) θ:=fun m=>by
    induction m with
    | zero=>
      intro _
      rw [Nat.sub_zero,List.drop_eq_nil_of_le (by simp)]
      simp [ZcF]
    | succ m ih=>
      intro hm
      have hlt:n-(m+1)<n:=by omega
      rw [List.drop_eq_getElem_cons (by simpa using hlt)]
      obtain ⟨ρ1,h1⟩:=ht (n-(m+1)) hlt
      have h2:=hs (n-(m+1)) ρ1 hlt h1
      have e:n-(m+1)+1=n-m:=by omega
      simp only [List.getElem_map,List.getElem_range,ZcF,ZcR,if_true,h1]
      rw [h2,R.bind_ok,Zdy,e]
      exact ih (by omega)
  have:=key n (Nat.le_refl _)
  rw [Nat.sub_self,List.drop_zero] at this
  exact this
end
end
end L2.MM
namespace L2.MM
open PySem PySem.Spec PyProof.Rows PySem.SeqAt
noncomputable section
variable {X:Cx}
def ZaH (f:Str) (v:D):List (Str×D)→List (Str×D)
  | []=>[(f,v)]
  | (g,x)::r=>if g=f then (g,v)::r else (g,x)::ZaH f v r
theorem RepKV.put {B:Bx} {H:Hp} {f:Str} {d:D} {v:V} (q:RepV B H d v):∀{fs:List (Str×D)} {vs:List (Str×V)},RepKV B H fs vs→RepKV B H (ZaH f d fs) (ZdD f v vs)
  | _,_,.nil=>.cons ⟨rfl,q⟩ .nil
  | (g,x)::fs,(g',y)::vs,.cons h t=>by
    obtain ⟨h1,h2⟩:=h
    cases (show g=g' from h1)
    unfold ZaH ZdD
    by_cases e:g=f
    · rw [if_pos e,if_pos e]; exact .cons ⟨rfl,q⟩ t
    · rw [if_neg e,if_neg e]; exact .cons ⟨rfl,h2⟩ (RepKV.put q t)
theorem RepKV.len {κ:Type} {B:Bx} {H:Hp}:∀{fs:List (κ×D)} {vs:List (κ×V)},RepKV B H fs vs→vs.length=fs.length
  | _,_,.nil=>rfl
  | _,_,.cons _ t=>by rw [List.length_cons,List.length_cons,RepKV.len t]
theorem RepKV.get {B:Bx} {H:Hp} {f:Str} {d:D}:∀{fs:List (Str×D)} {vs:List (Str×V)},RepKV B H fs vs→fs.lookup f=some d→∃v,vs.lookup f=some v∧RepV B H d v
  | _,_,.nil,h=>by cases h
  | (g,x)::fs,(g',y)::vs,.cons h t,e=>by
    obtain ⟨h1,h2⟩:=h
    cases (show g=g' from h1)
    rw [List.lookup_cons] at e ⊢
    cases q:f == g with
    | true=>rw [q] at e; cases e; exact ⟨y,rfl,h2⟩
    | false=>rw [q] at e; exact RepKV.get t e
theorem RepKV.none {B:Bx} {H:Hp} {f:Str}:∀{fs:List (Str×D)} {vs:List (Str×V)},RepKV B H fs vs→fs.lookup f=none→vs.lookup f=none
  | _,_,.nil,h=>rfl
  | (g,x)::fs,(g',y)::vs,.cons h t,e=>by
    obtain ⟨h1,h2⟩:=h
    cases (show g=g' from h1)
    rw [List.lookup_cons] at e ⊢
    cases q:f == g with
    | true=>rw [q] at e; cases e
    | false=>rw [q] at e; exact RepKV.none t e
def ZeF (θ:Sto):D→Option (Nat×Str×List (Str×D))
  | .ref l=>match θ[l]? with
    | some (.ins C fs)=>some (l,C,fs)
    | _=>none
  | _=>none
theorem Zk8 {cl:Mo} {B:Bx} {θ:Sto} {H:Hp} (G:Good cl B θ H) {d:D} {v:V} {l:Nat} {C:Str} {fs:List (Str×D)} (r:RepV B H d v) (h:ZeF θ d=some (l,C,fs)) :
    l<B.n∧v=.ref (B.m l)∧∃dx vs,H (B.m l)=some (.ins (cl.cl C) dx vs)∧RepKV B H fs vs:=by
  cases d with
  | ref k=>
    simp only [ZeF] at h
    split at h
    · rename_i C' fs' e
      cases h
      obtain ⟨hl,rfl⟩:=r
      obtain ⟨dx,vs,h1,h2⟩:=G.cel _ _ e
      exact ⟨hl,rfl,dx,vs,h1,h2⟩
    · cases h
  | _=>cases h
def zJ (cs:List Str) (f:Str):D→Sto→R D:=fun d θ=>match ZeF θ d with
  | some (_,C,fs)=>if cs.contains C=true then (match fs.lookup f with
    | some v=>.ok v θ
    | none=>.bad) else .bad
  | none=>.bad
def ZH (cs:List Str) (f:Str) (fe:EM):EM:=fun ρ θ=>(fe ρ θ).bind (zJ cs f)
def ZsF (X:Cx) (f:Str) (C:Str):Prop:=Cls X.K (X.cl.cl C)∧NoAttr X.K (X.cl.cl C) f
theorem Zu {P:Str→Prop} {a:Str} (h:P a):∀C,[a].contains C=true→P C:=fun C hc=>by
  have:C=a:=by simpa using hc
  rw [this]; exact h
theorem Zo {cs:List Str} {f:Str} {e:Expr} {fe:EM} {pos:Pos} (hc:∀C,cs.contains C=true→ZsF X f C) (he:ME X e fe) (hb:attributeBase e f X.env (eval e X.env)=eval e X.env:=by rfl):ME X (.Attribute e f pos) (ZH cs f fe):=by
  refine PE.imp (Ztx he hb) fun σ H Q h=>?_
  obtain ⟨B,θ,ρ,F,w⟩:=h
  refine Z9 (step F w) ?_
  rintro v H1 ⟨B1,θ1,d,E1,F1,rd,w1⟩
  unfold zJ at w1
  split at w1
  · rename_i l C fs e1
    split at w1
    · rename_i hC
      split at w1
      · rename_i y ey
        obtain ⟨hl,rfl,dx,vs,h1,h2⟩:=Zk8 F1.good rd e1
        obtain ⟨u,h3,h4⟩:=h2.get ey
        exact ⟨_,_,dx,vs,u,rfl,h1,(hc C hC).1,(hc C hC).2,h3,ZO F1.good h4 w1⟩
      · exact w1.elim
    · exact w1.elim
  · exact w1.elim
def zd (cs:List Str) (f:Str) (y d:D) (θ:Sto):Option Sto:=match ZeF θ d with
  | some (l,C,fs)=>if cs.contains C=true∧fs.length<1000 then some (θ.set l (.ins C (ZaH f y fs))) else none
  | none=>none
def ZF (cs:List Str) (f:Str) (fe fv:EM):SM:=fun ρ θ=>(fv ρ θ).bind fun y θ=>(fe ρ θ).bind fun d θ=>match zd cs f y d θ with
  | some θ'=>.ok (.nx,ρ) θ'
  | none=>.bad
theorem Zw {cs:List Str} {f:Str} {o value:Expr} {fe fv:EM} {pos pos':Pos} (hc:∀C,cs.contains C=true→ZsF X f C) (he:ME X o fe) (hv:ME X value fv) (hs:swapsWith value (some (.Attribute o f pos')) pos.line X.env=pure false:=by rfl) :
    MS X (.Assign [.Attribute o f pos'] value pos) (ZF cs f fe fv):=
  PS.imp (Zto he hv hs) fun D σ H h=>by
  obtain ⟨B,θ,ρ,F,w⟩:=h
  refine Z9 (Zhc F w) ?_
  rintro y H1 ⟨B1,θ1,dy,E1,F1,ry,w1⟩
  refine Z9 (Zhc F1 w1) ?_
  rintro v H2 ⟨B2,θ2,d,E2,F2,rd,w2⟩
  unfold zd at w2
  cases e1:ZeF θ2 d with
  | none=>rw [e1] at w2; exact w2.elim
  | some q=>
    obtain ⟨l,C,fs⟩:=q
    rw [e1] at w2
    simp only at w2
    by_cases hC:cs.contains C=true∧fs.length<1000
    · rw [if_pos hC] at w2
      obtain ⟨hl,rfl,dx,vs,h1,h2⟩:=Zk8 F2.good rd e1
      refine ⟨_,_,dx,vs,rfl,h1,(hc C hC.1).1,(hc C hC.1).2,by rw [h2.len]; exact hC.2,?_⟩
      have E3:=Zg0 F2.good hl (.ins (X.cl.cl C) dx (ZdD f y vs))
      have G3:=Zhw F2.good hl (o:=.ins (X.cl.cl C) dx (ZdD f y vs)) (c:=.ins C (ZaH f dy fs)) ⟨dx,_,zF,(h2.put (ry.ext E2.toExtS)).ext E3.toExtS⟩
      exact w2 _ _ _ E3.toExtS (F2.ext E3 G3)
    · rw [if_neg hC] at w2
      exact w2.elim
structure MMk (P:Program) (w:World) (K:PySem.W.Frag) (mg:Str→Option Value) (base:Heap) (k:Nat) (C:Str) (f:GM):Prop where
  ex:∃(fI:Addr) (fd:FuncData) (ps:List Str),Mk K (z8 mg C) fI∧FnOk P w K mg base CX0 k fI fd ps (spM ⟨z8 mg,K⟩ f)∧Binds K fd ps []
  mg:mg C=some (.ref (z8 mg C))
def mkG (C:Str) (f:GM):GM:=fun vs θ=>(f (.ref θ.length::vs) (θ++[.ins C []])).bind fun v θ'=>match v with
  | .non=>.ok (.ref θ.length) θ'
  | _=>.bad
theorem wpR.made {σ:St} {B:Bx} {θ:Sto} {H:Hp} {C:Str} {f:GM} {ds:List D} {vs:List V} {Q:VK} {E:XK} (G:Good X.cl B θ H) (r:RepL B H ds vs) (w:wpR X σ RepV B H (mkG C f ds θ) Q) :
    ∀x dx,H x=none→H dx=none→dx≠x→spM X.cl f (.ref x::(vs++[])) (upd (upd H dx (.own x)) x (.ins (X.cl.cl C) dx [])) (fun v H2=>v=.non∧Q (.ref x) H2) E:=by
  intro x dx hx hdx ne
  have E1:=ZcP G hdx (.own x)
  have G1:=ZeH G hdx (.own x)
  have hx1:upd H dx (.own x) x=none:=by rw [ZQ (Ne.symm ne)]; exact hx
  have E2:=Zhz G1 hx1 (.ins (X.cl.cl C) dx [])
  have G2:Good X.cl (B.push x) (θ++[.ins C []]) _:=Ziv G1 hx1 (o:=.ins (X.cl.cl C) dx []) (c:=.ins C []) ⟨dx,[],zF,.nil⟩
  have rx:RepV (B.push x) (upd (upd H dx (.own x)) x (.ins (X.cl.cl C) dx [])) (.ref θ.length) (.ref x):=⟨by rw [G.len]; exact Nat.lt_succ_self _,by rw [G.len]; show V.ref x=V.ref (if B.n=B.n then x else B.m B.n); rw [if_pos rfl]⟩
  rw [List.append_nil]
  refine ZmP (σ:=σ) G2 (show RepL _ _ (.ref θ.length::ds) (.ref x::vs) from ⟨_,_,rfl,rx,r.ext (E1.trans E2).toExtS⟩) ?_
  have w1:=wpR.trans w (E1.trans E2)
  refine (wpR.bind (Rel:=RepV) w1).mono ?_
  rintro v H3 ⟨B3,θ3,d,E3,G3,rd,w3⟩
  cases d with
  | non=>exact ⟨rd,ZO G3 (rx.ext E3.toExtS) w3⟩
  | _=>exact w3.elim
theorem ZrF {k j:Nat} {x:Str} {f:GM} {p pos:Pos} {e:Expr} {es:List Expr} {fs:AM} (M:MMk X.prog X.w X.K X.mg X.base k x f) (hr:Room j X.A) (hj:k+1≤j) (ha:MA X (e::es) fs) (hg:Gl X x:=by rfl) (hdb:(x == ("__debug__":Str))=false:=by decide)
    (he:starEach (e::es) X.env=(false,eval e X.env)::starEach es X.env:=by rfl) (hpl:(backTo pos (starEach es X.env)).any (·.1)=false:=by rfl):ME X (.Call (.Name x p) (e::es) [] pos) (mCB (mkG x f) fs):=by
  obtain ⟨fI,fd,ps,m,F0,b⟩:=M.ex
  refine PE.imp (Zrr m F0 (hr.mono hj) hg M.mg b .nil ZpE ha hdb he hpl) fun σ H Q h=>?_
  obtain ⟨B,θ,ρ,F,w⟩:=h
  refine ZbZ (Zhd F w) ?_
  rintro vs H1 ⟨B1,θ1,ds,E1,F1,rd,w1⟩
  exact wpR.made F1.good rd w1
theorem ZkZ {k j:Nat} {x:Str} {f:GM} {p pos:Pos} (M:MMk X.prog X.w X.K X.mg X.base k x f) (hr:Room j X.A) (hj:k+1≤j) (hg:Gl X x:=by rfl) (hdb:(x == ("__debug__":Str))=false:=by decide):ME X (.Call (.Name x p) [] [] pos) (mCB (mkG x f) Zk):=by
  obtain ⟨fI,fd,ps,m,F0,b⟩:=M.ex
  refine PE.imp (Zpv m F0 (hr.mono hj) hg M.mg b .nil ZpE hdb) fun σ H Q h=>?_
  obtain ⟨B,θ,ρ,F,w⟩:=h
  exact wpR.made (ds:=[]) (vs:=[]) F.good (show RepL B H [] [] from rfl) w
structure ZzP (P:Program) (w:World) (K:PySem.W.Frag) (mg:Str→Option Value) (base:Heap) (k:Nat) (C m:Str) (f:GM):Prop where
  ex:∃(fa:Addr) (fd:FuncData) (ps:List Str),Zza K (z8 mg C) m fa∧FnOk P w K mg base CX0 k fa fd ps (spM ⟨z8 mg,K⟩ f)∧Binds K fd ps []
  cl:Cls K (z8 mg C)
instance {C C':Str} {gs:List (Str×D)} {m:Str}:Decidable (C'=C∧gs.lookup m=none):=by
  cases h:gs.lookup m with
  | none=>exact if e:C'=C then isTrue ⟨e,rfl⟩ else isFalse fun z=>e z.1
  | some _=>exact isFalse fun z=>nomatch z.2
theorem mmk {P:Program} {w:World} {K:PySem.W.Frag} {mg:Str→Option Value} {base:Heap} {x qual:Str} {st:Stmt} {N ps:List Str} {k:Nat} {fb:SM} {f:Addr} {fd:FuncData} {C:Str} (F:Fun K x qual st f fd) (S:Zp N ps (Zg st)) (np nn:Nat) (hp:ps.length=np) (hn:N.length=nn) (b:Binds K fd ps []) (M:Mk K (z8 mg C) f) (hm:mg C=some (.ref (z8 mg C)))
    (hbody:∀(cdv:Value) (A:Around) (outer:List Env) (s:Shared) (H:Hp) (E:XK),Room k (A.deeper (envOfC qual (Zg st) s.heap.objs.size f cdv))→MSs (ZgT CX0 P w K mg base N qual (Zg st) f cdv A outer s H E).nox (Zn st) fb):MMk P w K mg base (k+1) C (ZP np nn fb):=
  ⟨⟨f,fd,ps,M,mfn F S np nn hp hn hbody,b⟩,hm⟩
def ZlT:EM:=fun _ θ=>.ok (.ref θ.length) (θ++[.dK []])
theorem Zp0 {pos:Pos}:ME X (.Dict [] [] pos) ZlT:=by
  refine PE.imp ZpA fun σ H Q h=>?_
  obtain ⟨B,θ,ρ,F,w⟩:=h
  intro p hp
  have G:=F.good
  exact w (B.push p) _ _ (Zhz G hp _) (Ziv G hp ⟨[],zF,.nil⟩) ⟨by rw [G.len]; exact Nat.lt_succ_self _,by rw [G.len]; show V.ref p=V.ref (if B.n=B.n then p else B.m B.n); rw [if_pos rfl]⟩
section
variable {ρ:List Sl} {θ:Sto} {fe fv fo:EM} {cs:List Str} {f:Str}
@[simp] theorem Zzo:ZH cs f fe ρ θ=(fe ρ θ).bind (zJ cs f):=nr rfl
@[simp] theorem Zx3:ZF cs f fe fv ρ θ=(fv ρ θ).bind fun y θ=>(fe ρ θ).bind fun d θ=>match zd cs f y d θ with
  | some θ'=>.ok (.nx,ρ) θ'
  | none=>.bad:=nr rfl
@[simp] theorem ZvS:ZlT ρ θ=.ok (.ref θ.length) (θ++[.dK []]):=nr rfl
end
end
end L2.MM
namespace L2.MM
open PySem PySem.Spec PyProof.Rows PySem.SeqAt
def Mk0 (K:PySem.W.Frag) (mg:Str→Option Value) (C qual:Str) (st:Stmt) (ps:List Str):Prop:=
  ∃(f:Addr) (fd:FuncData),Fun K "__init__" qual st f fd∧Binds K fd ps []∧Mk K (z8 mg C) f∧mg C=some (.ref (z8 mg C))
theorem ZmO {mg:Str→Option Value} {x:Str} {a:Addr} (h:mg x=some (.ref a)):z8 mg x=a:=by unfold z8; rw [h]
theorem mk0 {P:Program} {w:World} {K:PySem.W.Frag} {mg:Str→Option Value} {base:Heap} {qual:Str} {st:Stmt} {N ps:List Str} {k:Nat} {fb:SM} {C:Str} (D:Mk0 K mg C qual st ps) (S:Zp N ps (Zg st)) (np nn:Nat) (hp:ps.length=np) (hn:N.length=nn)
    (hbody:∀(f:Addr) (cdv:Value) (A:Around) (outer:List Env) (s:Shared) (H:Hp) (E:XK),Room k (A.deeper (envOfC qual (Zg st) s.heap.objs.size f cdv))→MSs (ZgT CX0 P w K mg base N qual (Zg st) f cdv A outer s H E).nox (Zn st) fb):MMk P w K mg base (k+1) C (ZP np nn fb):=by
  obtain ⟨f,fd,F,b,M,hm⟩:=D
  exact mmk F S np nn hp hn b M hm (hbody f)
end L2.MM
namespace My
open PySem L2 L2.MM
noncomputable section
def ZfZ:SM:=(ZcB (ZG (mOp gtM (Zd 1) (mC (.int 65535)))) (ZM 1 (mOp ZL (mOp ZaZ (Zd 1) (mC (.int 65536))) (mOp Zfo (Zd 1) (mC (.int 65536))))) 200)
def ZhN:SM:=(Zq (ZM 1 (mOp ZL (mOp Zcc (mC (.int 256)) (mCB Zm4 (Zc (ZrG (Zd 0) Za0 Za0 (Zbm (mC (.int 2)))) Zk))) (mCB Zm4 (Zc (ZrG (Zd 0) (Zbm (mC (.int 1))) Za0 (Zbm (mC (.int 2)))) Zk))))
  (Zq ZfZ
  (ZK (Zd 1))))
def Zc3:GM:=ZP 1 2 ZhN
def ZhF:SM:=(ZK (mOp Ze9 (mC (.int 65535)) (mCB Zc3 (Zc (Zd 0) Zk))))
def Zew:GM:=ZP 1 1 ZhF
def ZmS:SM:=(ZK (ZfK (ZG (mOp neM (mOp ZvL (Zd 0) (Zd 1)) (mC (.int 0)))) (mC (.int 1)) (mC (.int 0))))
def Zfa:GM:=ZP 2 2 ZmS
def ZhK:SM:=(Zq (ZM 1 (mOp ixM (Zd 0) (mC (.int 4))))
  (ZK (mOp ZL (mOp ZL (mCB Zde (Zc (mOp ixM (Zd 0) (mC (.int 7))) Zk)) (mCB Zfa (Zc (Zd 1) (Zc (mC (.int 2)) Zk)))) (mCB Zfa (Zc (Zd 1) (Zc (mC (.int 1)) Zk))))))
def Zcu:GM:=ZP 1 2 ZhK
def ZdP:SM:=(ZK (mOp Zcc (mC (.int 16)) (mOp Zfo (Zd 0) (mC (.int 4)))))
def zP:GM:=ZP 1 1 ZdP
def Zff:SM:=(ZK (Zcl (Zc (mOp ZaZ (mOp Zfo (Zd 0) (mC (.int 256))) (mC (.int 256))) (Zc (mOp ZaZ (Zd 0) (mC (.int 256))) Zk))))
def zn:GM:=ZP 1 1 Zff
def ZeT:SM:=(ZK (mOp ZL (mCB zn (Zc (mOp Zfo (Zd 0) (mC (.int 65536))) Zk)) (mCB zn (Zc (Zd 0) Zk))))
def Zbs:GM:=ZP 1 1 ZeT
def Zb8:SM:=(Zq (ZM 1 (mOp ZL (mCB zn (Zc (mOp ixM (Zd 0) (mC (.int 0))) Zk)) (mCB zn (Zc (mOp ixM (Zd 0) (mC (.int 1))) Zk))))
  (Zq (ZM 2 (mOp ZL (mCB Zbs (Zc (mOp ixM (Zd 0) (mC (.int 2))) Zk)) (mCB Zbs (Zc (mOp ixM (Zd 0) (mC (.int 3))) Zk))))
  (Zq (ZM 3 (ZfK (ZG (mOp eqM (mOp ixM (Zd 0) (mC (.int 6))) (mC (.int 0)))) (mC (.int 20)) (mC (.int 24))))
  (ZK (mOp ZL (mOp ZL (mOp ZL (Zd 1) (Zd 2)) (Zcl (Zc (mCB zP (Zc (Zd 3) Zk)) (Zc (mOp ixM (Zd 0) (mC (.int 4))) Zk)))) (mCB zn (Zc (mOp ixM (Zd 0) (mC (.int 5))) Zk)))))))
def zO:GM:=ZP 1 4 Zb8
def Zdq:SM:=(ZK (ZfK (ZG (mOp eqM (Zd 0) (mC (.int 0)))) (Zcl Zk) (mOp ZL (Zcl (Zc (mC (.int 2)) (Zc (mC (.int 4)) Zk))) (mCB zn (Zc (Zd 0) Zk)))))
def Za2:GM:=ZP 1 1 Zdq
def ZmR:SM:=(Zq (ZM 1 (mCB zO (Zc (Zd 0) Zk)))
  (Zq (ZM 2 (mOp ZL (mOp ZL (Zcl (Zc (mC (.int 0)) (Zc (mC (.int 0)) Zk))) (mCB Za2 (Zc (mOp ixM (Zd 0) (mC (.int 6))) Zk))) (mCB Zk1 (Zc (mOp ixM (Zd 0) (mC (.int 7))) Zk))))
  (ZK (mOp ZL (mOp ZL (Zd 1) (mCB zn (Zc (mCB Zew (Zc (mOp ZL (mOp ZL (Zd 1) (Zcl (Zc (mC (.int 0)) (Zc (mC (.int 0)) Zk)))) (Zd 2)) Zk)) Zk))) (Zd 2)))))
def ZkO:GM:=ZP 1 3 ZmR
def ZgG:SM:=(ZK (mOp Zcc (mOp Zfo (mOp ixM (Zd 0) (mC (.int 12))) (mC (.int 16))) (mC (.int 4))))
def Zbr:GM:=ZP 1 1 ZgG
def ZhE:SM:=(ZK (mOp ZL (mOp Zcc (mC (.int 256)) (mOp ixM (Zd 0) (Zd 1))) (mOp ixM (Zd 0) (mOp ZL (Zd 1) (mC (.int 1))))))
def Zae:GM:=ZP 2 2 ZhE
def Zb5:SM:=(ZK (Zcw (mOp eqM (mCB Zfa (Zc (mOp ixM (Zd 0) (mC (.int 13))) (Zc (mC (.int 2)) Zk))) (mC (.int 1))) (Zcw (mOp eqM (mOp ixM (Zd 0) (mC (.int 20))) (mC (.int 2))) (Zcw (mOp eqM (mOp ixM (Zd 0) (mC (.int 21))) (mC (.int 4))) (mOp geM (mCB Zae (Zc (Zd 0) (Zc (mC (.int 22)) Zk))) (mC (.int 4)))))))
def zN:GM:=ZP 1 1 Zb5
def Zbx:SM:=(ZK (Zcw (mOp geM (mCB Zde (Zc (Zd 0) Zk)) (mC (.int 20))) (Zcw (mOp inM (mOp ixM (Zd 0) (mC (.int 12))) (Zbe (Zc (mCB zP (Zc (mC (.int 20)) Zk)) (Zc (mCB zP (Zc (mC (.int 24)) Zk)) Zk)))) (Zcw (mOp leM (mOp ixM (Zd 0) (mC (.int 13))) (mC (.int 31))) (Zcw (Zc5 leM leM (mC (.int 0)) (mOp Ze9 (mCB Zde (Zc (Zd 0) Zk)) (mCB Zbr (Zc (Zd 0) Zk))) (mC (.int 16))) (Zcw (mOp eqM (mCB Zae (Zc (Zd 0) (Zc (mC (.int 18)) Zk))) (mC (.int 0))) (Zcw (Zk0 (mOp eqM (mCB Zbr (Zc (Zd 0) Zk)) (mC (.int 20))) (mCB zN (Zc (Zd 0) Zk))) (mOp eqM (mCB Zc3 (Zc (Zd 0) Zk)) (mC (.int 65535))))))))))
def Zag:GM:=ZP 1 1 Zbx
def ZgH:SM:=(ZK (mOp ZL (mOp Zcc (mC (.int 65536)) (mCB Zae (Zc (Zd 0) (Zc (Zd 1) Zk)))) (mCB Zae (Zc (Zd 0) (Zc (mOp ZL (Zd 1) (mC (.int 2))) Zk)))))
def ZcT:GM:=ZP 2 2 ZgH
def Zgp:SM:=(mIf (Zd3 (zT (mCB Zag (Zc (Zd 0) Zk)))) ZrI ZN)
def Zjd:SM:=(Zq Zgp
  (Zq (ZM 1 (mCB Zbr (Zc (Zd 0) Zk)))
  (Zq (ZM 2 (ZfK (ZG (mOp eqM (Zd 1) (mC (.int 24)))) (mCB Zae (Zc (Zd 0) (Zc (mC (.int 22)) Zk))) (mC (.int 0))))
  (Zq (ZM 3 (Zbe (Zc (mCB Zae (Zc (Zd 0) (Zc (mC (.int 0)) Zk))) (Zc (mCB Zae (Zc (Zd 0) (Zc (mC (.int 2)) Zk))) Zk))))
  (Zq (ZM 4 (Zbe (Zc (mCB ZcT (Zc (Zd 0) (Zc (mC (.int 4)) Zk))) (Zc (mCB ZcT (Zc (Zd 0) (Zc (mC (.int 8)) Zk))) Zk))))
  (ZK (mOp ZL (mOp ZL (Zd 3) (Zd 4)) (Zbe (Zc (mOp ixM (Zd 0) (mC (.int 13))) (Zc (mCB Zae (Zc (Zd 0) (Zc (mC (.int 14)) Zk))) (Zc (Zd 2) (Zc (mCB Zer (Zc (mSl (Zd 0) (Zbm (Zd 1)) Za0) Zk)) Zk))))))))))))
def Zij:GM:=ZP 1 5 Zjd
def Zfr:SM:=(mIf (zT (Zd 0)) (ZK (mOp ixM (Zd 0) (mOp ZaZ (Zd 1) (mCB Zde (Zc (Zd 0) Zk))))) ZN)
def ZhT:SM:=(Zq Zfr
  (ZK (mC (.int 0))))
def Zgg:GM:=ZP 2 2 ZhT
def ZmU:SM:=(Zq (ZM 2 (mOp ZaZ (mOp ZL (mCB Zgg (Zc (Zd 0) (Zc (Zd 1) Zk))) (mOp Zcc (mC (.int 104729)) (mOp ZL (Zd 1) (mC (.int 1))))) (mC (.int 4294967291))))
  (Zq (ZM 2 (mOp ZaZ (mOp Zcc (Zd 2) (mC (.int 48271))) (mC (.int 4294967279))))
  (ZK (mOp ZaZ (mOp ZL (mOp Zcc (mOp Zfo (Zd 2) (mC (.int 64))) (mC (.int 69621))) (Zd 2)) (mC (.int 4294967231))))))
def Za9:GM:=ZP 2 3 ZmU
def ZmT:SM:=(ZK (Zcl (Zc (mOp Zfo (Zd 0) (mC (.int 256))) (Zc (mOp ZaZ (Zd 0) (mC (.int 256))) Zk))))
def Zel:GM:=ZP 1 1 ZmT
def Zf1:SM:=(Zd5 (ZcN (Zc (mCB Zde (Zc (Zd 0) Zk)) Zk)) (gNm 2) (ZM 1 (mOp ZL (Zd 1) (mOp Zcc (mOp ixM (Zd 0) (Zd 2)) (mOp ixM (Zcl (Zc (mC (.int 256)) (Zc (mC (.int 1)) Zk))) (mOp ZaZ (Zd 2) (mC (.int 2))))))))
def Zf0:SM:=(ZcB (ZG (mOp gtM (Zd 1) (mC (.int 65535)))) (ZM 1 (mOp ZL (mOp ZaZ (Zd 1) (mC (.int 65536))) (mOp Zfo (Zd 1) (mC (.int 65536))))) 200)
def ZhS:SM:=(Zq (ZM 1 (mC (.int 0)))
  (Zq Zf1
  (Zq Zf0
  (ZK (Zd 1)))))
def Zcx:GM:=ZP 1 3 ZhS
def ZeW:SM:=(Zd5 (mIn (mSl (Zd 0) (Zbm (mC (.int 2))) (Zbm (mC (.int 4))))) (gNm 2) (ZM 1 (mOp ZL (mOp ZL (Zd 1) (mCB Zel (Zc (mOp Zfo (Zd 2) (mC (.int 65536))) Zk))) (mCB Zel (Zc (mOp ZaZ (Zd 2) (mC (.int 65536))) Zk)))))
def ZeV:SM:=(mIf (ZG (mOp gtM (mOp ixM (Zd 0) (mC (.int 6))) (mC (.int 0)))) (ZM 1 (mOp ZL (mOp ZL (Zd 1) (Zcl (Zc (mC (.int 2)) (Zc (mC (.int 4)) Zk)))) (mCB Zel (Zc (mOp ixM (Zd 0) (mC (.int 6))) Zk)))) ZN)
def Zgr:SM:=(Zq (ZM 1 (mOp ZL (mCB Zel (Zc (mOp ixM (Zd 0) (mC (.int 0))) Zk)) (mCB Zel (Zc (mOp ixM (Zd 0) (mC (.int 1))) Zk))))
  (Zq ZeW
  (Zq (ZM 1 (mOp ZL (mOp ZL (mOp ZL (Zd 1) (Zcl (Zc (mOp ixM (Zcl (Zc (mC (.int 80)) (Zc (mC (.int 96)) Zk))) (mCB ZrL (Zc (mOp gtM (mOp ixM (Zd 0) (mC (.int 6))) (mC (.int 0))) Zk))) (Zc (mOp ixM (Zd 0) (mC (.int 4))) Zk)))) (mCB Zel (Zc (mOp ixM (Zd 0) (mC (.int 5))) Zk))) (Zcl (Zc (mC (.int 0)) (Zc (mC (.int 0)) (Zc (mC (.int 0)) (Zc (mC (.int 0)) Zk)))))))
  (Zq ZeV
  (Zq (ZM 1 (mOp ZL (Zd 1) (mCB Zk1 (Zc (mOp ixM (Zd 0) (mC (.int 7))) Zk))))
  (ZK (mOp ZL (mOp ZL (mSl (Zd 1) Za0 (Zbm (mC (.int 16)))) (mCB Zel (Zc (mOp Ze9 (mC (.int 65535)) (mCB Zcx (Zc (Zd 1) Zk))) Zk))) (mSl (Zd 1) (Zbm (mC (.int 18))) Za0))))))))
def Zcq:GM:=ZP 1 3 Zgr
end
end My
namespace My
open PySem L2 L2.MM
noncomputable section
def cell (ns:List Int) (k:Int):Int:=if ns.length=0 then 0 else ns.getD (k % (ns.length:Int)).toNat 0
def mix (ns:List Int) (k:Int):Int:=
  ((cell ns k+104729*(k+1)) % 4294967291*48271 % 4294967279/64*69621+(cell ns k+104729*(k+1)) % 4294967291*48271 % 4294967279) % 4294967231
theorem ZpV (ns:List Int) (k:Int):0≤mix ns k∧mix ns k<4294967231:=by
  unfold mix; omega
theorem Zr2 {ns:List Int} {k:Int} (h:0<ns.length):atI (ns.map D.int) (k % (ns.length:Int))=some (.int (cell ns k)):=by
  have a:=Int.emod_nonneg k (show (ns.length:Int)≠0 by omega)
  have b:=Int.emod_lt_of_pos k (show (0:Int)<ns.length by omega)
  have c:(k % (ns.length:Int))=(((k % (ns.length:Int)).toNat:Nat):Int):=by omega
  rw [c]
  refine Zg1 ?_
  have d:(k % (ns.length:Int)).toNat<ns.length:=by omega
  rw [List.getElem?_map,List.getElem?_eq_getElem d]
  unfold cell
  rw [if_neg (by omega),List.getD_eq_getElem?_getD,List.getElem?_eq_getElem d]
  rfl
@[simp] theorem Zyl (ns:List Int) (k:Int) (θ:Sto):Zgg [.scr ns,.int k] θ=.ok (.int (cell ns k)) θ:=by
  by_cases h:ns.length=0
  · have:ns=[]:=List.eq_nil_of_length_eq_zero h
    subst this
    simp [Zgg,ZhT,Zfr,cell]
  · have h1:ns.isEmpty=false:=by cases ns with
      | nil=>exact absurd rfl h
      | cons _ _=>rfl
    have h2:0<ns.length:=by omega
    simp [Zgg,ZhT,Zfr,h1,h2,Zr2 (k:=k) h2]
@[simp] theorem Zzt (ns:List Int) (k:Int) (θ:Sto):Za9 [.scr ns,.int k] θ=.ok (.int (mix ns k)) θ:=by
  simp [Za9,ZmU,ZeX,mix]
@[simp] theorem ZuE (k:Int) (θ:Sto):Zel [.int k] θ=.ok (il [k/256,k % 256]) θ:=by
  simp [Zel,ZmT]
theorem ZgU {t:TMr} {body:SM} {n:Nat} {ρ:List Sl} {θ:Sto}:ZcB t body (n+1) ρ θ=(t ρ θ).bind fun k θ=>if k=true then (body ρ θ).bind (Zfc (ZcB t body n)) else .ok (.nx,ρ) θ:=rfl
abbrev ZsA:TMr:=ZG (mOp gtM (Zd 1) (mC (.int 65535)))
abbrev ZsB:SM:=ZM 1 (mOp ZL (mOp ZaZ (Zd 1) (mC (.int 65536))) (mOp Zfo (Zd 1) (mC (.int 65536))))
theorem Zl0 (t:Int) (x:Sl) (r:List Sl) (θ:Sto):ZsA (x::.val (.int t)::r) θ=.ok (decide (65535<t)) θ:=by simp
theorem Zqh (t:Int) (x:Sl) (r:List Sl) (θ:Sto):ZsB (x::.val (.int t)::r) θ=.ok (.nx,x::.val (.int (t % 65536+t/65536))::r) θ:=by simp
theorem Zq5 {t:Int} (n:Nat) (h0:0≤t) (h1:t<4294967296) (x:Sl) (r:List Sl) (θ:Sto):ZcB ZsA ZsB (n+3) (x::.val (.int t)::r) θ=.ok (.nx,x::.val (.int (ZaT t))::r) θ:=by
  rw [ZgU,Zl0,R.bind_ok]
  by_cases c1:65535<t
  · have s1:=Ziy c1
    rw [if_pos (by simpa using c1),Zqh,R.bind_ok,Zdy]
    have hu:t % 65536+t/65536≤131070:=by omega
    generalize t % 65536+t/65536=u at s1 hu
    rw [ZgU,Zl0,R.bind_ok]
    by_cases c2:65535<u
    · have s2:=Ziy c2
      rw [if_pos (by simpa using c2),Zqh,R.bind_ok,Zdy]
      have hv:u % 65536+u/65536≤65535:=by omega
      generalize u % 65536+u/65536=v at s2 hv
      rw [ZgU,Zl0,R.bind_ok,if_neg (by simp; omega),←s1.1,←s2.1,Zfn s2.2.1 hv]
    · rw [if_neg (by simpa using c2),←s1.1,Zfn s1.2.1 (by omega)]
  · rw [if_neg (by simpa using c1),Zfn h0 (by omega)]
theorem Zic {t:Int} (h0:0≤t) (h1:t<4294967296) (x:Sl) (r:List Sl) (θ:Sto):ZcB (ZG (mOp gtM (Zd 1) (mC (.int 65535)))) (ZM 1 (mOp ZL (mOp ZaZ (Zd 1) (mC (.int 65536))) (mOp Zfo (Zd 1) (mC (.int 65536))))) 200 (x::.val (.int t)::r) θ=.ok (.nx,x::.val (.int (ZaT t))::r) θ:=Zq5 197 h0 h1 x r θ
def Byt (ns:List Int):Prop:=(∀z∈ns,0≤z∧z≤255)∧ns.length≤1000
theorem Zl8:∀{ns:List Int} {m:Nat},(∀z∈ns,0≤z∧z≤255)→ns.length≤2*m→zw ns≤65535*m
  | [],m,_,_=>by simp [zw]; omega
  | [a],m,h,hl=>by
    have:=h a (by simp)
    simp [zw] at hl ⊢
    omega
  | a::b::r,m,h,hl=>by
    have h1:=h a (by simp)
    have h2:=h b (by simp)
    obtain ⟨m,rfl⟩:∃k,m=k+1:=⟨m-1,by simp at hl; omega⟩
    have:=Zl8 (ns:=r) (m:=m) (fun z hz=>h z (by simp [hz])) (by simp at hl; omega)
    simp [zw]
    omega
theorem Byt.sum {ns:List Int} (h:Byt ns):0≤zw ns∧zw ns<4294967296:=by
  refine ⟨Zl7 fun z hz=>(h.1 z hz).1,?_⟩
  have:=Zl8 (m:=500) h.1 (by have:=h.2; omega)
  omega
theorem ZkD {ns:List Int} (h:Byt ns) (θ:Sto):Zc3 [il ns] θ=.ok (.int (ZaT (zw ns))) θ:=by
  have l1:=Ziz ns
  have l2:=ZkP ns
  have l3:=h.2
  have hs:=h.sum
  have e:=Zl9 ns
  simp [Zc3,ZhN,ZfZ,Zf9,ZeX,show (Zem ns).length≤100000 by omega,show (Zhi ns).length≤100000 by omega,e]
  rw [Zic hs.1 hs.2]
  simp
theorem Zo7 {ns:List Int} (h:Byt ns) (θ:Sto):Zew [il ns] θ=.ok (.int (65535-ZaT (zw ns))) θ:=by
  simp [Zew,ZhF,ZkD h]
theorem Zh8 {ns:List Int} (h:Byt ns) (θ:Sto):Zcx [il ns] θ=.ok (.int (ZaT (zw ns))) θ:=by
  have hs:=h.sum
  have l3:=h.2
  let st:Nat→List Sl:=fun i=>[.val (il ns),.val (.int (wpre ns i)),if i=0 then .no else .val (.int ((i:Int)-1))]
  have loop:=ZrS (θ:=θ) (lo:=0) (n:=ns.length) (tg:=gNm 2) (body:=ZM 1 (mOp ZL (Zd 1) (mOp Zcc (mOp ixM (Zd 0) (Zd 2)) (mOp ixM (Zcl (Zc (mC (.int 256)) (Zc (mC (.int 1)) Zk))) (mOp ZaZ (Zd 2) (mC (.int 2))))))) st ?_ (fun i hi=>⟨_,rfl⟩) rfl
  · have b1:(ns.length:Int)≤1000000:=by omega
    have b2 : -1000000≤(ns.length:Int):=by omega
    have b3:ns.length≤1000000:=by omega
    have l0:st 0=[.val (il ns),.val (.int 0),.no]:=rfl
    rw [l0] at loop
    simp [Zcx,ZhS,Zf1,Zf0,Zd5,b1,b2,b3]
    simp at loop
    rw [loop]
    simp [st]
    rw [Zkz,Zic hs.1 hs.2]
    simp
  · intro i ρ1 hi e
    have e':ρ1=[.val (il ns),.val (.int (wpre ns i)),.val (.int (0+(i:Int)))]:=by
      simp [st] at e
      simp [←e]
    subst e'
    have g1:ixM (il ns) (.int (0+(i:Int))) θ=.ok (.int (ns.getD i 0)) θ:=by
      rw [ZbQ (by omega) (by omega)]
      simp [gt]
    have g2:ixM (il [256,1]) (.int ((0+(i:Int)) % 2)) θ=.ok (.int (if i % 2=0 then 256 else 1)) θ:=by
      rw [ZbQ (by omega) (by simp; omega)]
      by_cases q:i % 2=0
      · rw [show ((0+(i:Int)) % 2).toNat=0 by omega,if_pos q]; rfl
      · rw [show ((0+(i:Int)) % 2).toNat=1 by omega,if_neg q]; rfl
    have cm:ZeX (ns.getD i 0) (if i % 2=0 then 256 else 1):=.inr (by split<;>decide)
    simp only [Zut,Zuu,Zr7,Zuv,Zo3,x_c,Zr9,List.getElem?_cons_succ,List.getElem?_cons_zero,R.bind_ok,g1]
    simp only [List.length_cons,List.length_nil,ZvD,Zt0,Zmq,if_pos (show (0:Int)<2 by decide),R.bind_ok,g2,ZpS,if_pos cm,ZqL,if_pos (show 0+1+1≤100000 by decide)]
    simp [st,wpre]
end
end My
namespace My
open PySem L2 L2.MM
noncomputable section
structure Seg where
  src:Int
  goal:Int
  num:Int
  ans:Int
  flags:Int
  win:Int
  most:Int
  data:List Int
def Seg.d (s:Seg):D:=.tup [.int s.src,.int s.goal,.int s.num,.int s.ans,.int s.flags,.int s.win,.int s.most,itp s.data]
structure Seg.Ok (s:Seg):Prop where
  src:0≤s.src∧s.src≤65535
  goal:0≤s.goal∧s.goal≤65535
  num:0≤s.num∧s.num≤4294967295
  ans:0≤s.ans∧s.ans≤4294967295
  flags:0≤s.flags∧s.flags≤31
  win:0≤s.win∧s.win≤65535
  most:s.most=0∨(4≤s.most∧s.most≤65535∧s.flags/2 % 2=1)
  data:(∀z∈s.data,0≤z∧z≤255)∧s.data.length≤16
section
variable {s:Seg} {θ:Sto}
@[simp] theorem d0:ixM s.d (.int 0) θ=.ok (.int s.src) θ:=nr rfl
@[simp] theorem d1:ixM s.d (.int 1) θ=.ok (.int s.goal) θ:=nr rfl
@[simp] theorem d2:ixM s.d (.int 2) θ=.ok (.int s.num) θ:=nr rfl
@[simp] theorem d3:ixM s.d (.int 3) θ=.ok (.int s.ans) θ:=nr rfl
@[simp] theorem d4:ixM s.d (.int 4) θ=.ok (.int s.flags) θ:=nr rfl
@[simp] theorem d5:ixM s.d (.int 5) θ=.ok (.int s.win) θ:=nr rfl
@[simp] theorem d6:ixM s.d (.int 6) θ=.ok (.int s.most) θ:=nr rfl
@[simp] theorem d7:ixM s.d (.int 7) θ=.ok (itp s.data) θ:=nr rfl
end
def two (k:Int):List Int:=[k/256 % 256,k % 256]
def Zlg (k:Int):List Int:=two (k/65536)++two k
def hd (s:Seg):Int:=if s.most=0 then 80 else 96
def ZaX (s:Seg):List Int:=two s.src++two s.goal++(Zlg s.num++Zlg s.ans)++[hd s,s.flags]++two s.win
def ZcM (m:Int):List Int:=if m=0 then [] else [2,4]++two m
def behind (s:Seg):List Int:=[0,0]++ZcM s.most++s.data
def putL (s:Seg):List Int:=ZaX s++two (65535-ZaT (zw (ZaX s++[0,0]++behind s)))++behind s
@[simp] theorem Zsb (k:Int) (θ:Sto):zn [.int k] θ=.ok (il (two k)) θ:=by
  simp [zn,Zff,two]
@[simp] theorem two_len (k:Int):(two k).length=2:=rfl
@[simp] theorem ZvB (k:Int):(Zlg k).length=4:=rfl
@[simp] theorem Zuq (s:Seg):(ZaX s).length=16:=rfl
@[simp] theorem Zq4 (k:Int) (θ:Sto):Zbs [.int k] θ=.ok (il (Zlg k)) θ:=by
  simp [Zbs,ZeT,Zlg]
@[simp] theorem Zpc (k:Int) (θ:Sto):zP [.int k] θ=.ok (.int (16*(k/4))) θ:=by
  simp [zP,ZdP,ZeX]
@[simp] theorem ZnG (k:Int) (θ:Sto):Za2 [.int k] θ=.ok (il (ZcM k)) θ:=by
  by_cases h:k=0<;>simp [Za2,Zdq,ZcM,h,Zd7]
@[simp] theorem ZvZ (s:Seg) (θ:Sto):zO [s.d] θ=.ok (il (ZaX s)) θ:=by
  by_cases h:s.most=0<;>simp [zO,Zb8,ZaX,hd,h]
theorem Zip (m:Int):(ZcM m).length≤4:=by unfold ZcM; split<;>simp
theorem Zd9 (k:Int):∀z∈two k,0≤z∧z≤255:=by
  intro z hz
  simp [two] at hz
  rcases hz with rfl | rfl<;>omega
theorem Zlr (k:Int):∀z∈Zlg k,0≤z∧z≤255:=by
  intro z hz
  rcases List.mem_append.mp hz with h | h
  · exact Zd9 _ z h
  · exact Zd9 _ z h
theorem ZbI {a b:List Int} (h1:∀z∈a,0≤z∧z≤255) (h2:∀z∈b,0≤z∧z≤255):∀z∈a++b,0≤z∧z≤255:=fun z hz=>(List.mem_append.mp hz).elim (h1 z) (h2 z)
theorem ZiA {s:Seg} (h:0≤s.flags∧s.flags≤255):∀z∈ZaX s,0≤z∧z≤255:=by
  refine ZbI (ZbI (ZbI (ZbI (Zd9 _) (Zd9 _)) (ZbI (Zlr _) (Zlr _))) ?_) (Zd9 _)
  intro z hz
  simp at hz
  rcases hz with rfl | rfl
  · unfold hd; split<;>omega
  · exact h
theorem ZqD (m:Int):∀z∈ZcM m,0≤z∧z≤255:=by
  unfold ZcM
  split
  · intro z hz; simp at hz
  · refine ZbI ?_ (Zd9 _)
    intro z hz
    simp at hz
    omega
theorem ZhC {s:Seg} (h:∀z∈s.data,0≤z∧z≤255):∀z∈behind s,0≤z∧z≤255:=by
  refine ZbI (ZbI ?_ (ZqD _)) h
  intro z hz
  simp at hz
  omega
theorem Zea (s:Seg):(behind s).length≤6+s.data.length:=by
  have:=Zip s.most
  simp [behind]
  omega
structure Seg.Put (s:Seg):Prop where
  flags:0≤s.flags∧s.flags≤255
  data:(∀z∈s.data,0≤z∧z≤255)∧s.data.length≤100
theorem Seg.Ok.put {s:Seg} (h:s.Ok):s.Put:=⟨⟨h.flags.1,by have:=h.flags.2; omega⟩,h.data.1,by have:=h.data.2; omega⟩
theorem Seg.Put.byt {s:Seg} (h:s.Put):Byt (ZaX s++[0,0]++behind s):=by
  refine ⟨ZbI (ZbI (ZiA h.flags) ?_) (ZhC h.data.1),?_⟩
  · intro z hz
    simp at hz
    omega
  · have:=Zea s
    have:=h.data.2
    simp
    omega
theorem ZuF {s:Seg} (h:s.Put) (θ:Sto):ZkO [s.d] θ=.ok (il (putL s)) θ:=by
  have b:=h.byt
  have l1:=Zip s.most
  have l2:=h.data.2
  have l3:=Zea s
  have e1:0::0::(ZcM s.most++s.data)=behind s:=rfl
  have e2:=Zo7 b θ
  simp only [List.append_assoc,List.cons_append,List.nil_append] at e2
  simp (disch:=first | done | (simp; done) | omega | (simp; omega)) [ZkO,ZmR,Zi1,-Zqa,e1,e2]
  simp [putL,show 18+(behind s).length≤100000 by omega]
theorem Zg2 {a b c:List Int} (ha:a.length % 2=0) (hb:b.length % 2=0):zw (a++b++c)=zw a+zw b+zw c:=by
  rw [Zg3 (by rw [List.length_append]; omega),Zg3 ha]
theorem Zpj {s:Seg} (h:s.Put):ZaT (zw (putL s))=65535:=by
  have b:=h.byt
  have w0:=b.sum
  have e1:zw (putL s)=zw (ZaX s)+zw (two (65535-ZaT (zw (ZaX s++[0,0]++behind s))))+zw (behind s):=Zg2 (by simp) (by simp)
  have e2:zw (ZaX s++[0,0]++behind s)=zw (ZaX s)+zw [0,0]+zw (behind s):=Zg2 (by simp) (by simp)
  have e3:zw [0,0]=0:=by simp [zw]
  have f:=ZmJ w0.1
  have e4:zw (two (65535-ZaT (zw (ZaX s++[0,0]++behind s))))=256*((65535-ZaT (zw (ZaX s++[0,0]++behind s)))/256)+(65535-ZaT (zw (ZaX s++[0,0]++behind s))) % 256:=by
    have:=f.2.1
    have:=f.1
    simp only [zw,two]
    omega
  have c:=ZlZ w0.1
  rw [e1,e4]
  rw [e3] at e2
  have:zw (ZaX s)+(256*((65535-ZaT (zw (ZaX s++[0,0]++behind s)))/256)+(65535-ZaT (zw (ZaX s++[0,0]++behind s))) % 256)+zw (behind s)=zw (ZaX s++[0,0]++behind s)+(256*((65535-ZaT (zw (ZaX s++[0,0]++behind s)))/256)+(65535-ZaT (zw (ZaX s++[0,0]++behind s))) % 256):=by omega
  rw [this]
  exact c
theorem Zmm {s:Seg} (h:s.Put):Byt (putL s):=by
  refine ⟨ZbI (ZbI (ZiA h.flags) (Zd9 _)) (ZhC h.data.1),?_⟩
  have:=Zea s
  have:=h.data.2
  simp [putL]
  omega
theorem Zml {s:Seg}:(putL s).length=(if s.most=0 then 20 else 24)+s.data.length:=by
  unfold putL behind ZcM
  by_cases h:s.most=0<;>simp [h]<;>omega
theorem ZlH (s:Seg):∃x y,putL s=[s.src/256 % 256,s.src % 256,s.goal/256 % 256,s.goal % 256,s.num/65536/256 % 256,s.num/65536 % 256,s.num/256 % 256,s.num % 256,
    s.ans/65536/256 % 256,s.ans/65536 % 256,s.ans/256 % 256,s.ans % 256,hd s,s.flags,s.win/256 % 256,s.win % 256,x,y,0,0]++(ZcM s.most++s.data):=⟨_,_,rfl⟩
@[simp] theorem Zcs {a:List Int} {i:Int} (h0:0≤i) (h:i+1<a.length) (θ:Sto):Zae [il a,.int i] θ=.ok (.int (256*gt a i.toNat+gt a (i+1).toNat)) θ:=by
  simp [Zae,ZhE,ZbQ (θ:=θ) h0 (show i<a.length by omega),ZbQ (θ:=θ) (show 0≤i+1 by omega) h,ZeX]
@[simp] theorem Zib {a:List Int} {i:Int} (h0:0≤i) (h:i+3<a.length) (θ:Sto):ZcT [il a,.int i] θ=.ok (.int (65536*(256*gt a i.toNat+gt a (i+1).toNat)+(256*gt a (i+2).toNat+gt a (i+2+1).toNat))) θ:=by
  simp [ZcT,ZgH,Zcs (θ:=θ) h0 (show i+1<a.length by omega),Zcs (θ:=θ) (show 0≤i+2 by omega) (show i+2+1<a.length by omega),ZeX]
@[simp] theorem Zh9 {a:List Int} (h:12<a.length) (θ:Sto):Zbr [il a] θ=.ok (.int (gt a 12/16*4)) θ:=by
  have:=ZbQ (a:=a) (θ:=θ) (i:=12) (by decide) (by omega)
  simp [Zbr,ZgG,this,ZeX]
def bit (f k:Int):Int:=if Builtin.bitAnd f k=0 then 0 else 1
@[simp] theorem Zzu (f k:Int) (θ:Sto):Zfa [.int f,.int k] θ=.ok (.int (bit f k)) θ:=by
  by_cases h:Builtin.bitAnd f k=0<;>simp [Zfa,ZmS,bit,h]
theorem Zr0:∀n:Fin 32,bit (n.val:Int) 1=(n.val:Int) % 2∧bit (n.val:Int) 2=(n.val:Int)/2 % 2∧bit (n.val:Int) 4=(n.val:Int)/4 % 2∧bit (n.val:Int) 8=(n.val:Int)/8 % 2∧bit (n.val:Int) 16=(n.val:Int)/16 % 2:=by decide
theorem ZqF {f:Int} (h:0≤f∧f≤31):bit f 1=f % 2∧bit f 2=f/2 % 2∧bit f 4=f/4 % 2∧bit f 8=f/8 % 2∧bit f 16=f/16 % 2:=by
  have:=Zr0 ⟨f.toNat,by omega⟩
  simp only at this
  rw [show ((f.toNat:Nat):Int)=f by omega] at this
  exact this
theorem Zpa (s:Seg) (θ:Sto):Zcu [s.d] θ=.ok (.int (s.data.length+bit s.flags 2+bit s.flags 1)) θ:=by
  simp [Zcu,ZhK]
def at2 (a:List Int) (i:Nat):Int:=256*gt a i+gt a (i+1)
def at4 (a:List Int) (i:Nat):Int:=65536*at2 a i+at2 a (i+2)
def longOk (a:List Int):Bool:=decide (bit (gt a 13) 2=1) && (decide (gt a 20=2) && (decide (gt a 21=4) && decide (4≤at2 a 22)))
def Zbn (a:List Int):Int:=gt a 12/16*4
def Zas (a:List Int):Bool:=decide (20≤a.length) && (decide (gt a 12=80∨gt a 12=96) && (decide (gt a 13≤31) && (decide (0≤(a.length:Int)-Zbn a∧(a.length:Int)-Zbn a≤16) &&
  (decide (at2 a 18=0) && ((decide (Zbn a=20) || longOk a) && decide (ZaT (zw a)=65535))))))
theorem ZsU {a:List Int} (h:24≤a.length) (θ:Sto):zN [il a] θ=.ok (.bl (longOk a)) θ:=by
  have g:=fun (i:Int) (h0:0≤i) (h1:i<a.length)=>ZbQ (a:=a) (θ:=θ) (i:=i) h0 h1
  have g13:=g 13 (by decide) (by omega)
  have g20:=g 20 (by decide) (by omega)
  have g21:=g 21 (by decide) (by omega)
  have g22:=Zcs (a:=a) (i:=22) (by decide) (by omega) θ
  simp only [show (13:Int).toNat=13 from rfl,show (20:Int).toNat=20 from rfl,show (21:Int).toNat=21 from rfl,show (22:Int).toNat=22 from rfl,show (22+1:Int).toNat=23 from rfl] at g13 g20 g21 g22
  unfold longOk at2
  simp [zN,Zb5,g13,g20,g21,g22]
theorem ZrM (x y z:Int) (θ:Sto):inM (.int x) (.tup [.int y,.int z]) θ=.ok (.bl (decide (x=y∨x=z))) θ:=by
  have e:inD θ (.int x) (.tup [.int y,.int z])=some (decide (y=x) || (decide (z=x) || false)):=rfl
  have e2:(decide (y=x) || (decide (z=x) || false))=decide (x=y∨x=z):=by
    rw [Bool.eq_iff_iff]
    simp only [Bool.or_eq_true,decide_eq_true_eq,Bool.false_eq_true,or_false]
    constructor
    · rintro (h | h)
      · exact .inl h.symm
      · exact .inr h.symm
    · rintro (h | h)
      · exact .inl h.symm
      · exact .inr h.symm
  unfold inM
  rw [e,e2]
theorem ZcW {a:List Int} (h:Byt a) (θ:Sto):Zag [il a] θ=.ok (.bl (Zas a)) θ:=by
  by_cases c1:20≤a.length
  · have g:=fun (i:Int) (h0:0≤i) (h1:i<a.length)=>ZbQ (a:=a) (θ:=θ) (i:=i) h0 h1
    have g12:=g 12 (by decide) (by omega)
    have g13:=g 13 (by decide) (by omega)
    have g18:=Zcs (a:=a) (i:=18) (by decide) (by omega) θ
    have gh:=Zh9 (a:=a) (by omega) θ
    have gf:=ZkD h θ
    have c1':(20:Int)≤a.length:=by omega
    simp only [show (12:Int).toNat=12 from rfl,show (13:Int).toNat=13 from rfl,show (18:Int).toNat=18 from rfl,show (18+1:Int).toNat=19 from rfl] at g12 g13 g18
    by_cases c2:gt a 12=80
    · rw [c2] at g12 gh
      simp [Zag,Zbx,Zas,Zbn,at2,c1,c1',g12,g13,g18,gh,gf,ZrM,c2]<;>rfl
    · by_cases c3:gt a 12=96
      · rw [c3] at g12 gh
        by_cases c4:24≤a.length
        · have gl:=ZsU c4 θ
          simp [Zag,Zbx,Zas,Zbn,at2,c1,c1',g12,g13,g18,gh,gf,ZrM,c3,gl]<;>rfl
        · have c5:¬(24:Int)≤(a.length:Int):=by omega
          simp [Zag,Zbx,Zas,Zbn,at2,c1,c1',g12,g13,g18,gh,gf,ZrM,c3,c5]<;>rfl
      · simp [Zag,Zbx,Zas,Zbn,at2,c1,c1',g12,g13,g18,gh,gf,ZrM,c2,c3]
  · have c1':¬(20:Int)≤a.length:=by omega
    simp [Zag,Zbx,Zas,c1,c1']
def ZbA (a:List Int):Seg:=⟨at2 a 0,at2 a 2,at4 a 4,at4 a 8,gt a 13,at2 a 14,if Zbn a=24 then at2 a 22 else 0,a.drop (Zbn a).toNat⟩
theorem ZgA {a:List Int} (h:Zas a=true):20≤a.length∧((Zbn a=20)∨(Zbn a=24∧24≤a.length∧longOk a=true))∧(a.length:Int)-Zbn a≤16∧gt a 13≤31:=by
  unfold Zas at h
  simp only [Bool.and_eq_true,decide_eq_true_eq,Bool.or_eq_true] at h
  obtain ⟨h1,h2,h3,h4,h5,h6,h7⟩:=h
  refine ⟨h1,?_,h4.2,h3⟩
  rcases h2 with h2 | h2
  · left; unfold Zbn; rw [h2]; rfl
  · right
    have e:Zbn a=24:=by unfold Zbn; rw [h2]; rfl
    refine ⟨e,by have:=h4.1; rw [e] at this; omega,?_⟩
    rcases h6 with h6 | h6
    · rw [e] at h6; cases h6
    · exact h6
theorem Zmd {a:List Int} (h:Byt a) (hr:Zas a=true) (θ:Sto):Zij [il a] θ=.ok (ZbA a).d θ:=by
  obtain ⟨l1,l2,l3,l4⟩:=ZgA hr
  have ir:=ZcW h θ
  rw [hr] at ir
  have gh:=Zh9 (a:=a) (by omega) θ
  have g13:=ZbQ (a:=a) (θ:=θ) (i:=13) (by decide) (by omega)
  have q0:=Zcs (a:=a) (i:=0) (by decide) (by omega) θ
  have q2:=Zcs (a:=a) (i:=2) (by decide) (by omega) θ
  have q14:=Zcs (a:=a) (i:=14) (by decide) (by omega) θ
  have q4:=Zib (a:=a) (i:=4) (by decide) (by omega) θ
  have q8:=Zib (a:=a) (i:=8) (by decide) (by omega) θ
  simp only [show (13:Int).toNat=13 from rfl,show (0:Int).toNat=0 from rfl,show (0+1:Int).toNat=1 from rfl,show (2:Int).toNat=2 from rfl,show (2+1:Int).toNat=3 from rfl,show (14:Int).toNat=14 from rfl,show (14+1:Int).toNat=15 from rfl,
    show (4:Int).toNat=4 from rfl,show (4+1:Int).toNat=5 from rfl,show (4+2:Int).toNat=6 from rfl,show (4+2+1:Int).toNat=7 from rfl,show (8:Int).toNat=8 from rfl,show (8+1:Int).toNat=9 from rfl,show (8+2:Int).toNat=10 from rfl,show (8+2+1:Int).toNat=11 from rfl] at g13 q0 q2 q14 q4 q8
  have gh':Zbr [il a] θ=.ok (.int (Zbn a)) θ:=gh
  have ps:∀x:Int,0≤x→Zbf a (some x) none=a.drop x.toNat:=fun x hx=>ZdK a hx
  rcases l2 with e | ⟨e,l5,_⟩
  · simp [Zij,Zjd,Zgp,ir,gh',e,g13,q0,q2,q4,q8,q14,ps,ZbA,Seg.d,at2,at4]
  · have q22:=Zcs (a:=a) (i:=22) (by decide) (by omega) θ
    simp only [show (22:Int).toNat=22 from rfl,show (22+1:Int).toNat=23 from rfl] at q22
    simp [Zij,Zjd,Zgp,ir,gh',e,g13,q0,q2,q4,q8,q14,q22,ps,ZbA,Seg.d,at2,at4]
end
end My
namespace My
open PySem L2 L2.MM
noncomputable section
theorem Zpi (s:Seg):gt (putL s) 12=hd s∧gt (putL s) 13=s.flags∧at2 (putL s) 18=0∧at2 (putL s) 0=256*(s.src/256 % 256)+s.src % 256∧at2 (putL s) 2=256*(s.goal/256 % 256)+s.goal % 256∧
    at4 (putL s) 4=65536*(256*(s.num/65536/256 % 256)+s.num/65536 % 256)+(256*(s.num/256 % 256)+s.num % 256)∧at4 (putL s) 8=65536*(256*(s.ans/65536/256 % 256)+s.ans/65536 % 256)+(256*(s.ans/256 % 256)+s.ans % 256)∧
    at2 (putL s) 14=256*(s.win/256 % 256)+s.win % 256:=by
  obtain ⟨x,y,e⟩:=ZlH s
  rw [e]
  unfold at4 at2
  refine ⟨rfl,rfl,?_,rfl,rfl,rfl,rfl,rfl⟩
  show 256*(0:Int)+0=0
  rfl
theorem ZkM (s:Seg) (h:s.most≠0):gt (putL s) 20=2∧gt (putL s) 21=4∧at2 (putL s) 22=256*(s.most/256 % 256)+s.most % 256:=by
  obtain ⟨x,y,e⟩:=ZlH s
  have e2:ZcM s.most=[2,4,s.most/256 % 256,s.most % 256]:=by unfold ZcM; rw [if_neg h]; rfl
  rw [e,e2]
  unfold at2
  exact ⟨rfl,rfl,rfl⟩
theorem Zig {s:Seg} (h:s.Ok):Zas (putL s)=true:=by
  obtain ⟨g12,g13,g18,_⟩:=Zpi s
  have hl:=Zml (s:=s)
  have hd':=h.data.2
  have hf:=Zpj h.put
  have hw:=h.flags
  unfold Zas longOk Zbn
  simp only [Bool.and_eq_true,decide_eq_true_eq,Bool.or_eq_true]
  rw [g12,g13,g18,hf,hl]
  by_cases m:s.most=0
  · have e:hd s=80:=if_pos m
    rw [e,if_pos m]
    simp
    omega
  · have e:hd s=96:=if_neg m
    obtain ⟨p1,p2,p3⟩:=ZkM s m
    have hm:4≤s.most∧s.most≤65535∧s.flags/2 % 2=1:=h.most.resolve_left m
    have hb:=(ZqF h.flags).2.1
    rw [e,if_neg m,p1,p2,p3,hb]
    simp
    omega
theorem Zqm (s:Seg):(putL s).drop (if s.most=0 then 20 else 24)=s.data:=by
  obtain ⟨x,y,e⟩:=ZlH s
  rw [e]
  by_cases m:s.most=0
  · rw [if_pos m]
    simp [ZcM,m]
  · rw [if_neg m]
    simp [ZcM,m,two]
theorem ZmI {s:Seg} (h:s.Ok):ZbA (putL s)=s:=by
  obtain ⟨g12,g13,g18,g0,g2,g4,g8,g14⟩:=Zpi s
  have e0:=Zqm s
  obtain ⟨⟨a1,a2⟩,⟨b1,b2⟩,⟨c1,c2⟩,⟨d1,d2⟩,_,⟨f1,f2⟩,hm,_⟩:=h
  unfold ZbA Zbn
  rw [g12,g13,g0,g2,g4,g8,g14]
  obtain ⟨src,goal,num,ans,flags,win,most,data⟩:=s
  simp only at *
  by_cases m:most=0
  · subst m
    have e:hd ⟨src,goal,num,ans,flags,win,0,data⟩=80:=rfl
    rw [e]
    simp only [if_true] at e0
    simp [e0]
    omega
  · have e:hd ⟨src,goal,num,ans,flags,win,most,data⟩=96:=if_neg m
    obtain ⟨_,_,p3⟩:=ZkM ⟨src,goal,num,ans,flags,win,most,data⟩ m
    simp only at p3
    rw [e,p3]
    rw [if_neg m] at e0
    simp [e0]
    have:=hm.resolve_left m
    omega
@[simp] theorem Zy5 {s:Seg} {θ:Sto}:Zet θ s.d (some 2) (some 4)=some (.tup [.int s.num,.int s.ans]):=nr rfl
theorem two_small {k:Int} (h0:0≤k) (h:k≤65535):[k/256,k % 256]=two k:=by
  unfold two
  rw [show k/256 % 256=k/256 by omega]
theorem Zhy {k:Int} (h0:0≤k) (h:k≤4294967295):[k/65536/256,k/65536 % 256,k % 65536/256,k % 256]=Zlg k:=by
  unfold Zlg two
  rw [show k/65536/256 % 256=k/65536/256 by omega,show k % 65536/256=k/256 % 256 by omega]
  rfl
def Zct (s:Seg):List Int:=[s.src/256,s.src % 256,s.goal/256,s.goal % 256,s.num/65536/256,s.num/65536 % 256,s.num % 65536/256,s.num % 256,s.ans/65536/256,s.ans/65536 % 256,s.ans % 65536/256,s.ans % 256,
  hd s,s.flags,s.win/256,s.win % 256,0,0,0,0]++((if s.most=0 then [] else [2,4,s.most/256,s.most % 256])++s.data)
theorem Zpq {s:Seg} (h:s.Ok):Zct s=ZaX s++[0,0]++behind s:=by
  obtain ⟨⟨a1,a2⟩,⟨b1,b2⟩,⟨c1,c2⟩,⟨d1,d2⟩,⟨f1,f2⟩,⟨w1,w2⟩,hm,hd1,hd2⟩:=id h
  have e1:=two_small a1 a2
  have e2:=two_small b1 b2
  have e3:=Zhy c1 c2
  have e4:=Zhy d1 d2
  have e5:=two_small w1 w2
  have e6:(if s.most=0 then [] else [2,4,s.most/256,s.most % 256])=ZcM s.most:=by
    unfold ZcM
    by_cases m:s.most=0
    · rw [if_pos m,if_pos m]
    · rw [if_neg m,if_neg m]
      have:=hm.resolve_left m
      rw [←two_small (k:=s.most) (by omega) (by omega)]
      rfl
  unfold Zct ZaX behind
  rw [e6,←e1,←e2,←e3,←e4,←e5]
  rfl
theorem Zrl {s:Seg} (h:s.Ok):(Zct s).take 16++two (65535-ZaT (zw (Zct s)))++(Zct s).drop 18=putL s:=by
  rw [Zpq h]
  have e1:(ZaX s++[0,0]++behind s).take 16=ZaX s:=by
    rw [List.append_assoc,List.take_append_of_le_length (by simp),List.take_of_length_le (by simp)]
  have e2:(ZaX s++[0,0]++behind s).drop 18=behind s:=by
    have:(ZaX s++[0,0]).length=18:=by simp
    rw [←this,List.drop_left]
  rw [e1,e2]
  rfl
theorem ZhY {s:Seg} (h:s.Ok) (θ:Sto) (x y:Sl):ZK (mOp ZL (mOp ZL (mSl (Zd 1) Za0 (Zbm (mC (.int 16)))) (mCB Zel (Zc (mOp Ze9 (mC (.int 65535)) (mCB Zcx (Zc (Zd 1) Zk))) Zk))) (mSl (Zd 1) (Zbm (mC (.int 18))) Za0)) [x,.val (il (Zct s)),y] θ
    = .ok (.rt (il (putL s)),[x,.val (il (Zct s)),y]) θ:=by
  have pe:=Zpq h
  have bp:=h.put.byt
  rw [←pe] at bp
  have lf:=Zh8 bp θ
  have hs:=ZmJ bp.sum.1
  have hl:(Zct s).length≤100:=by
    have:=Zea s
    have:=h.data.2
    rw [pe]
    simp
    omega
  have fin:=Zrl h
  have tw:[(65535-ZaT (zw (Zct s)))/256,(65535-ZaT (zw (Zct s))) % 256]=two (65535-ZaT (zw (Zct s))):=two_small (by omega) (by omega)
  have k1:Zbf (Zct s) none (some 16)=(Zct s).take 16:=Zgn _ (by decide)
  have k2:Zbf (Zct s) (some 18) none=(Zct s).drop 18:=ZdK _ (by decide)
  have fs:ZL (il ((Zct s).take 16)) (il (two (65535-ZaT (zw (Zct s))))) θ=.ok (il ((Zct s).take 16++two (65535-ZaT (zw (Zct s))))) θ:=Zi1 (by simp; omega)
  have fs2:ZL (il ((Zct s).take 16++two (65535-ZaT (zw (Zct s))))) (il ((Zct s).drop 18)) θ=.ok (il (putL s)) θ:=by
    rw [Zi1 (by simp; omega),fin]
  simp only [Zo0,Zuu,Zx1,Zr7,Zyd,Zo3,Zr9,Zo1,ZsH,x_c,R.bind_ok,List.getElem?_cons_succ,List.getElem?_cons_zero,Zk9,k1,k2,lf,Zmq,if_true,ZuE,tw,fs,fs2]
theorem Zha {s:Seg} (h:s.Ok) (θ:Sto):Zcq [s.d] θ=.ok (il (putL s)) θ:=by
  have tail:=ZhY h θ
  have dl:=h.data.2
  by_cases m:s.most=0
  · have g:ixM (il [80,96]) (.int 0) θ=.ok (.int 80) θ:=rfl
    have e0:hd s=80:=if_pos m
    have pl:[s.src/256,s.src % 256,s.goal/256,s.goal % 256,s.num/65536/256,s.num/65536 % 256,s.num % 65536/256,s.num % 256,s.ans/65536/256,s.ans/65536 % 256,s.ans % 65536/256,s.ans % 256,
      80,s.flags,s.win/256,s.win % 256,0,0,0,0]++s.data=Zct s:=by unfold Zct; rw [if_pos m,e0]; rfl
    simp only [List.cons_append,List.nil_append] at pl
    simp [Zcq,Zgr,ZeW,ZeV,Zd5,ZcF,m,g,pl,-Zo0,tail,show s.data.length+20≤100000 by omega,show 20+s.data.length≤100000 by omega]
  · have g:ixM (il [80,96]) (.int 1) θ=.ok (.int 96) θ:=rfl
    have e0:hd s=96:=if_neg m
    have mg:(0:Int)<s.most:=by have:=h.most.resolve_left m; omega
    have pl:[s.src/256,s.src % 256,s.goal/256,s.goal % 256,s.num/65536/256,s.num/65536 % 256,s.num % 65536/256,s.num % 256,s.ans/65536/256,s.ans/65536 % 256,s.ans % 65536/256,s.ans % 256,
      96,s.flags,s.win/256,s.win % 256,0,0,0,0,2,4,s.most/256,s.most % 256]++s.data=Zct s:=by unfold Zct; rw [if_neg m,e0]; rfl
    simp only [List.cons_append,List.nil_append] at pl
    simp [Zcq,Zgr,ZeW,ZeV,Zd5,ZcF,mg,g,pl,-Zo0,tail,show s.data.length+24≤100000 by omega,show 24+s.data.length≤100000 by omega]
theorem Znm {P:Nat→Prop} {n:Nat} (h:n<5) (h0:P 0) (h1:P 1) (h2:P 2) (h3:P 3) (h4:P 4):P n:=by
  match n,h with
  | 0,_=>exact h0
  | 1,_=>exact h1
  | 2,_=>exact h2
  | 3,_=>exact h3
  | 4,_=>exact h4
end
end My
namespace My
open PySem L2 L2.MM
noncomputable section
def Zfg:SM:=(ZF ["Pile"] "row" (Zd 0) (Zcl Zk))
def ZbU:GM:=ZP 1 1 Zfg
def ZhH:SM:=(ZK (mOp Ze9 (mC (.int 64)) (mCB Zde (Zc (ZH ["Pile"] "row" (Zd 0)) Zk))))
def ZdZ:GM:=ZP 1 1 ZhH
def Zls:SM:=(ZK (mOp ZaZ (mOp ZL (Zd 0) (Zd 1)) (mC (.int 4294967296))))
def zq:GM:=ZP 2 2 Zls
def ZhJ:SM:=(ZK (mOp Ze9 (mOp ZaZ (mOp ZL (mOp Ze9 (Zd 0) (Zd 1)) (mC (.int 2147483648))) (mC (.int 4294967296))) (mC (.int 2147483648))))
def zB:GM:=ZP 2 2 ZhJ
def Zeg:SM:=(Zq (ZF ["End"] "ours" (Zd 0) (Zd 1))
  (Zq (ZF ["End"] "theirs" (Zd 0) (Zd 2))
  (Zq (ZF ["End"] "state" (Zd 0) (ZfK (zT (Zd 4)) (mC (.str "syn sent")) (mC (.str "listen"))))
  (Zq (ZF ["End"] "error" (Zd 0) (mC (.str "")))
  (Zq (ZF ["End"] "first" (Zd 0) (Zd 3))
  (Zq (ZF ["End"] "una" (Zd 0) (Zd 3))
  (Zq (ZF ["End"] "nxt" (Zd 0) (Zd 3))
  (Zq (ZF ["End"] "rcv" (Zd 0) (mC (.int 0)))
  (Zq (ZF ["End"] "wnd" (Zd 0) (mC (.int 0)))
  (Zq (ZF ["End"] "told" (Zd 0) (mC (.int 0)))
  (Zq (ZF ["End"] "told_by" (Zd 0) (mC (.int 0)))
  (Zq (ZF ["End"] "most" (Zd 0) (mC (.int 12)))
  (Zq (ZF ["End"] "written" (Zd 0) (mCB (mkG "Pile" ZbU) Zk))
  (Zq (ZF ["End"] "come" (Zd 0) (mCB (mkG "Pile" ZbU) Zk))
  (Zq (ZF ["End"] "early" (Zd 0) ZlT)
  (Zq (ZF ["End"] "early_fin" (Zd 0) (mC .non))
  (Zq (ZF ["End"] "has_closed" (Zd 0) (mC (.bl false)))
  (Zq (ZF ["End"] "behind" (Zd 0) (mCB zq (Zc (Zd 3) (Zc (mC (.int 1)) Zk))))
  (Zq (ZF ["End"] "owed_reset" (Zd 0) (mC .non))
  (Zq (ZF ["End"] "owes_syn" (Zd 0) (mC (.bl false)))
  (Zq (ZF ["End"] "owes_answer" (Zd 0) (mC (.bl false)))
  (Zq (ZF ["End"] "probes" (Zd 0) (mC (.bl false)))
  (Zq (ZF ["End"] "since" (Zd 0) (mC (.int 0)))
  (Zq (ZF ["End"] "wait" (Zd 0) (mC (.int 1000)))
  (ZF ["End"] "tries" (Zd 0) (mC (.int 0)))))))))))))))))))))))))))
def Zck:GM:=ZP 5 5 Zeg
def Zeo:SM:=(Zq (ZF ["End"] "since" (Zd 0) (Zd 1))
  (Zq (ZF ["End"] "wait" (Zd 0) (mC (.int 1000)))
  (ZF ["End"] "tries" (Zd 0) (mC (.int 0)))))
def za:GM:=ZP 2 2 Zeo
def ZeN:SM:=(ZK (mCB ZdZ (Zc (ZH ["End"] "come" (Zd 0)) Zk)))
def ZaY:GM:=ZP 1 1 ZeN
def ZdL:SM:=(ZK (mCB ZiV (Zc (ZH ["End"] "most" (Zd 0)) (Zc (mC (.int 16)) Zk))))
def Zaf:GM:=ZP 1 1 ZdL
def ZeL:SM:=(mIf (ZG (mOp eqM (ZH ["End"] "state" (Zd 0)) (mC (.str "syn sent")))) (ZK (Zbe (Zc (ZH ["End"] "ours" (Zd 0)) (Zc (ZH ["End"] "theirs" (Zd 0)) (Zc (ZH ["End"] "first" (Zd 0)) (Zc (mC (.int 0)) (Zc (mC (.int 2)) (Zc (mC (.int 64)) (Zc (mC (.int 16)) (Zc (Zbe Zk) Zk)))))))))) ZN)
def ZfV:SM:=(Zq (ZF ["End"] "owes_syn" (Zd 0) (mC (.bl false)))
  (Zq ZeL
  (ZK (Zbe (Zc (ZH ["End"] "ours" (Zd 0)) (Zc (ZH ["End"] "theirs" (Zd 0)) (Zc (ZH ["End"] "first" (Zd 0)) (Zc (ZH ["End"] "rcv" (Zd 0)) (Zc (mOp ZL (mC (.int 2)) (mC (.int 16))) (Zc (mC (.int 64)) (Zc (mC (.int 16)) (Zc (Zbe Zk) Zk))))))))))))
def ZbL:GM:=ZP 1 1 ZfV
def ZeK:SM:=(ZK (Zbe (Zc (ZH ["End"] "ours" (Zd 0)) (Zc (ZH ["End"] "theirs" (Zd 0)) (Zc (Zd 1) (Zc (ZH ["End"] "rcv" (Zd 0)) (Zc (mOp ZL (Zd 2) (mC (.int 16))) (Zc (mCB ZaY (Zc (Zd 0) Zk)) (Zc (mC (.int 0)) (Zc (mCB Zer (Zc (Zd 3) Zk)) Zk))))))))))
def zA:GM:=ZP 4 4 ZeK
def ZcA:SM:=(mIf (ZG (mOp eqM (ZH ["End"] "tries" (Zd 0)) (mC (.int 6)))) (Zq (ZF ["End"] "state" (Zd 0) (mC (.str "closed")))
    (Zq (ZF ["End"] "error" (Zd 0) (mC (.str "time")))
    (ZK (mC .non)))) ZN)
def Zdr:SM:=(mIf (ZG (mOp inM (ZH ["End"] "state" (Zd 0)) (Zbe (Zc (mC (.str "syn sent")) (Zc (mC (.str "syn come")) Zk))))) (ZK (mCB ZbL (Zc (Zd 0) Zk))) ZN)
def ZdQ:SM:=(Zq ZcA
  (Zq (ZF ["End"] "tries" (Zd 0) (mOp ZL (ZH ["End"] "tries" (Zd 0)) (mC (.int 1))))
  (Zq (ZF ["End"] "wait" (Zd 0) (mCB ZiV (Zc (mOp Zcc (mC (.int 2)) (ZH ["End"] "wait" (Zd 0))) (Zc (mC (.int 16000)) Zk))))
  (Zq (ZF ["End"] "since" (Zd 0) (Zd 1))
  (Zq Zdr
  (Zq (ZM 2 (mSl (ZH ["Pile"] "row" (ZH ["End"] "written" (Zd 0))) Za0 (Zbm (mCB ZiV (Zc (mCB zB (Zc (ZH ["End"] "nxt" (Zd 0)) (Zc (ZH ["End"] "una" (Zd 0)) Zk))) (Zc (mCB Zaf (Zc (Zd 0) Zk)) Zk))))))
  (ZK (mCB zA (Zc (Zd 0) (Zc (ZH ["End"] "una" (Zd 0)) (Zc (ZfK (ZG (mOp gtM (mCB Zde (Zc (Zd 2) Zk)) (mC (.int 0)))) (mC (.int 0)) (mC (.int 1))) (Zc (Zd 2) Zk))))))))))))
def Zdg:GM:=ZP 2 3 ZdQ
def Za8:SM:=(mIf (Zd3 (zT (ZH ["End"] "owes_answer" (Zd 0)))) (ZK (mC .non)) ZN)
def ZbC:SM:=(Zq Za8
  (Zq (ZF ["End"] "owes_answer" (Zd 0) (mC (.bl false)))
  (ZK (mCB zA (Zc (Zd 0) (Zc (ZH ["End"] "nxt" (Zd 0)) (Zc (mC (.int 0)) (Zc (Zcl Zk) Zk))))))))
def zU:GM:=ZP 1 1 ZbC
def ZhD:SM:=(ZK (mCB zB (Zc (ZH ["End"] "behind" (Zd 0)) (Zc (ZH ["End"] "nxt" (Zd 0)) Zk))))
def ZbE:GM:=ZP 1 1 ZhD
def ZdO:SM:=(ZK (Zcw (mOp inM (ZH ["End"] "state" (Zd 0)) (Zbe (Zc (mC (.str "open")) (Zc (mC (.str "wait one")) (Zc (mC (.str "close wait")) (Zc (mC (.str "closing")) (Zc (mC (.str "last ack")) Zk))))))) (mOp gtM (mCB ZbE (Zc (Zd 0) Zk)) (mC (.int 0)))))
def Zah:GM:=ZP 1 1 ZdO
def Zep:SM:=(ZK (Zcw (mOp inM (ZH ["End"] "state" (Zd 0)) (Zbe (Zc (mC (.str "wait one")) (Zc (mC (.str "closing")) (Zc (mC (.str "last ack")) Zk))))) (mOp eqM (mCB ZbE (Zc (Zd 0) Zk)) (mC (.int 0)))))
def ZbF:GM:=ZP 1 1 Zep
def ZfY:SM:=(ZK (Zk0 (mCB Zah (Zc (Zd 0) Zk)) (mCB ZbF (Zc (Zd 0) Zk))))
def ZbN:GM:=ZP 1 1 ZfY
def Zec:SM:=(Zq (ZM 2 (ZH ["End"] "nxt" (Zd 0)))
  (Zq (ZM 3 (mCB ZiV (Zc (mCB Zaf (Zc (Zd 0) Zk)) (Zc (mCB ZbE (Zc (Zd 0) Zk)) (Zc (Zd 1) Zk)))))
  (Zq (ZM 4 (mCB zB (Zc (Zd 2) (Zc (ZH ["End"] "una" (Zd 0)) Zk))))
  (Zq (ZF ["End"] "nxt" (Zd 0) (mCB zq (Zc (Zd 2) (Zc (Zd 3) Zk))))
  (ZK (mCB zA (Zc (Zd 0) (Zc (Zd 2) (Zc (ZfK (ZG (mOp eqM (mCB ZbE (Zc (Zd 0) Zk)) (mC (.int 0)))) (mC (.int 8)) (mC (.int 0))) (Zc (mSl (ZH ["Pile"] "row" (ZH ["End"] "written" (Zd 0))) (Zbm (Zd 4)) (Zbm (mOp ZL (Zd 4) (Zd 3)))) Zk))))))))))
def Zch:GM:=ZP 2 5 Zec
def ZgF:SM:=(Zq (ZM 1 (ZH ["End"] "nxt" (Zd 0)))
  (Zq (ZF ["End"] "nxt" (Zd 0) (mCB zq (Zc (Zd 1) (Zc (mC (.int 1)) Zk))))
  (ZK (mCB zA (Zc (Zd 0) (Zc (Zd 1) (Zc (mC (.int 1)) (Zc (Zcl Zk) Zk))))))))
def ZdH:GM:=ZP 1 2 ZgF
def Zdw:SM:=(Zq (ZF ["End"] "probes" (Zd 0) (mC (.bl false)))
  (ZK (ZfK (zT (mCB Zah (Zc (Zd 0) Zk))) (mCB Zch (Zc (Zd 0) (Zc (Zd 1) Zk))) (mCB ZdH (Zc (Zd 0) Zk)))))
def ZaU:GM:=ZP 2 2 Zdw
def Zdv:SM:=(mIf (ZG (mOp eqM (ZH ["End"] "nxt" (Zd 0)) (ZH ["End"] "una" (Zd 0)))) (zC (mCB za (Zc (Zd 0) (Zc (Zd 1) Zk)))) ZN)
def ZeO:SM:=(Zq Zdv
  (Zq (ZF ["End"] "nxt" (Zd 0) (mCB zq (Zc (ZH ["End"] "first" (Zd 0)) (Zc (mC (.int 1)) Zk))))
  (ZK (mCB ZbL (Zc (Zd 0) Zk)))))
def ZcS:GM:=ZP 2 2 ZeO
def zu:SM:=(mIf (ZG (mOp inM (ZH ["End"] "state" (Zd 0)) (Zbe (Zc (mC (.str "syn sent")) (Zc (mC (.str "syn come")) Zk))))) (ZK (ZfK (mOr (ZG (mOp eqM (ZH ["End"] "nxt" (Zd 0)) (ZH ["End"] "first" (Zd 0)))) (zT (ZH ["End"] "owes_syn" (Zd 0)))) (mCB ZcS (Zc (Zd 0) (Zc (Zd 1) Zk))) (mC .non))) ZN)
def Zak:SM:=(mIf (mOr (ZG (mOp leM (Zd 2) (mC (.int 0)))) (Zd3 (zT (mCB ZbN (Zc (Zd 0) Zk))))) (ZK (mC .non)) ZN)
def ZbR:SM:=(mIf (ZG (mOp eqM (ZH ["End"] "nxt" (Zd 0)) (ZH ["End"] "una" (Zd 0)))) (zC (mCB za (Zc (Zd 0) (Zc (Zd 1) Zk)))) ZN)
def zK:SM:=(Zq zu
  (Zq (ZM 2 (mOp Ze9 (ZH ["End"] "wnd" (Zd 0)) (mCB zB (Zc (ZH ["End"] "nxt" (Zd 0)) (Zc (ZH ["End"] "una" (Zd 0)) Zk)))))
  (Zq Zak
  (Zq ZbR
  (Zq (ZF ["End"] "owes_answer" (Zd 0) (mC (.bl false)))
  (ZK (mCB ZaU (Zc (Zd 0) (Zc (Zd 2) Zk)))))))))
def Z8:GM:=ZP 2 3 zK
def ZhM:SM:=(ZK (mOp geM (mOp Ze9 (Zd 1) (ZH ["End"] "since" (Zd 0))) (ZH ["End"] "wait" (Zd 0))))
def Zc2:GM:=ZP 2 2 ZhM
def zh:SM:=(mIf (mOr (ZG (mOp neM (ZH ["End"] "nxt" (Zd 0)) (ZH ["End"] "una" (Zd 0)))) (mOr (ZG (mOp neM (ZH ["End"] "wnd" (Zd 0)) (mC (.int 0)))) (Zd3 (zT (mCB ZbN (Zc (Zd 0) Zk)))))) (Zq (ZF ["End"] "probes" (Zd 0) (mC (.bl false)))
    (ZK (mC .non))) ZN)
def Zay:SM:=(mIf (Zd3 (zT (ZH ["End"] "probes" (Zd 0)))) (Zq (ZF ["End"] "probes" (Zd 0) (mC (.bl true)))
    (zC (mCB za (Zc (Zd 0) (Zc (Zd 1) Zk))))) ZN)
def Zax:SM:=(mIf (Zd3 (zT (mCB Zc2 (Zc (Zd 0) (Zc (Zd 1) Zk))))) (ZK (mC .non)) ZN)
def zt:SM:=(Zq zh
  (Zq Zay
  (Zq Zax
  (Zq (ZF ["End"] "since" (Zd 0) (Zd 1))
  (ZK (mCB ZaU (Zc (Zd 0) (Zc (mC (.int 1)) Zk))))))))
def zb:GM:=ZP 2 2 zt
def ZeM:SM:=(Zq (ZM 1 (ZH ["End"] "owed_reset" (Zd 0)))
  (Zq (ZF ["End"] "owed_reset" (Zd 0) (mC .non))
  (ZK (Zd 1))))
def ZcO:GM:=ZP 1 2 ZeM
def Zdo:SM:=(mIf (ZG (mOp ZiZ (ZH ["End"] "owed_reset" (Zd 0)) (mC .non))) (ZK (mCB ZcO (Zc (Zd 0) Zk))) ZN)
def ZeS:SM:=(mIf (ZeE (ZG (mOp eqM (ZH ["End"] "state" (Zd 0)) (mC (.str "time wait")))) (ZG (mOp geM (mOp Ze9 (Zd 1) (ZH ["End"] "since" (Zd 0))) (mC (.int 120000))))) (ZF ["End"] "state" (Zd 0) (mC (.str "closed"))) ZN)
def ZbY:SM:=(mIf (ZG (mOp inM (ZH ["End"] "state" (Zd 0)) (Zbe (Zc (mC (.str "closed")) (Zc (mC (.str "listen")) Zk))))) (ZK (mC .non)) ZN)
def Zcz:SM:=(mIf (ZeE (ZG (mOp neM (ZH ["End"] "nxt" (Zd 0)) (ZH ["End"] "una" (Zd 0)))) (zT (mCB Zc2 (Zc (Zd 0) (Zc (Zd 1) Zk))))) (ZK (mCB Zdg (Zc (Zd 0) (Zc (Zd 1) Zk)))) ZN)
def ZbX:SM:=(mIf (ZG (mOp isM (Zd 2) (mC .non))) (ZM 2 (mCB zb (Zc (Zd 0) (Zc (Zd 1) Zk)))) ZN)
def ZbW:SM:=(mIf (ZG (mOp isM (Zd 2) (mC .non))) (ZM 2 (mCB zU (Zc (Zd 0) Zk))) ZN)
def Ze8:SM:=(Zq Zdo
  (Zq ZeS
  (Zq ZbY
  (Zq Zcz
  (Zq (ZM 2 (mCB Z8 (Zc (Zd 0) (Zc (Zd 1) Zk))))
  (Zq ZbX
  (Zq ZbW
  (ZK (Zd 2)))))))))
def Zd0:GM:=ZP 2 3 Ze8
def ZhG:SM:=(Zq (ZM 2 (mCB Zd0 (Zc (Zd 0) (Zc (Zd 1) Zk))))
  (ZK (ZfK (ZG (mOp isM (Zd 2) (mC .non))) (Zcl Zk) (mCB ZkO (Zc (Zd 2) Zk)))))
def ZcC:GM:=ZP 2 3 ZhG
def ZhI:SM:=(ZK (mCB (mkG "End" Zck) (Zc (Zd 0) (Zc (Zd 1) (Zc (Zd 2) (Zc (Zd 3) Zk))))))
def Zey:GM:=ZP 4 4 ZhI
end
end My
namespace My
open PySem L2 L2.MM
noncomputable section
inductive State where
  | closed | listen | synSent | synCome | opn | waitOne | waitTwo | closeWait | closing | lastAck | timeWait
  deriving DecidableEq
def State.s:State→Str
  | .closed=>"closed" | .listen=>"listen" | .synSent=>"syn sent" | .synCome=>"syn come" | .opn=>"open" | .waitOne=>"wait one" | .waitTwo=>"wait two" | .closeWait=>"close wait" | .closing=>"closing" | .lastAck=>"last ack" | .timeWait=>"time wait"
inductive Err where
  | none | refused | reset | time
  deriving DecidableEq
def Err.s:Err→Str
  | .none=>"" | .refused=>"refused" | .reset=>"reset" | .time=>"time"
structure Zt where
  ours:Int
  theirs:Int
  state:State
  error:Err
  first:Int
  una:Int
  nxt:Int
  rcv:Int
  wnd:Int
  told:Int
  told_by:Int
  most:Int
  written:List Int
  come:List Int
  early:List (Int×Int)
  early_fin:Option Int
  has_closed:Bool
  behind:Int
  owed_reset:Option Seg
  owes_syn:Bool
  owes_answer:Bool
  probes:Bool
  since:Int
  wait:Int
  tries:Int
def ZgS:Option Int→D
  | none=>.non
  | some i=>.int i
def Zbz:Option Seg→D
  | none=>.non
  | some s=>s.d
def fields (l:Nat) (e:Zt):List (Str×D):=[("ours",.int e.ours),("theirs",.int e.theirs),("state",.str e.state.s),("error",.str e.error.s),("first",.int e.first),("una",.int e.una),("nxt",.int e.nxt),("rcv",.int e.rcv),("wnd",.int e.wnd),("told",.int e.told),("told_by",.int e.told_by),("most",.int e.most),("written",.ref (l+1)),("come",.ref (l+2)),("early",.ref (l+3)),("early_fin",ZgS e.early_fin),("has_closed",.bl e.has_closed),("behind",.int e.behind),("owed_reset",Zbz e.owed_reset),("owes_syn",.bl e.owes_syn),("owes_answer",.bl e.owes_answer),("probes",.bl e.probes),("since",.int e.since),("wait",.int e.wait),("tries",.int e.tries)]
def c0 (l:Nat) (e:Zt):Cell:=.ins "End" (fields l e)
def c1 (e:Zt):Cell:=.ins "Pile" [("row",il e.written)]
def c2 (e:Zt):Cell:=.ins "Pile" [("row",il e.come)]
def c3 (e:Zt):Cell:=.dK (e.early.map fun p=>(Sum.inl p.1,D.int p.2))
def upE (θ:Sto) (l:Nat) (e:Zt):Sto:=(((θ.set l (c0 l e)).set (l+1) (c1 e)).set (l+2) (c2 e)).set (l+3) (c3 e)
theorem at0 {θ:Sto} {l:Nat} (h:l+3 < θ.length) (e:Zt):(upE θ l e)[l]?=some (c0 l e):=by
  unfold upE
  rw [List.getElem?_set_ne (by omega),List.getElem?_set_ne (by omega),List.getElem?_set_ne (by omega),List.getElem?_set_self (by omega)]
theorem at1 {θ:Sto} {l:Nat} (h:l+3 < θ.length) (e:Zt):(upE θ l e)[l+1]?=some (c1 e):=by
  unfold upE
  rw [List.getElem?_set_ne (by omega),List.getElem?_set_ne (by omega),List.getElem?_set_self (by simp; omega)]
theorem ZvK {θ:Sto} {l:Nat} (h:l+3 < θ.length) (e:Zt):(upE θ l e)[l+2]?=some (c2 e):=by
  unfold upE
  rw [List.getElem?_set_ne (by omega),List.getElem?_set_self (by simp; omega)]
theorem ZdW {θ:Sto} {l:Nat} (h:l+3 < θ.length) (e e':Zt) (h1:e'.written=e.written) (h2:e'.come=e.come) (h3:e'.early=e.early):(upE θ l e).set l (c0 l e')=upE θ l e':=by
  unfold upE
  rw [show c1 e'=c1 e by unfold c1; rw [h1],show c2 e'=c2 e by unfold c2; rw [h2],show c3 e'=c3 e by unfold c3; rw [h3]]
  apply List.ext_getElem?
  intro i
  simp only [List.getElem?_set,List.length_set]
  by_cases h3:l=i
  · subst h3; simp
  · simp [h3]
theorem ZaG {θ:Sto} {l:Nat} (h:l+3 < θ.length) (e:Zt):ZeF (upE θ l e) (.ref l)=some (l,("End":Str),fields l e):=by
  show (match (upE θ l e)[l]? with | some (Cell.ins C fs)=>some (l,C,fs) | _=>none)=_
  rw [at0 h]
  rfl
theorem ce:(["End"]:List Str).contains "End"=true:=by decide +kernel
theorem cp:(["Pile"]:List Str).contains "Pile"=true:=by decide +kernel
@[simp] theorem ZyY {θ:Sto} {l:Nat} (h:l+3 < θ.length) (e:Zt):zJ ["End"] "ours" (.ref l) (upE θ l e)=.ok (.int e.ours) (upE θ l e):=by
  unfold zJ
  rw [ZaG h]
  simp only [ce,if_true]
  rw [show (fields l e).lookup ("ours":Str)=some (.int e.ours) by with_unfolding_all rfl]
@[simp] theorem Zvx {θ:Sto} {l:Nat} (h:l+3 < θ.length) (e:Zt):zJ ["End"] "theirs" (.ref l) (upE θ l e)=.ok (.int e.theirs) (upE θ l e):=by
  unfold zJ
  rw [ZaG h]
  simp only [ce,if_true]
  rw [show (fields l e).lookup ("theirs":Str)=some (.int e.theirs) by with_unfolding_all rfl]
@[simp] theorem Zwa {θ:Sto} {l:Nat} (h:l+3 < θ.length) (e:Zt):zJ ["End"] "state" (.ref l) (upE θ l e)=.ok (.str e.state.s) (upE θ l e):=by
  unfold zJ
  rw [ZaG h]
  simp only [ce,if_true]
  rw [show (fields l e).lookup ("state":Str)=some (.str e.state.s) by with_unfolding_all rfl]
@[simp] theorem Zwc {θ:Sto} {l:Nat} (h:l+3 < θ.length) (e:Zt):zJ ["End"] "first" (.ref l) (upE θ l e)=.ok (.int e.first) (upE θ l e):=by
  unfold zJ
  rw [ZaG h]
  simp only [ce,if_true]
  rw [show (fields l e).lookup ("first":Str)=some (.int e.first) by with_unfolding_all rfl]
@[simp] theorem ZzG {θ:Sto} {l:Nat} (h:l+3 < θ.length) (e:Zt):zJ ["End"] "una" (.ref l) (upE θ l e)=.ok (.int e.una) (upE θ l e):=by
  unfold zJ
  rw [ZaG h]
  simp only [ce,if_true]
  rw [show (fields l e).lookup ("una":Str)=some (.int e.una) by with_unfolding_all rfl]
@[simp] theorem ZzI {θ:Sto} {l:Nat} (h:l+3 < θ.length) (e:Zt):zJ ["End"] "nxt" (.ref l) (upE θ l e)=.ok (.int e.nxt) (upE θ l e):=by
  unfold zJ
  rw [ZaG h]
  simp only [ce,if_true]
  rw [show (fields l e).lookup ("nxt":Str)=some (.int e.nxt) by with_unfolding_all rfl]
@[simp] theorem ZzH {θ:Sto} {l:Nat} (h:l+3 < θ.length) (e:Zt):zJ ["End"] "rcv" (.ref l) (upE θ l e)=.ok (.int e.rcv) (upE θ l e):=by
  unfold zJ
  rw [ZaG h]
  simp only [ce,if_true]
  rw [show (fields l e).lookup ("rcv":Str)=some (.int e.rcv) by with_unfolding_all rfl]
@[simp] theorem ZzF {θ:Sto} {l:Nat} (h:l+3 < θ.length) (e:Zt):zJ ["End"] "wnd" (.ref l) (upE θ l e)=.ok (.int e.wnd) (upE θ l e):=by
  unfold zJ
  rw [ZaG h]
  simp only [ce,if_true]
  rw [show (fields l e).lookup ("wnd":Str)=some (.int e.wnd) by with_unfolding_all rfl]
@[simp] theorem ZyV {θ:Sto} {l:Nat} (h:l+3 < θ.length) (e:Zt):zJ ["End"] "told" (.ref l) (upE θ l e)=.ok (.int e.told) (upE θ l e):=by
  unfold zJ
  rw [ZaG h]
  simp only [ce,if_true]
  rw [show (fields l e).lookup ("told":Str)=some (.int e.told) by with_unfolding_all rfl]
@[simp] theorem Zuo {θ:Sto} {l:Nat} (h:l+3 < θ.length) (e:Zt):zJ ["End"] "told_by" (.ref l) (upE θ l e)=.ok (.int e.told_by) (upE θ l e):=by
  unfold zJ
  rw [ZaG h]
  simp only [ce,if_true]
  rw [show (fields l e).lookup ("told_by":Str)=some (.int e.told_by) by with_unfolding_all rfl]
@[simp] theorem ZyZ {θ:Sto} {l:Nat} (h:l+3 < θ.length) (e:Zt):zJ ["End"] "most" (.ref l) (upE θ l e)=.ok (.int e.most) (upE θ l e):=by
  unfold zJ
  rw [ZaG h]
  simp only [ce,if_true]
  rw [show (fields l e).lookup ("most":Str)=some (.int e.most) by with_unfolding_all rfl]
@[simp] theorem Zun {θ:Sto} {l:Nat} (h:l+3 < θ.length) (e:Zt):zJ ["End"] "written" (.ref l) (upE θ l e)=.ok (.ref (l+1)) (upE θ l e):=by
  unfold zJ
  rw [ZaG h]
  simp only [ce,if_true]
  rw [show (fields l e).lookup ("written":Str)=some (.ref (l+1)) by with_unfolding_all rfl]
@[simp] theorem Zy0 {θ:Sto} {l:Nat} (h:l+3 < θ.length) (e:Zt):zJ ["End"] "come" (.ref l) (upE θ l e)=.ok (.ref (l+2)) (upE θ l e):=by
  unfold zJ
  rw [ZaG h]
  simp only [ce,if_true]
  rw [show (fields l e).lookup ("come":Str)=some (.ref (l+2)) by with_unfolding_all rfl]
@[simp] theorem Zwd {θ:Sto} {l:Nat} (h:l+3 < θ.length) (e:Zt):zJ ["End"] "early" (.ref l) (upE θ l e)=.ok (.ref (l+3)) (upE θ l e):=by
  unfold zJ
  rw [ZaG h]
  simp only [ce,if_true]
  rw [show (fields l e).lookup ("early":Str)=some (.ref (l+3)) by with_unfolding_all rfl]
@[simp] theorem Zsz {θ:Sto} {l:Nat} (h:l+3 < θ.length) (e:Zt):zJ ["End"] "early_fin" (.ref l) (upE θ l e)=.ok (ZgS e.early_fin) (upE θ l e):=by
  unfold zJ
  rw [ZaG h]
  simp only [ce,if_true]
  rw [show (fields l e).lookup ("early_fin":Str)=some (ZgS e.early_fin) by with_unfolding_all rfl]
@[simp] theorem ZrR {θ:Sto} {l:Nat} (h:l+3 < θ.length) (e:Zt):zJ ["End"] "has_closed" (.ref l) (upE θ l e)=.ok (.bl e.has_closed) (upE θ l e):=by
  unfold zJ
  rw [ZaG h]
  simp only [ce,if_true]
  rw [show (fields l e).lookup ("has_closed":Str)=some (.bl e.has_closed) by with_unfolding_all rfl]
@[simp] theorem Zvz {θ:Sto} {l:Nat} (h:l+3 < θ.length) (e:Zt):zJ ["End"] "behind" (.ref l) (upE θ l e)=.ok (.int e.behind) (upE θ l e):=by
  unfold zJ
  rw [ZaG h]
  simp only [ce,if_true]
  rw [show (fields l e).lookup ("behind":Str)=some (.int e.behind) by with_unfolding_all rfl]
@[simp] theorem ZrQ {θ:Sto} {l:Nat} (h:l+3 < θ.length) (e:Zt):zJ ["End"] "owed_reset" (.ref l) (upE θ l e)=.ok (Zbz e.owed_reset) (upE θ l e):=by
  unfold zJ
  rw [ZaG h]
  simp only [ce,if_true]
  rw [show (fields l e).lookup ("owed_reset":Str)=some (Zbz e.owed_reset) by with_unfolding_all rfl]
@[simp] theorem ZtT {θ:Sto} {l:Nat} (h:l+3 < θ.length) (e:Zt):zJ ["End"] "owes_syn" (.ref l) (upE θ l e)=.ok (.bl e.owes_syn) (upE θ l e):=by
  unfold zJ
  rw [ZaG h]
  simp only [ce,if_true]
  rw [show (fields l e).lookup ("owes_syn":Str)=some (.bl e.owes_syn) by with_unfolding_all rfl]
@[simp] theorem ZqT {θ:Sto} {l:Nat} (h:l+3 < θ.length) (e:Zt):zJ ["End"] "owes_answer" (.ref l) (upE θ l e)=.ok (.bl e.owes_answer) (upE θ l e):=by
  unfold zJ
  rw [ZaG h]
  simp only [ce,if_true]
  rw [show (fields l e).lookup ("owes_answer":Str)=some (.bl e.owes_answer) by with_unfolding_all rfl]
@[simp] theorem Zvy {θ:Sto} {l:Nat} (h:l+3 < θ.length) (e:Zt):zJ ["End"] "probes" (.ref l) (upE θ l e)=.ok (.bl e.probes) (upE θ l e):=by
  unfold zJ
  rw [ZaG h]
  simp only [ce,if_true]
  rw [show (fields l e).lookup ("probes":Str)=some (.bl e.probes) by with_unfolding_all rfl]
@[simp] theorem Zwb {θ:Sto} {l:Nat} (h:l+3 < θ.length) (e:Zt):zJ ["End"] "since" (.ref l) (upE θ l e)=.ok (.int e.since) (upE θ l e):=by
  unfold zJ
  rw [ZaG h]
  simp only [ce,if_true]
  rw [show (fields l e).lookup ("since":Str)=some (.int e.since) by with_unfolding_all rfl]
@[simp] theorem ZyU {θ:Sto} {l:Nat} (h:l+3 < θ.length) (e:Zt):zJ ["End"] "wait" (.ref l) (upE θ l e)=.ok (.int e.wait) (upE θ l e):=by
  unfold zJ
  rw [ZaG h]
  simp only [ce,if_true]
  rw [show (fields l e).lookup ("wait":Str)=some (.int e.wait) by with_unfolding_all rfl]
@[simp] theorem Zv9 {θ:Sto} {l:Nat} (h:l+3 < θ.length) (e:Zt):zJ ["End"] "tries" (.ref l) (upE θ l e)=.ok (.int e.tries) (upE θ l e):=by
  unfold zJ
  rw [ZaG h]
  simp only [ce,if_true]
  rw [show (fields l e).lookup ("tries":Str)=some (.int e.tries) by with_unfolding_all rfl]
@[simp] theorem ZuS {θ:Sto} {l:Nat} (h:l+3 < θ.length) (e:Zt) (v:Int):zd ["End"] "theirs" (.int v) (.ref l) (upE θ l e)=some (upE θ l { e with theirs:=v }):=by
  unfold zd
  rw [ZaG h]
  simp only [ce]
  rw [if_pos ⟨trivial,show 25<1000 by decide⟩,show ZaH ("theirs":Str) (.int v) (fields l e)=fields l { e with theirs:=v } by with_unfolding_all rfl]
  exact congrArg some (ZdW h e { e with theirs:=v } rfl rfl rfl)
@[simp] theorem Zv1 {θ:Sto} {l:Nat} (h:l+3 < θ.length) (e:Zt) (v:State):zd ["End"] "state" (.str v.s) (.ref l) (upE θ l e)=some (upE θ l { e with state:=v }):=by
  unfold zd
  rw [ZaG h]
  simp only [ce]
  rw [if_pos ⟨trivial,show 25<1000 by decide⟩,show ZaH ("state":Str) (.str v.s) (fields l e)=fields l { e with state:=v } by with_unfolding_all rfl]
  exact congrArg some (ZdW h e { e with state:=v } rfl rfl rfl)
@[simp] theorem Zv3 {θ:Sto} {l:Nat} (h:l+3 < θ.length) (e:Zt) (v:Err):zd ["End"] "error" (.str v.s) (.ref l) (upE θ l e)=some (upE θ l { e with error:=v }):=by
  unfold zd
  rw [ZaG h]
  simp only [ce]
  rw [if_pos ⟨trivial,show 25<1000 by decide⟩,show ZaH ("error":Str) (.str v.s) (fields l e)=fields l { e with error:=v } by with_unfolding_all rfl]
  exact congrArg some (ZdW h e { e with error:=v } rfl rfl rfl)
@[simp] theorem Zzw {θ:Sto} {l:Nat} (h:l+3 < θ.length) (e:Zt) (v:Int):zd ["End"] "una" (.int v) (.ref l) (upE θ l e)=some (upE θ l { e with una:=v }):=by
  unfold zd
  rw [ZaG h]
  simp only [ce]
  rw [if_pos ⟨trivial,show 25<1000 by decide⟩,show ZaH ("una":Str) (.int v) (fields l e)=fields l { e with una:=v } by with_unfolding_all rfl]
  exact congrArg some (ZdW h e { e with una:=v } rfl rfl rfl)
@[simp] theorem Zzy {θ:Sto} {l:Nat} (h:l+3 < θ.length) (e:Zt) (v:Int):zd ["End"] "nxt" (.int v) (.ref l) (upE θ l e)=some (upE θ l { e with nxt:=v }):=by
  unfold zd
  rw [ZaG h]
  simp only [ce]
  rw [if_pos ⟨trivial,show 25<1000 by decide⟩,show ZaH ("nxt":Str) (.int v) (fields l e)=fields l { e with nxt:=v } by with_unfolding_all rfl]
  exact congrArg some (ZdW h e { e with nxt:=v } rfl rfl rfl)
@[simp] theorem Zzx {θ:Sto} {l:Nat} (h:l+3 < θ.length) (e:Zt) (v:Int):zd ["End"] "rcv" (.int v) (.ref l) (upE θ l e)=some (upE θ l { e with rcv:=v }):=by
  unfold zd
  rw [ZaG h]
  simp only [ce]
  rw [if_pos ⟨trivial,show 25<1000 by decide⟩,show ZaH ("rcv":Str) (.int v) (fields l e)=fields l { e with rcv:=v } by with_unfolding_all rfl]
  exact congrArg some (ZdW h e { e with rcv:=v } rfl rfl rfl)
@[simp] theorem Zzv {θ:Sto} {l:Nat} (h:l+3 < θ.length) (e:Zt) (v:Int):zd ["End"] "wnd" (.int v) (.ref l) (upE θ l e)=some (upE θ l { e with wnd:=v }):=by
  unfold zd
  rw [ZaG h]
  simp only [ce]
  rw [if_pos ⟨trivial,show 25<1000 by decide⟩,show ZaH ("wnd":Str) (.int v) (fields l e)=fields l { e with wnd:=v } by with_unfolding_all rfl]
  exact congrArg some (ZdW h e { e with wnd:=v } rfl rfl rfl)
@[simp] theorem Zyz {θ:Sto} {l:Nat} (h:l+3 < θ.length) (e:Zt) (v:Int):zd ["End"] "told" (.int v) (.ref l) (upE θ l e)=some (upE θ l { e with told:=v }):=by
  unfold zd
  rw [ZaG h]
  simp only [ce]
  rw [if_pos ⟨trivial,show 25<1000 by decide⟩,show ZaH ("told":Str) (.int v) (fields l e)=fields l { e with told:=v } by with_unfolding_all rfl]
  exact congrArg some (ZdW h e { e with told:=v } rfl rfl rfl)
@[simp] theorem Zuf {θ:Sto} {l:Nat} (h:l+3 < θ.length) (e:Zt) (v:Int):zd ["End"] "told_by" (.int v) (.ref l) (upE θ l e)=some (upE θ l { e with told_by:=v }):=by
  unfold zd
  rw [ZaG h]
  simp only [ce]
  rw [if_pos ⟨trivial,show 25<1000 by decide⟩,show ZaH ("told_by":Str) (.int v) (fields l e)=fields l { e with told_by:=v } by with_unfolding_all rfl]
  exact congrArg some (ZdW h e { e with told_by:=v } rfl rfl rfl)
@[simp] theorem ZyC {θ:Sto} {l:Nat} (h:l+3 < θ.length) (e:Zt) (v:Int):zd ["End"] "most" (.int v) (.ref l) (upE θ l e)=some (upE θ l { e with most:=v }):=by
  unfold zd
  rw [ZaG h]
  simp only [ce]
  rw [if_pos ⟨trivial,show 25<1000 by decide⟩,show ZaH ("most":Str) (.int v) (fields l e)=fields l { e with most:=v } by with_unfolding_all rfl]
  exact congrArg some (ZdW h e { e with most:=v } rfl rfl rfl)
@[simp] theorem ZkK {θ:Sto} {l:Nat} (h:l+3 < θ.length) (e:Zt) (v:Option Int):zd ["End"] "early_fin" (ZgS v) (.ref l) (upE θ l e)=some (upE θ l { e with early_fin:=v }):=by
  unfold zd
  rw [ZaG h]
  simp only [ce]
  rw [if_pos ⟨trivial,show 25<1000 by decide⟩,show ZaH ("early_fin":Str) (ZgS v) (fields l e)=fields l { e with early_fin:=v } by with_unfolding_all rfl]
  exact congrArg some (ZdW h e { e with early_fin:=v } rfl rfl rfl)
@[simp] theorem ZuU {θ:Sto} {l:Nat} (h:l+3 < θ.length) (e:Zt) (v:Int):zd ["End"] "behind" (.int v) (.ref l) (upE θ l e)=some (upE θ l { e with behind:=v }):=by
  unfold zd
  rw [ZaG h]
  simp only [ce]
  rw [if_pos ⟨trivial,show 25<1000 by decide⟩,show ZaH ("behind":Str) (.int v) (fields l e)=fields l { e with behind:=v } by with_unfolding_all rfl]
  exact congrArg some (ZdW h e { e with behind:=v } rfl rfl rfl)
@[simp] theorem Zfw {θ:Sto} {l:Nat} (h:l+3 < θ.length) (e:Zt) (v:Option Seg):zd ["End"] "owed_reset" (Zbz v) (.ref l) (upE θ l e)=some (upE θ l { e with owed_reset:=v }):=by
  unfold zd
  rw [ZaG h]
  simp only [ce]
  rw [if_pos ⟨trivial,show 25<1000 by decide⟩,show ZaH ("owed_reset":Str) (Zbz v) (fields l e)=fields l { e with owed_reset:=v } by with_unfolding_all rfl]
  exact congrArg some (ZdW h e { e with owed_reset:=v } rfl rfl rfl)
@[simp] theorem Ztc {θ:Sto} {l:Nat} (h:l+3 < θ.length) (e:Zt) (v:Bool):zd ["End"] "owes_syn" (.bl v) (.ref l) (upE θ l e)=some (upE θ l { e with owes_syn:=v }):=by
  unfold zd
  rw [ZaG h]
  simp only [ce]
  rw [if_pos ⟨trivial,show 25<1000 by decide⟩,show ZaH ("owes_syn":Str) (.bl v) (fields l e)=fields l { e with owes_syn:=v } by with_unfolding_all rfl]
  exact congrArg some (ZdW h e { e with owes_syn:=v } rfl rfl rfl)
@[simp] theorem ZqS {θ:Sto} {l:Nat} (h:l+3 < θ.length) (e:Zt) (v:Bool):zd ["End"] "owes_answer" (.bl v) (.ref l) (upE θ l e)=some (upE θ l { e with owes_answer:=v }):=by
  unfold zd
  rw [ZaG h]
  simp only [ce]
  rw [if_pos ⟨trivial,show 25<1000 by decide⟩,show ZaH ("owes_answer":Str) (.bl v) (fields l e)=fields l { e with owes_answer:=v } by with_unfolding_all rfl]
  exact congrArg some (ZdW h e { e with owes_answer:=v } rfl rfl rfl)
@[simp] theorem ZuT {θ:Sto} {l:Nat} (h:l+3 < θ.length) (e:Zt) (v:Bool):zd ["End"] "probes" (.bl v) (.ref l) (upE θ l e)=some (upE θ l { e with probes:=v }):=by
  unfold zd
  rw [ZaG h]
  simp only [ce]
  rw [if_pos ⟨trivial,show 25<1000 by decide⟩,show ZaH ("probes":Str) (.bl v) (fields l e)=fields l { e with probes:=v } by with_unfolding_all rfl]
  exact congrArg some (ZdW h e { e with probes:=v } rfl rfl rfl)
@[simp] theorem Zv2 {θ:Sto} {l:Nat} (h:l+3 < θ.length) (e:Zt) (v:Int):zd ["End"] "since" (.int v) (.ref l) (upE θ l e)=some (upE θ l { e with since:=v }):=by
  unfold zd
  rw [ZaG h]
  simp only [ce]
  rw [if_pos ⟨trivial,show 25<1000 by decide⟩,show ZaH ("since":Str) (.int v) (fields l e)=fields l { e with since:=v } by with_unfolding_all rfl]
  exact congrArg some (ZdW h e { e with since:=v } rfl rfl rfl)
@[simp] theorem Zyy {θ:Sto} {l:Nat} (h:l+3 < θ.length) (e:Zt) (v:Int):zd ["End"] "wait" (.int v) (.ref l) (upE θ l e)=some (upE θ l { e with wait:=v }):=by
  unfold zd
  rw [ZaG h]
  simp only [ce]
  rw [if_pos ⟨trivial,show 25<1000 by decide⟩,show ZaH ("wait":Str) (.int v) (fields l e)=fields l { e with wait:=v } by with_unfolding_all rfl]
  exact congrArg some (ZdW h e { e with wait:=v } rfl rfl rfl)
@[simp] theorem Zv0 {θ:Sto} {l:Nat} (h:l+3 < θ.length) (e:Zt) (v:Int):zd ["End"] "tries" (.int v) (.ref l) (upE θ l e)=some (upE θ l { e with tries:=v }):=by
  unfold zd
  rw [ZaG h]
  simp only [ce]
  rw [if_pos ⟨trivial,show 25<1000 by decide⟩,show ZaH ("tries":Str) (.int v) (fields l e)=fields l { e with tries:=v } by with_unfolding_all rfl]
  exact congrArg some (ZdW h e { e with tries:=v } rfl rfl rfl)
section
variable {θ:Sto} {l:Nat}
@[simp] theorem ZyW (h:l+3 < θ.length) (e:Zt):zJ ["Pile"] "row" (.ref (l+1)) (upE θ l e)=.ok (il e.written) (upE θ l e):=by
  have:ZeF (upE θ l e) (.ref (l+1))=some (l+1,("Pile":Str),[(("row":Str),il e.written)]):=by
    show (match (upE θ l e)[l+1]? with | some (Cell.ins C fs)=>some (l+1,C,fs) | _=>none)=_
    rw [at1 h]
    rfl
  unfold zJ
  rw [this]
  simp only [cp,if_true]
  rw [show ([("row",il e.written)]:List (Str×D)).lookup ("row":Str)=some (il e.written) by with_unfolding_all rfl]
@[simp] theorem ZyX (h:l+3 < θ.length) (e:Zt):zJ ["Pile"] "row" (.ref (l+2)) (upE θ l e)=.ok (il e.come) (upE θ l e):=by
  have:ZeF (upE θ l e) (.ref (l+2))=some (l+2,("Pile":Str),[(("row":Str),il e.come)]):=by
    show (match (upE θ l e)[l+2]? with | some (Cell.ins C fs)=>some (l+2,C,fs) | _=>none)=_
    rw [ZvK h]
    rfl
  unfold zJ
  rw [this]
  simp only [cp,if_true]
  rw [show ([("row",il e.come)]:List (Str×D)).lookup ("row":Str)=some (il e.come) by with_unfolding_all rfl]
@[simp] theorem ZyA (h:l+3 < θ.length) (e:Zt) (r:List Int):zd ["Pile"] "row" (il r) (.ref (l+1)) (upE θ l e)=some (upE θ l { e with written:=r }):=by
  have:ZeF (upE θ l e) (.ref (l+1))=some (l+1,("Pile":Str),[(("row":Str),il e.written)]):=by
    show (match (upE θ l e)[l+1]? with | some (Cell.ins C fs)=>some (l+1,C,fs) | _=>none)=_
    rw [at1 h]
    rfl
  unfold zd
  rw [this]
  simp only [cp]
  rw [if_pos ⟨trivial,show 1<1000 by decide⟩,show ZaH ("row":Str) (il r) [("row",il e.written)]=[(("row":Str),il r)] by with_unfolding_all rfl]
  congr 1
  unfold upE
  apply List.ext_getElem?
  intro i
  simp only [List.getElem?_set,List.length_set]
  by_cases q:l+1=i
  · subst q; simp [c1]
  · simp [q,c0,c2,c3,fields]
@[simp] theorem ZyB (h:l+3 < θ.length) (e:Zt) (r:List Int):zd ["Pile"] "row" (il r) (.ref (l+2)) (upE θ l e)=some (upE θ l { e with come:=r }):=by
  have:ZeF (upE θ l e) (.ref (l+2))=some (l+2,("Pile":Str),[(("row":Str),il e.come)]):=by
    show (match (upE θ l e)[l+2]? with | some (Cell.ins C fs)=>some (l+2,C,fs) | _=>none)=_
    rw [ZvK h]
    rfl
  unfold zd
  rw [this]
  simp only [cp]
  rw [if_pos ⟨trivial,show 1<1000 by decide⟩,show ZaH ("row":Str) (il r) [("row",il e.come)]=[(("row":Str),il r)] by with_unfolding_all rfl]
  congr 1
  unfold upE
  apply List.ext_getElem?
  intro i
  simp only [List.getElem?_set,List.length_set]
  by_cases q:l+2=i
  · subst q; simp [c2]
  · simp [q,c0,c1,c3,fields]
end
@[simp] theorem ZuC:("closed":Str)=State.closed.s:=nr rfl
@[simp] theorem ZuB:("listen":Str)=State.listen.s:=nr rfl
@[simp] theorem Zt7:("syn sent":Str)=State.synSent.s:=nr rfl
@[simp] theorem Zt8:("syn come":Str)=State.synCome.s:=nr rfl
@[simp] theorem Zyg:("open":Str)=State.opn.s:=nr rfl
@[simp] theorem Zt6:("wait one":Str)=State.waitOne.s:=nr rfl
@[simp] theorem Zt5:("wait two":Str)=State.waitTwo.s:=nr rfl
@[simp] theorem Zsa:("close wait":Str)=State.closeWait.s:=nr rfl
@[simp] theorem Zub:("closing":Str)=State.closing.s:=nr rfl
@[simp] theorem Zua:("last ack":Str)=State.lastAck.s:=nr rfl
@[simp] theorem ZsL:("time wait":Str)=State.timeWait.s:=nr rfl
@[simp] theorem Zyh:("":Str)=Err.none.s:=nr rfl
@[simp] theorem Zt9:("refused":Str)=Err.refused.s:=nr rfl
@[simp] theorem ZvU:("reset":Str)=Err.reset.s:=nr rfl
@[simp] theorem Zyf:("time":Str)=Err.time.s:=nr rfl
theorem State.inj:∀a b:State,a.s=b.s↔a=b:=by
  intro a b
  constructor
  · intro h
    cases a<;>cases b<;>first | rfl | (exact absurd h (by decide +kernel))
  · intro h; rw [h]
theorem Err.inj:∀a b:Err,a.s=b.s↔a=b:=by
  intro a b
  constructor
  · intro h
    cases a<;>cases b<;>first | rfl | (exact absurd h (by decide +kernel))
  · intro h; rw [h]
theorem Zpr (k:Nat) (x:Str):pl k (.str x)=PyData.strOk x:=by cases k<;>simp [pl]
theorem State.ok (a:State) (k:Nat):pl k (.str a.s)=true:=by
  rw [Zpr]
  cases a<;>decide +kernel
theorem Err.ok (a:Err) (k:Nat):pl k (.str a.s)=true:=by
  rw [Zpr]
  cases a<;>decide +kernel
section
variable {θ:Sto}
@[simp] theorem ZvE (a b:State):eqM (.str a.s) (.str b.s) θ=.ok (.bl (decide (a=b))) θ:=by
  rw [Zi5 (x:=.str a.s) (y:=.str b.s) (Zd8 (State.ok a 9) (State.ok b 9) rfl rfl)]
  simp [State.inj]
@[simp] theorem Zvn (a b:State):neM (.str a.s) (.str b.s) θ=.ok (.bl (!decide (a=b))) θ:=by
  rw [Zhn (x:=.str a.s) (y:=.str b.s) (Zd8 (State.ok a 9) (State.ok b 9) rfl rfl)]
  simp [State.inj]
theorem Zfl (a:State):∀bs:List State,ZhU (bs.map fun b=>D.str b.s)=true∧memS a.s (bs.map fun b=>D.str b.s)=decide (a∈bs)
  | []=>⟨rfl,by simp [memS]⟩
  | b::bs=>by
    obtain ⟨h1,h2⟩:=Zfl a bs
    refine ⟨h1,?_⟩
    rw [List.map_cons]
    show (decide (b.s=a.s) || memS a.s (bs.map fun b=>D.str b.s))=_
    rw [h2,Bool.eq_iff_iff]
    simp only [Bool.or_eq_true,decide_eq_true_eq,List.mem_cons,State.inj]
    constructor
    · rintro (h | h)
      · exact .inl h.symm
      · exact .inr h
    · rintro (h | h)
      · exact .inl h.symm
      · exact .inr h
theorem Zgj (a:State) (bs:List State):inM (.str a.s) (.tup (bs.map fun b=>.str b.s)) θ=.ok (.bl (decide (a∈bs))) θ:=by
  obtain ⟨h1,h2⟩:=Zfl a bs
  have e:inD θ (.str a.s) (.tup (bs.map fun b=>D.str b.s))=some (decide (a∈bs)):=by
    unfold inD
    simp only [Zgt]
    rw [if_pos h1,h2]
  unfold inM
  rw [e]
theorem ZfF (a:State) (bs:List State):Zc4 (.str a.s) (.tup (bs.map fun b=>.str b.s)) θ=.ok (.bl (!decide (a∈bs))) θ:=by
  obtain ⟨h1,h2⟩:=Zfl a bs
  have e:inD θ (.str a.s) (.tup (bs.map fun b=>D.str b.s))=some (decide (a∈bs)):=by
    unfold inD
    simp only [Zgt]
    rw [if_pos h1,h2]
  unfold Zc4
  rw [e]
@[simp] theorem ZzB (a b c:State):inM (.str a.s) (.tup [.str b.s,.str c.s]) θ=.ok (.bl (decide (a∈[b,c]))) θ:=Zgj a [b,c]
@[simp] theorem ZzA (a b c d:State):inM (.str a.s) (.tup [.str b.s,.str c.s,.str d.s]) θ=.ok (.bl (decide (a∈[b,c,d]))) θ:=Zgj a [b,c,d]
@[simp] theorem Zzz (a b c d e f:State):inM (.str a.s) (.tup [.str b.s,.str c.s,.str d.s,.str e.s,.str f.s]) θ=.ok (.bl (decide (a∈[b,c,d,e,f]))) θ:=Zgj a [b,c,d,e,f]
@[simp] theorem Zvm (a b c d:State):Zc4 (.str a.s) (.tup [.str b.s,.str c.s,.str d.s]) θ=.ok (.bl (!decide (a∈[b,c,d]))) θ:=ZfF a [b,c,d]
@[simp] theorem Zvl (a b c d e:State):Zc4 (.str a.s) (.tup [.str b.s,.str c.s,.str d.s,.str e.s]) θ=.ok (.bl (!decide (a∈[b,c,d,e]))) θ:=ZfF a [b,c,d,e]
end
end
end My
namespace My
open PySem L2 L2.MM
noncomputable section
def Zl (n k:Int):Int:=(n+k) % 4294967296
def ZU (n b:Int):Int:=(n-b+2147483648) % 4294967296-2147483648
def Z0 (e:Zt) (now:Int):Zt:={ e with since:=now,wait:=1000,tries:=0 }
def ZV (e:Zt):Int:=64-(e.come.length:Int)
def zI (e:Zt):Int:=if 16<e.most then 16 else e.most
def Zc7 (e:Zt) (now:Int):Bool:=decide (e.wait≤now-e.since)
def ZcZ (e:Zt) (n f:Int) (data:List Int):Seg:=⟨e.ours,e.theirs,n,e.rcv,f+16,ZV e,0,data⟩
def ZfA (e:Zt):Seg:=if e.state=.synSent then ⟨e.ours,e.theirs,e.first,0,2,64,16,[]⟩ else ⟨e.ours,e.theirs,e.first,e.rcv,18,64,16,[]⟩
def mn (i j:Int):Int:=if j<i then j else i
def Zcp (e:Zt):List Int:=Zbf e.written none (some (mn (ZU e.nxt e.una) (zI e)))
def again (e:Zt) (now:Int):Option Seg×Zt:=
  if e.tries=6 then (none,{ e with state:=.closed,error:=.time })
  else
    let e1:={ e with tries:=e.tries+1,wait:=mn (2*e.wait) 16000,since:=now }
    if e.state=.synSent∨e.state=.synCome then (some (ZfA e1),{ e1 with owes_syn:=false })
    else (some (ZcZ e1 e.una (if 0<(Zcp e).length then 0 else 1) (Zcp e)),e1)
def Zcf (e:Zt):Int:=ZU e.behind e.nxt
def Zaj (e:Zt):Bool:=decide (e.state∈[State.opn,.waitOne,.closeWait,.closing,.lastAck]) && decide (0<Zcf e)
def hasNewFin (e:Zt):Bool:=decide (e.state∈[State.waitOne,.closing,.lastAck]) && decide (Zcf e=0)
def ZaK (e:Zt):Bool:=Zaj e || hasNewFin e
section
variable {θ:Sto} {l:Nat} {e:Zt} {now n k:Int}
@[simp] theorem Zyi:zq [.int n,.int k] θ=.ok (.int (Zl n k)) θ:=by simp [zq,Zls,Zl]
@[simp] theorem ZuG:zB [.int n,.int k] θ=.ok (.int (ZU n k)) θ:=by simp [zB,ZhJ,ZU]
@[simp] theorem ZqN (h:l+3 < θ.length):za [.ref l,.int now] (upE θ l e)=.ok .non (upE θ l (Z0 e now)):=by
  simp [za,Zeo,h,Z0]
@[simp] theorem ZvW (h:l+3 < θ.length):ZdZ [.ref (l+2)] (upE θ l e)=.ok (.int (ZV e)) (upE θ l e):=by
  simp [ZdZ,ZhH,h,ZV]
@[simp] theorem ZqY (h:l+3 < θ.length):ZaY [.ref l] (upE θ l e)=.ok (.int (ZV e)) (upE θ l e):=by
  simp [ZaY,ZeN,h]
@[simp] theorem Zo9 (h:l+3 < θ.length):Zaf [.ref l] (upE θ l e)=.ok (.int (zI e)) (upE θ l e):=by
  simp [Zaf,ZdL,h,zI]
@[simp] theorem ZuJ (h:l+3 < θ.length):Zc2 [.ref l,.int now] (upE θ l e)=.ok (.bl (Zc7 e now)) (upE θ l e):=by
  simp [Zc2,ZhM,h,Zc7]
theorem Zso (a b c d f g i:Int) (x:List Int):D.tup [.int a,.int b,.int c,.int d,.int f,.int g,.int i,itp x]=(Seg.mk a b c d f g i x).d:=rfl
theorem ZiN (a b c d f g i:Int):D.tup [.int a,.int b,.int c,.int d,.int f,.int g,.int i,.tup []]=(Seg.mk a b c d f g i []).d:=rfl
@[simp] theorem ZsS (h:l+3 < θ.length):ZbL [.ref l] (upE θ l e)=.ok (ZfA e).d (upE θ l { e with owes_syn:=false }):=by
  by_cases c:e.state=.synSent<;>simp [ZbL,ZfV,ZeL,h,ZfA,c,ZiN]
@[simp] theorem ZqX {f:Int} {data:List Int} (h:l+3 < θ.length):zA [.ref l,.int n,.int f,il data] (upE θ l e)=.ok (ZcZ e n f data).d (upE θ l e):=by
  simp [zA,ZeK,h,ZcZ,Zso]
theorem Zq8 (h:l+3 < θ.length):Zdg [.ref l,.int now] (upE θ l e)=.ok (Zbz (again e now).1) (upE θ l (again e now).2):=by
  by_cases c:e.tries=6
  · simp [Zdg,ZdQ,ZcA,h,again,c,Zbz]
  · by_cases c2:e.state=.synSent∨e.state=.synCome
    · simp [Zdg,ZdQ,ZcA,Zdr,h,again,c,c2,Zbz,ZeX,mn]
    · have am:∀e':Zt,e'.most=e.most→zI e'=zI e:=fun e' h=>by unfold zI; rw [h]
      have ad:Zcp e=Zbf e.written none (some (mn (ZU e.nxt e.una) (zI e))):=rfl
      have sl:∀e':Zt,e'.written=e.written→Zet (upE θ l e') (il e'.written) none (some (if zI e<ZU e.nxt e.una then zI e else ZU e.nxt e.una))=some (il (Zcp e)):=fun e' h'=>by
        rw [Zk9,h']; rfl
      unfold again
      rw [if_neg c,if_neg c2]
      have c2':¬(e.state=State.synSent∨e.state=State.synCome):=c2
      by_cases c3:0<(Zcp e).length
      · rw [if_pos c3]
        have c3':(0:Int)<(Zcp e).length:=by omega
        simp [Zdg,ZdQ,ZcA,Zdr,h,c,c2',ZeX,mn,am,sl,c3,c3',Zbz,-Zk9,ZcZ,ZV]
      · rw [if_neg c3]
        have c3':¬(0:Int)<(Zcp e).length:=by omega
        simp [Zdg,ZdQ,ZcA,Zdr,h,c,c2',ZeX,mn,am,sl,c3,c3',Zbz,-Zk9,ZcZ,ZV]
@[simp] theorem ZuD (h:l+3 < θ.length):ZbE [.ref l] (upE θ l e)=.ok (.int (Zcf e)) (upE θ l e):=by
  simp [ZbE,ZhD,h,Zcf]
@[simp] theorem Zpb (h:l+3 < θ.length):Zah [.ref l] (upE θ l e)=.ok (.bl (Zaj e)) (upE θ l e):=by
  simp [Zah,ZdO,h,Zaj]
@[simp] theorem ZqP (h:l+3 < θ.length):ZbF [.ref l] (upE θ l e)=.ok (.bl (hasNewFin e)) (upE θ l e):=by
  simp [ZbF,Zep,h,hasNewFin]
@[simp] theorem Zs1 (h:l+3 < θ.length):ZbN [.ref l] (upE θ l e)=.ok (.bl (ZaK e)) (upE θ l e):=by
  simp [ZbN,ZfY,h,ZaK]
end
def mn3 (i j k:Int):Int:=if j<i then (if k<j then k else j) else (if k<i then k else i)
def Ze0 (e:Zt) (room:Int):Int:=mn3 (zI e) (Zcf e) room
def Ze1 (e:Zt) (room:Int):Seg×Zt:=
  let e1:={ e with nxt:=Zl e.nxt (Ze0 e room) }
  (ZcZ e1 e.nxt (if Zcf e1=0 then 8 else 0) (Zbf e.written (some (ZU e.nxt e.una)) (some (ZU e.nxt e.una+Ze0 e room))),e1)
def Zhm (e:Zt):Seg×Zt:=(ZcZ e e.nxt 1 [],{ e with nxt:=Zl e.nxt 1 })
def zZ (e:Zt) (room:Int):Seg×Zt:=if Zaj e=true then Ze1 { e with probes:=false } room else Zhm { e with probes:=false }
def Zfk (e:Zt) (now:Int):Seg×Zt:=
  let e1:=if e.nxt=e.una then Z0 e now else e
  (ZfA { e1 with nxt:=Zl e.first 1 },{ e1 with nxt:=Zl e.first 1,owes_syn:=false })
def zg (e:Zt) (now:Int):Option Seg×Zt:=
  if e.state=.synSent∨e.state=.synCome then
    if e.nxt=e.first∨e.owes_syn=true then (some (Zfk e now).1,(Zfk e now).2) else (none,e)
  else
    if e.wnd-ZU e.nxt e.una≤0∨ZaK e=false then (none,e)
    else
      let e1:=if e.nxt=e.una then Z0 e now else e
      (some (zZ { e1 with owes_answer:=false } (e.wnd-ZU e.nxt e.una)).1,(zZ { e1 with owes_answer:=false } (e.wnd-ZU e.nxt e.una)).2)
def ze (e:Zt) (now:Int):Option Seg×Zt:=
  if ¬e.nxt=e.una∨¬e.wnd=0∨ZaK e=false then (none,{ e with probes:=false })
  else
    let e1:=if e.probes=true then e else Z0 { e with probes:=true } now
    if Zc7 e1 now=true then (some (zZ { e1 with since:=now } 1).1,(zZ { e1 with since:=now } 1).2) else (none,e1)
def zM (e:Zt):Option Seg×Zt:=if e.owes_answer=true then (some (ZcZ e e.nxt 0 []),{ e with owes_answer:=false }) else (none,e)
def ZbH (e:Zt) (now:Int):Option Seg×Zt:=
  match zg e now with
  | (some s,e1)=>(some s,e1)
  | (none,e1)=>match ze e1 now with
    | (some s,e2)=>(some s,e2)
    | (none,e2)=>zM e2
def Zan (e:Zt) (now:Int):Option Seg×Zt:=
  match e.owed_reset with
  | some s=>(some s,{ e with owed_reset:=none })
  | none=>
    let e1:=if e.state=.timeWait∧120000≤now-e.since then { e with state:=.closed } else e
    if e1.state=.closed∨e1.state=.listen then (none,e1)
    else if ¬e1.nxt=e1.una∧Zc7 e1 now=true then again e1 now
    else ZbH e1 now
section
variable {θ:Sto} {l:Nat} {e:Zt} {now n k:Int}
@[simp] theorem ZsT {r:Int} (h:l+3 < θ.length):Zch [.ref l,.int r] (upE θ l e)=.ok (Ze1 e r).1.d (upE θ l (Ze1 e r).2):=by
  have em:(if Zcf e<zI e then (if r<Zcf e then r else Zcf e) else (if r<zI e then r else zI e))=Ze0 e r:=rfl
  by_cases c:Zcf { e with nxt:=Zl e.nxt (Ze0 e r) }=0
  · simp [Zch,Zec,h,em]
    simp [Ze1,c,ZcZ,ZV,h]
  · simp [Zch,Zec,h,em]
    simp [Ze1,c,ZcZ,ZV,h]
@[simp] theorem Zud (h:l+3 < θ.length):ZdH [.ref l] (upE θ l e)=.ok (Zhm e).1.d (upE θ l (Zhm e).2):=by
  simp [ZdH,ZgF,h,Zhm,ZcZ,ZV,Zd7]
@[simp] theorem Zsf {r:Int} (h:l+3 < θ.length):ZaU [.ref l,.int r] (upE θ l e)=.ok (zZ e r).1.d (upE θ l (zZ e r).2):=by
  have hp:Zaj { e with probes:=false }=Zaj e:=rfl
  by_cases c:Zaj e=true
  · simp [ZaU,Zdw,h,zZ,c,hp]
  · simp [ZaU,Zdw,h,zZ,c,hp]
@[simp] theorem Zuc (h:l+3 < θ.length):ZcS [.ref l,.int now] (upE θ l e)=.ok (Zfk e now).1.d (upE θ l (Zfk e now).2):=by
  by_cases c:e.nxt=e.una
  · simp [ZcS,ZeO,Zdv,h,Zfk,c,Z0]
  · simp [ZcS,ZeO,Zdv,h,Zfk,c]
theorem ZcX (h:l+3 < θ.length):Z8 [.ref l,.int now] (upE θ l e)=.ok (Zbz (zg e now).1) (upE θ l (zg e now).2):=by
  by_cases c1:e.state=.synSent∨e.state=.synCome
  · by_cases c2:e.nxt=e.first∨e.owes_syn=true
    · simp [Z8,zK,zu,h,zg,c1,c2,Zbz]
    · simp [Z8,zK,zu,h,zg,c1,c2,Zbz]
  · by_cases c3:e.wnd-ZU e.nxt e.una≤0
    · simp [Z8,zK,zu,Zak,h,zg,c1,c3,Zbz]
    · by_cases c4:ZaK e=true
      · by_cases c5:e.nxt=e.una
        · have c3':=c3
          rw [c5] at c3'
          simp [Z8,zK,zu,Zak,ZbR,h,zg,c1,c3',c4,c5,Zbz,Z0]
        · simp [Z8,zK,zu,Zak,ZbR,h,zg,c1,c3,c4,c5,Zbz]
      · simp [Z8,zK,zu,Zak,h,zg,c1,c3,c4,Zbz]
theorem ZdA (h:l+3 < θ.length):zb [.ref l,.int now] (upE θ l e)=.ok (Zbz (ze e now).1) (upE θ l (ze e now).2):=by
  by_cases c1:e.nxt=e.una
  · by_cases c2:e.wnd=0
    · by_cases c3:ZaK e=true
      · by_cases c4:e.probes=true
        · by_cases c5:Zc7 e now=true
          · simp [zb,zt,zh,Zay,Zax,h,ze,c1,c2,c3,c4,c5,Zbz]
          · simp [zb,zt,zh,Zay,Zax,h,ze,c1,c2,c3,c4,c5,Zbz]
        · have c5:Zc7 (Z0 { e with probes:=true } now) now=false:=by simp [Zc7,Z0]
          simp [zb,zt,zh,Zay,Zax,h,ze,c1,c2,c3,c4,Zbz] at c5 ⊢
          simp [c5,Zc7,Z0]
      · simp [zb,zt,zh,h,ze,c1,c2,c3,Zbz]
    · simp [zb,zt,zh,h,ze,c1,c2,Zbz]
  · simp [zb,zt,zh,h,ze,c1,Zbz]
theorem Zfv (h:l+3 < θ.length):zU [.ref l] (upE θ l e)=.ok (Zbz (zM e).1) (upE θ l (zM e).2):=by
  by_cases c:e.owes_answer=true
  · simp [zU,ZbC,Za8,h,zM,c,Zbz,Zd7,ZcZ,ZV]
  · simp [zU,ZbC,Za8,h,zM,c,Zbz]
@[simp] theorem Zuh:Zbz none=.non:=rfl
@[simp] theorem Zug (s:Seg):Zbz (some s)=s.d:=rfl
@[simp] theorem Zv8 (s:Seg):Zcy s.d=false:=rfl
@[simp] theorem Zul:Zcy .non=true:=nr rfl
@[simp] theorem Zsq (h:l+3 < θ.length) (e:Zt):zd ["End"] "owed_reset" .non (.ref l) (upE θ l e)=some (upE θ l { e with owed_reset:=none }):=Zfw h e none
@[simp] theorem Zsp (h:l+3 < θ.length) (e:Zt) (s:Seg):zd ["End"] "owed_reset" s.d (.ref l) (upE θ l e)=some (upE θ l { e with owed_reset:=some s }):=Zfw h e (some s)
theorem Zia (h:l+3 < θ.length) (x:Sl):Zg9 (ZM 2 (mCB Z8 (Zc (Zd 0) (Zc (Zd 1) Zk))) [.val (.ref l),.val (.int now),x] (upE θ l e)) (Zq ZbX (Zq ZbW (ZK (Zd 2)))) =
    .ok (.rt (Zbz (ZbH e now).1),[.val (.ref l),.val (.int now),.val (Zbz (ZbH e now).1)]) (upE θ l (ZbH e now).2):=by
  unfold ZbH
  cases c1:zg e now with
  | mk r1 e1=>
    cases r1 with
    | some s=>simp [h,ZcX,c1,ZbX,ZbW]
    | none=>
      cases c2:ze e1 now with
      | mk r2 e2=>
        cases r2 with
        | some s=>simp [h,ZcX,c1,ZbX,ZbW,ZdA,c2]
        | none=>simp [h,ZcX,c1,ZbX,ZbW,ZdA,c2,Zfv]
theorem Zmc (h:l+3 < θ.length):Zd0 [.ref l,.int now] (upE θ l e)=.ok (Zbz (Zan e now).1) (upE θ l (Zan e now).2):=by
  cases c0:e.owed_reset with
  | some s=>simp [Zd0,Ze8,Zdo,h,Zan,c0,ZcO,ZeM]
  | none=>
    have key:∀e1:Zt,(Zg9 (ZbY [.val (.ref l),.val (.int now),.no] (upE θ l e1)) (Zq Zcz (Zq (ZM 2 (mCB Z8 (Zc (Zd 0) (Zc (Zd 1) Zk)))) (Zq ZbX (Zq ZbW (ZK (Zd 2))))))).bind (fun p θ=>match p.1 with | .nx=>.ok .non θ | .rt d=>.ok d θ | _=>.bad) =
        .ok (Zbz (if e1.state=.closed∨e1.state=.listen then (none,e1) else if ¬e1.nxt=e1.una∧Zc7 e1 now=true then again e1 now else ZbH e1 now).1) (upE θ l (if e1.state=.closed∨e1.state=.listen then (none,e1) else if ¬e1.nxt=e1.una∧Zc7 e1 now=true then again e1 now else ZbH e1 now).2):=fun e1=>by
      by_cases c1:e1.state=.closed∨e1.state=.listen
      · simp [ZbY,h,c1]
      · by_cases c2:e1.nxt=e1.una
        · have g:=Zia (e:=e1) (now:=now) h .no
          simp at g
          simp [ZbY,Zcz,h,c1,c2]
          rw [g]
          simp
        · by_cases c3:Zc7 e1 now=true
          · simp [ZbY,Zcz,h,c1,c2,c3,Zq8]
          · have g:=Zia (e:=e1) (now:=now) h .no
            simp at g
            simp [ZbY,Zcz,h,c1,c2,c3]
            rw [g]
            simp
    by_cases c1:e.state=.timeWait∧120000≤now-e.since
    · have:=key { e with state:=.closed }
      simp [Zd0,Ze8,Zdo,ZeS,h,Zan,c0,c1] at this ⊢
      exact this
    · have:=key e
      simp [Zd0,Ze8,Zdo,ZeS,h,Zan,c0,c1] at this ⊢
      exact this
def ZiM (e:Zt) (now:Int):List Int:=match (Zan e now).1 with
  | none=>[]
  | some s=>putL s
theorem ZsR (h:l+3 < θ.length) (hp:∀s,(Zan e now).1=some s→s.Put):ZcC [.ref l,.int now] (upE θ l e)=.ok (il (ZiM e now)) (upE θ l (Zan e now).2):=by
  unfold ZiM
  cases c:(Zan e now).1 with
  | none=>simp [ZcC,ZhG,Zmc,h,c,Zd7]
  | some s=>simp [ZcC,ZhG,Zmc,h,c,ZuF (hp s c)]
def newEnd (ours theirs first:Int) (active:Bool):Zt:=⟨ours,theirs,if active then .synSent else .listen,.none,first,first,first,0,0,0,0,12,[],[],[],none,false,Zl first 1,none,false,false,false,0,1000,0⟩
def cells (l:Nat) (e:Zt):Sto:=[c0 l e,c1 e,c2 e,c3 e]
theorem Zns (θ r:Sto) (C:Str) (fs:List (Str×D)):ZeF (θ++.ins C fs::r) (.ref θ.length)=some (θ.length,C,fs):=by
  show (match (θ++.ins C fs::r)[θ.length]? with | some (Cell.ins C fs)=>some (θ.length,C,fs) | _=>none)=_
  rw [List.getElem?_append_right (Nat.le_refl _),Nat.sub_self]
  rfl
theorem Zih {f:Str} {y:D}:∀{fs:List (Str×D)},(fs.map Prod.fst).contains f=false→ZaH f y fs=fs++[(f,y)]
  | [],_=>rfl
  | (g,x)::r,h=>by
    rw [List.map_cons,List.contains_cons,Bool.or_eq_false_iff] at h
    have hn:¬g=f:=fun e=>by rw [e,beq_self_eq_true] at h; cases h.1
    unfold ZaH
    rw [if_neg hn,Zih h.2]
    rfl
theorem Z2 {C f:Str} {y:D} (θ r:Sto) {fs:List (Str×D)} (h0:[C].contains C=true) (h1:(fs.map Prod.fst).contains f=false) (h2:fs.length<1000):zd [C] f y (.ref θ.length) (θ++.ins C fs::r)=some (θ++.ins C (fs++[(f,y)])::r):=by
  unfold zd
  rw [Zns]
  simp only [h0]
  rw [if_pos ⟨trivial,h2⟩,Zih h1]
  congr 1
  rw [List.set_append,if_neg (Nat.lt_irrefl _),Nat.sub_self]
  rfl
theorem Zmz (S:Sto):mkG "Pile" ZbU [] S=.ok (.ref S.length) (S++[.ins "Pile" [("row",il [])]]):=by
  have:=Z2 (C:="Pile") (f:="row") (y:=il []) S [] (fs:=[]) (by decide +kernel) rfl (by decide)
  simp [mkG,ZbU,Zfg,Zd7,this]
theorem ZpK (θ r:Sto) (y:D):zd ["End"] "ours" y (.ref θ.length) (θ++.ins "End" []::r)=some (θ++.ins "End" [("ours",y)]::r):=Z2 θ r ce (by simp only [List.map_cons,List.map_nil]; decide +kernel) (by simp only [List.length_cons,List.length_nil]; decide)
theorem ZkQ (θ r:Sto) (x0 y:D):zd ["End"] "theirs" y (.ref θ.length) (θ++.ins "End" [("ours",x0)]::r)=some (θ++.ins "End" [("ours",x0),("theirs",y)]::r):=Z2 θ r ce (by simp only [List.map_cons,List.map_nil]; decide +kernel) (by simp only [List.length_cons,List.length_nil]; decide)
theorem Zmt (θ r:Sto) (x0 x1 y:D):zd ["End"] "state" y (.ref θ.length) (θ++.ins "End" [("ours",x0),("theirs",x1)]::r)=some (θ++.ins "End" [("ours",x0),("theirs",x1),("state",y)]::r):=Z2 θ r ce (by simp only [List.map_cons,List.map_nil]; decide +kernel) (by simp only [List.length_cons,List.length_nil]; decide)
theorem Zmw (θ r:Sto) (x0 x1 x2 y:D):zd ["End"] "error" y (.ref θ.length) (θ++.ins "End" [("ours",x0),("theirs",x1),("state",x2)]::r)=some (θ++.ins "End" [("ours",x0),("theirs",x1),("state",x2),("error",y)]::r):=Z2 θ r ce (by simp only [List.map_cons,List.map_nil]; decide +kernel) (by simp only [List.length_cons,List.length_nil]; decide)
theorem Zmv (θ r:Sto) (x0 x1 x2 x3 y:D):zd ["End"] "first" y (.ref θ.length) (θ++.ins "End" [("ours",x0),("theirs",x1),("state",x2),("error",x3)]::r)=some (θ++.ins "End" [("ours",x0),("theirs",x1),("state",x2),("error",x3),("first",y)]::r):=Z2 θ r ce (by simp only [List.map_cons,List.map_nil]; decide +kernel) (by simp only [List.length_cons,List.length_nil]; decide)
theorem Zsv (θ r:Sto) (x0 x1 x2 x3 x4 y:D):zd ["End"] "una" y (.ref θ.length) (θ++.ins "End" [("ours",x0),("theirs",x1),("state",x2),("error",x3),("first",x4)]::r)=some (θ++.ins "End" [("ours",x0),("theirs",x1),("state",x2),("error",x3),("first",x4),("una",y)]::r):=Z2 θ r ce (by simp only [List.map_cons,List.map_nil]; decide +kernel) (by simp only [List.length_cons,List.length_nil]; decide)
theorem Zsx (θ r:Sto) (x0 x1 x2 x3 x4 x5 y:D):zd ["End"] "nxt" y (.ref θ.length) (θ++.ins "End" [("ours",x0),("theirs",x1),("state",x2),("error",x3),("first",x4),("una",x5)]::r)=some (θ++.ins "End" [("ours",x0),("theirs",x1),("state",x2),("error",x3),("first",x4),("una",x5),("nxt",y)]::r):=Z2 θ r ce (by simp only [List.map_cons,List.map_nil]; decide +kernel) (by simp only [List.length_cons,List.length_nil]; decide)
theorem Zsw (θ r:Sto) (x0 x1 x2 x3 x4 x5 x6 y:D):zd ["End"] "rcv" y (.ref θ.length) (θ++.ins "End" [("ours",x0),("theirs",x1),("state",x2),("error",x3),("first",x4),("una",x5),("nxt",x6)]::r)=some (θ++.ins "End" [("ours",x0),("theirs",x1),("state",x2),("error",x3),("first",x4),("una",x5),("nxt",x6),("rcv",y)]::r):=Z2 θ r ce (by simp only [List.map_cons,List.map_nil]; decide +kernel) (by simp only [List.length_cons,List.length_nil]; decide)
theorem Zsu (θ r:Sto) (x0 x1 x2 x3 x4 x5 x6 x7 y:D):zd ["End"] "wnd" y (.ref θ.length) (θ++.ins "End" [("ours",x0),("theirs",x1),("state",x2),("error",x3),("first",x4),("una",x5),("nxt",x6),("rcv",x7)]::r)=some (θ++.ins "End" [("ours",x0),("theirs",x1),("state",x2),("error",x3),("first",x4),("una",x5),("nxt",x6),("rcv",x7),("wnd",y)]::r):=Z2 θ r ce (by simp only [List.map_cons,List.map_nil]; decide +kernel) (by simp only [List.length_cons,List.length_nil]; decide)
theorem ZpJ (θ r:Sto) (x0 x1 x2 x3 x4 x5 x6 x7 x8 y:D):zd ["End"] "told" y (.ref θ.length) (θ++.ins "End" [("ours",x0),("theirs",x1),("state",x2),("error",x3),("first",x4),("una",x5),("nxt",x6),("rcv",x7),("wnd",x8)]::r)=some (θ++.ins "End" [("ours",x0),("theirs",x1),("state",x2),("error",x3),("first",x4),("una",x5),("nxt",x6),("rcv",x7),("wnd",x8),("told",y)]::r):=Z2 θ r ce (by simp only [List.map_cons,List.map_nil]; decide +kernel) (by simp only [List.length_cons,List.length_nil]; decide)
theorem Zil (θ r:Sto) (x0 x1 x2 x3 x4 x5 x6 x7 x8 x9 y:D):zd ["End"] "told_by" y (.ref θ.length) (θ++.ins "End" [("ours",x0),("theirs",x1),("state",x2),("error",x3),("first",x4),("una",x5),("nxt",x6),("rcv",x7),("wnd",x8),("told",x9)]::r)=some (θ++.ins "End" [("ours",x0),("theirs",x1),("state",x2),("error",x3),("first",x4),("una",x5),("nxt",x6),("rcv",x7),("wnd",x8),("told",x9),("told_by",y)]::r):=Z2 θ r ce (by simp only [List.map_cons,List.map_nil]; decide +kernel) (by simp only [List.length_cons,List.length_nil]; decide)
theorem ZpL (θ r:Sto) (x0 x1 x2 x3 x4 x5 x6 x7 x8 x9 x10 y:D):zd ["End"] "most" y (.ref θ.length) (θ++.ins "End" [("ours",x0),("theirs",x1),("state",x2),("error",x3),("first",x4),("una",x5),("nxt",x6),("rcv",x7),("wnd",x8),("told",x9),("told_by",x10)]::r)=some (θ++.ins "End" [("ours",x0),("theirs",x1),("state",x2),("error",x3),("first",x4),("una",x5),("nxt",x6),("rcv",x7),("wnd",x8),("told",x9),("told_by",x10),("most",y)]::r):=Z2 θ r ce (by simp only [List.map_cons,List.map_nil]; decide +kernel) (by simp only [List.length_cons,List.length_nil]; decide)
theorem Zik (θ r:Sto) (x0 x1 x2 x3 x4 x5 x6 x7 x8 x9 x10 x11 y:D):zd ["End"] "written" y (.ref θ.length) (θ++.ins "End" [("ours",x0),("theirs",x1),("state",x2),("error",x3),("first",x4),("una",x5),("nxt",x6),("rcv",x7),("wnd",x8),("told",x9),("told_by",x10),("most",x11)]::r)=some (θ++.ins "End" [("ours",x0),("theirs",x1),("state",x2),("error",x3),("first",x4),("una",x5),("nxt",x6),("rcv",x7),("wnd",x8),("told",x9),("told_by",x10),("most",x11),("written",y)]::r):=Z2 θ r ce (by simp only [List.map_cons,List.map_nil]; decide +kernel) (by simp only [List.length_cons,List.length_nil]; decide)
theorem ZpM (θ r:Sto) (x0 x1 x2 x3 x4 x5 x6 x7 x8 x9 x10 x11 x12 y:D):zd ["End"] "come" y (.ref θ.length) (θ++.ins "End" [("ours",x0),("theirs",x1),("state",x2),("error",x3),("first",x4),("una",x5),("nxt",x6),("rcv",x7),("wnd",x8),("told",x9),("told_by",x10),("most",x11),("written",x12)]::r)=some (θ++.ins "End" [("ours",x0),("theirs",x1),("state",x2),("error",x3),("first",x4),("una",x5),("nxt",x6),("rcv",x7),("wnd",x8),("told",x9),("told_by",x10),("most",x11),("written",x12),("come",y)]::r):=Z2 θ r ce (by simp only [List.map_cons,List.map_nil]; decide +kernel) (by simp only [List.length_cons,List.length_nil]; decide)
theorem Zmx (θ r:Sto) (x0 x1 x2 x3 x4 x5 x6 x7 x8 x9 x10 x11 x12 x13 y:D):zd ["End"] "early" y (.ref θ.length) (θ++.ins "End" [("ours",x0),("theirs",x1),("state",x2),("error",x3),("first",x4),("una",x5),("nxt",x6),("rcv",x7),("wnd",x8),("told",x9),("told_by",x10),("most",x11),("written",x12),("come",x13)]::r)=some (θ++.ins "End" [("ours",x0),("theirs",x1),("state",x2),("error",x3),("first",x4),("una",x5),("nxt",x6),("rcv",x7),("wnd",x8),("told",x9),("told_by",x10),("most",x11),("written",x12),("come",x13),("early",y)]::r):=Z2 θ r ce (by simp only [List.map_cons,List.map_nil]; decide +kernel) (by simp only [List.length_cons,List.length_nil]; decide)
theorem Zgv (θ r:Sto) (x0 x1 x2 x3 x4 x5 x6 x7 x8 x9 x10 x11 x12 x13 x14 y:D):zd ["End"] "early_fin" y (.ref θ.length) (θ++.ins "End" [("ours",x0),("theirs",x1),("state",x2),("error",x3),("first",x4),("una",x5),("nxt",x6),("rcv",x7),("wnd",x8),("told",x9),("told_by",x10),("most",x11),("written",x12),("come",x13),("early",x14)]::r)=some (θ++.ins "End" [("ours",x0),("theirs",x1),("state",x2),("error",x3),("first",x4),("una",x5),("nxt",x6),("rcv",x7),("wnd",x8),("told",x9),("told_by",x10),("most",x11),("written",x12),("come",x13),("early",x14),("early_fin",y)]::r):=Z2 θ r ce (by simp only [List.map_cons,List.map_nil]; decide +kernel) (by simp only [List.length_cons,List.length_nil]; decide)
theorem ZfD (θ r:Sto) (x0 x1 x2 x3 x4 x5 x6 x7 x8 x9 x10 x11 x12 x13 x14 x15 y:D):zd ["End"] "has_closed" y (.ref θ.length) (θ++.ins "End" [("ours",x0),("theirs",x1),("state",x2),("error",x3),("first",x4),("una",x5),("nxt",x6),("rcv",x7),("wnd",x8),("told",x9),("told_by",x10),("most",x11),("written",x12),("come",x13),("early",x14),("early_fin",x15)]::r)=some (θ++.ins "End" [("ours",x0),("theirs",x1),("state",x2),("error",x3),("first",x4),("una",x5),("nxt",x6),("rcv",x7),("wnd",x8),("told",x9),("told_by",x10),("most",x11),("written",x12),("come",x13),("early",x14),("early_fin",x15),("has_closed",y)]::r):=Z2 θ r ce (by simp only [List.map_cons,List.map_nil]; decide +kernel) (by simp only [List.length_cons,List.length_nil]; decide)
theorem ZkT (θ r:Sto) (x0 x1 x2 x3 x4 x5 x6 x7 x8 x9 x10 x11 x12 x13 x14 x15 x16 y:D):zd ["End"] "behind" y (.ref θ.length) (θ++.ins "End" [("ours",x0),("theirs",x1),("state",x2),("error",x3),("first",x4),("una",x5),("nxt",x6),("rcv",x7),("wnd",x8),("told",x9),("told_by",x10),("most",x11),("written",x12),("come",x13),("early",x14),("early_fin",x15),("has_closed",x16)]::r)=some (θ++.ins "End" [("ours",x0),("theirs",x1),("state",x2),("error",x3),("first",x4),("una",x5),("nxt",x6),("rcv",x7),("wnd",x8),("told",x9),("told_by",x10),("most",x11),("written",x12),("come",x13),("early",x14),("early_fin",x15),("has_closed",x16),("behind",y)]::r):=Z2 θ r ce (by simp only [List.map_cons,List.map_nil]; decide +kernel) (by simp only [List.length_cons,List.length_nil]; decide)
theorem ZfC (θ r:Sto) (x0 x1 x2 x3 x4 x5 x6 x7 x8 x9 x10 x11 x12 x13 x14 x15 x16 x17 y:D):zd ["End"] "owed_reset" y (.ref θ.length) (θ++.ins "End" [("ours",x0),("theirs",x1),("state",x2),("error",x3),("first",x4),("una",x5),("nxt",x6),("rcv",x7),("wnd",x8),("told",x9),("told_by",x10),("most",x11),("written",x12),("come",x13),("early",x14),("early_fin",x15),("has_closed",x16),("behind",x17)]::r)=some (θ++.ins "End" [("ours",x0),("theirs",x1),("state",x2),("error",x3),("first",x4),("una",x5),("nxt",x6),("rcv",x7),("wnd",x8),("told",x9),("told_by",x10),("most",x11),("written",x12),("come",x13),("early",x14),("early_fin",x15),("has_closed",x16),("behind",x17),("owed_reset",y)]::r):=Z2 θ r ce (by simp only [List.map_cons,List.map_nil]; decide +kernel) (by simp only [List.length_cons,List.length_nil]; decide)
theorem Zhj (θ r:Sto) (x0 x1 x2 x3 x4 x5 x6 x7 x8 x9 x10 x11 x12 x13 x14 x15 x16 x17 x18 y:D):zd ["End"] "owes_syn" y (.ref θ.length) (θ++.ins "End" [("ours",x0),("theirs",x1),("state",x2),("error",x3),("first",x4),("una",x5),("nxt",x6),("rcv",x7),("wnd",x8),("told",x9),("told_by",x10),("most",x11),("written",x12),("come",x13),("early",x14),("early_fin",x15),("has_closed",x16),("behind",x17),("owed_reset",x18)]::r)=some (θ++.ins "End" [("ours",x0),("theirs",x1),("state",x2),("error",x3),("first",x4),("una",x5),("nxt",x6),("rcv",x7),("wnd",x8),("told",x9),("told_by",x10),("most",x11),("written",x12),("come",x13),("early",x14),("early_fin",x15),("has_closed",x16),("behind",x17),("owed_reset",x18),("owes_syn",y)]::r):=Z2 θ r ce (by simp only [List.map_cons,List.map_nil]; decide +kernel) (by simp only [List.length_cons,List.length_nil]; decide)
theorem Zfb (θ r:Sto) (x0 x1 x2 x3 x4 x5 x6 x7 x8 x9 x10 x11 x12 x13 x14 x15 x16 x17 x18 x19 y:D):zd ["End"] "owes_answer" y (.ref θ.length) (θ++.ins "End" [("ours",x0),("theirs",x1),("state",x2),("error",x3),("first",x4),("una",x5),("nxt",x6),("rcv",x7),("wnd",x8),("told",x9),("told_by",x10),("most",x11),("written",x12),("come",x13),("early",x14),("early_fin",x15),("has_closed",x16),("behind",x17),("owed_reset",x18),("owes_syn",x19)]::r)=some (θ++.ins "End" [("ours",x0),("theirs",x1),("state",x2),("error",x3),("first",x4),("una",x5),("nxt",x6),("rcv",x7),("wnd",x8),("told",x9),("told_by",x10),("most",x11),("written",x12),("come",x13),("early",x14),("early_fin",x15),("has_closed",x16),("behind",x17),("owed_reset",x18),("owes_syn",x19),("owes_answer",y)]::r):=Z2 θ r ce (by simp only [List.map_cons,List.map_nil]; decide +kernel) (by simp only [List.length_cons,List.length_nil]; decide)
theorem ZkR (θ r:Sto) (x0 x1 x2 x3 x4 x5 x6 x7 x8 x9 x10 x11 x12 x13 x14 x15 x16 x17 x18 x19 x20 y:D):zd ["End"] "probes" y (.ref θ.length) (θ++.ins "End" [("ours",x0),("theirs",x1),("state",x2),("error",x3),("first",x4),("una",x5),("nxt",x6),("rcv",x7),("wnd",x8),("told",x9),("told_by",x10),("most",x11),("written",x12),("come",x13),("early",x14),("early_fin",x15),("has_closed",x16),("behind",x17),("owed_reset",x18),("owes_syn",x19),("owes_answer",x20)]::r)=some (θ++.ins "End" [("ours",x0),("theirs",x1),("state",x2),("error",x3),("first",x4),("una",x5),("nxt",x6),("rcv",x7),("wnd",x8),("told",x9),("told_by",x10),("most",x11),("written",x12),("come",x13),("early",x14),("early_fin",x15),("has_closed",x16),("behind",x17),("owed_reset",x18),("owes_syn",x19),("owes_answer",x20),("probes",y)]::r):=Z2 θ r ce (by simp only [List.map_cons,List.map_nil]; decide +kernel) (by simp only [List.length_cons,List.length_nil]; decide)
theorem Zmu (θ r:Sto) (x0 x1 x2 x3 x4 x5 x6 x7 x8 x9 x10 x11 x12 x13 x14 x15 x16 x17 x18 x19 x20 x21 y:D):zd ["End"] "since" y (.ref θ.length) (θ++.ins "End" [("ours",x0),("theirs",x1),("state",x2),("error",x3),("first",x4),("una",x5),("nxt",x6),("rcv",x7),("wnd",x8),("told",x9),("told_by",x10),("most",x11),("written",x12),("come",x13),("early",x14),("early_fin",x15),("has_closed",x16),("behind",x17),("owed_reset",x18),("owes_syn",x19),("owes_answer",x20),("probes",x21)]::r)=some (θ++.ins "End" [("ours",x0),("theirs",x1),("state",x2),("error",x3),("first",x4),("una",x5),("nxt",x6),("rcv",x7),("wnd",x8),("told",x9),("told_by",x10),("most",x11),("written",x12),("come",x13),("early",x14),("early_fin",x15),("has_closed",x16),("behind",x17),("owed_reset",x18),("owes_syn",x19),("owes_answer",x20),("probes",x21),("since",y)]::r):=Z2 θ r ce (by simp only [List.map_cons,List.map_nil]; decide +kernel) (by simp only [List.length_cons,List.length_nil]; decide)
theorem ZpI (θ r:Sto) (x0 x1 x2 x3 x4 x5 x6 x7 x8 x9 x10 x11 x12 x13 x14 x15 x16 x17 x18 x19 x20 x21 x22 y:D):zd ["End"] "wait" y (.ref θ.length) (θ++.ins "End" [("ours",x0),("theirs",x1),("state",x2),("error",x3),("first",x4),("una",x5),("nxt",x6),("rcv",x7),("wnd",x8),("told",x9),("told_by",x10),("most",x11),("written",x12),("come",x13),("early",x14),("early_fin",x15),("has_closed",x16),("behind",x17),("owed_reset",x18),("owes_syn",x19),("owes_answer",x20),("probes",x21),("since",x22)]::r)=some (θ++.ins "End" [("ours",x0),("theirs",x1),("state",x2),("error",x3),("first",x4),("una",x5),("nxt",x6),("rcv",x7),("wnd",x8),("told",x9),("told_by",x10),("most",x11),("written",x12),("come",x13),("early",x14),("early_fin",x15),("has_closed",x16),("behind",x17),("owed_reset",x18),("owes_syn",x19),("owes_answer",x20),("probes",x21),("since",x22),("wait",y)]::r):=Z2 θ r ce (by simp only [List.map_cons,List.map_nil]; decide +kernel) (by simp only [List.length_cons,List.length_nil]; decide)
theorem Zms (θ r:Sto) (x0 x1 x2 x3 x4 x5 x6 x7 x8 x9 x10 x11 x12 x13 x14 x15 x16 x17 x18 x19 x20 x21 x22 x23 y:D):zd ["End"] "tries" y (.ref θ.length) (θ++.ins "End" [("ours",x0),("theirs",x1),("state",x2),("error",x3),("first",x4),("una",x5),("nxt",x6),("rcv",x7),("wnd",x8),("told",x9),("told_by",x10),("most",x11),("written",x12),("come",x13),("early",x14),("early_fin",x15),("has_closed",x16),("behind",x17),("owed_reset",x18),("owes_syn",x19),("owes_answer",x20),("probes",x21),("since",x22),("wait",x23)]::r)=some (θ++.ins "End" [("ours",x0),("theirs",x1),("state",x2),("error",x3),("first",x4),("una",x5),("nxt",x6),("rcv",x7),("wnd",x8),("told",x9),("told_by",x10),("most",x11),("written",x12),("come",x13),("early",x14),("early_fin",x15),("has_closed",x16),("behind",x17),("owed_reset",x18),("owes_syn",x19),("owes_answer",x20),("probes",x21),("since",x22),("wait",x23),("tries",y)]::r):=Z2 θ r ce (by simp only [List.map_cons,List.map_nil]; decide +kernel) (by simp only [List.length_cons,List.length_nil]; decide)
theorem ZsY {a b c:Int} {act:Bool} (θ:Sto):Zck [.ref θ.length,.int a,.int b,.int c,.bl act] (θ++[.ins "End" []])=.ok .non (θ++cells θ.length (newEnd a b c act)):=by
  cases act with
  | true=>
    simp [Zck,Zeg,Zmz,ZpK,ZkQ,Zmt,Zmw,Zmv,Zsv,Zsx,Zsw,Zsu,ZpJ,Zil,ZpL,Zik,ZpM,Zmx,Zgv,ZfD,ZkT,ZfC,Zhj,Zfb,ZkR,Zmu,ZpI,Zms]
    rfl
  | false=>
    simp [Zck,Zeg,Zmz,ZpK,ZkQ,Zmt,Zmw,Zmv,Zsv,Zsx,Zsw,Zsu,ZpJ,Zil,ZpL,Zik,ZpM,Zmx,Zgv,ZfD,ZkT,ZfC,Zhj,Zfb,ZkR,Zmu,ZpI,Zms]
    rfl
theorem Zo8 {a b c:Int} {act:Bool} (θ:Sto):Zey [.int a,.int b,.int c,.bl act] θ=.ok (.ref θ.length) (θ++cells θ.length (newEnd a b c act)):=by
  simp [Zey,ZhI,mkG,ZsY]
theorem Zqx (e:Zt):cells 0 e=upE (cells 0 e) 0 e:=by
  simp [cells,upE]
end
end
end My
namespace L2
open PySem PySem.Spec PyProof.Rows
open AutoSeq1 (wpAny_loadPart')
theorem ZrW (tp:Addr) (its:Array Value) (k:Nat) (dct:Option Addr) (sl:Array (Option Value)) :
    Meets (Builtin.«enumerate.__new__» ⟨[.type "enumerate",.ref tp],[]⟩) (fun _ R s=>s.heap.get? tp=some { cls:=.type "tuple",dict:=dct,data:=.seq its k,slots:=sl }∧
      R (.ok (.ret (.ref (s.heap.push { cls:=.type "tuple_iterator",data:=.fields #[.ref tp,.int 0 0] }).objs.size)))
        { s with heap:=(s.heap.push { cls:=.type "tuple_iterator",data:=.fields #[.ref tp,.int 0 0] }).push { cls:=.type "enumerate",data:=.fields #[.none,.bool false,.ref s.heap.objs.size,rawInt 0,.none,.none] } }):=by
  refine .of_wp fun prog w A R s h=>?_
  obtain ⟨hp,g,d,tk,os⟩:=s
  obtain ⟨ht,h⟩:=h
  have hsub:=sub_enumerate
  have hT:Heap.IsTuple (Shared.heap ⟨hp,g,d,tk,os⟩) tp its:=⟨_,ht,rfl,k,rfl⟩
  wp_walk using wpAny_loadPart' ht
  refine wpAny_stack_any fun st=>?_
  refine wpAny_pure ?_
  split
  · rename_i c _ _ _ _ _
    cases (c == Value.type "enumerate")<;>(wp_walk using wpAny_loadPart' ht,wpAny_pyIter_tuple hT; exact ⟨_,rfl,h⟩)
  · wp_walk using wpAny_loadPart' ht,wpAny_pyIter_tuple hT; exact ⟨_,rfl,h⟩
section
variable {prog:Program} {w:World} {A:Around} {E:Value→Shared→Prop} {s:Shared}
theorem Zqz {tp:Addr} {its:Array Value} {Q:Value→Shared→Prop} (hT:s.heap.IsTuple tp its)
    (h:∀h',IsEnum h' (s.heap.objs.size+1) s.heap.objs.size 0 .none→h'.IsTupleIter s.heap.objs.size tp 0→h'.objs.size=s.heap.objs.size+2→(∀b o,s.heap.get? b=some o→h'.get? b=some o)→Q (.ref (s.heap.objs.size+1)) { s with heap:=h' }) :
    wpAny (model prog w) A (call (.type "enumerate") [.ref tp]) Q E s:=by
  obtain ⟨⟨c,dct,dt,sl⟩,ht,hc,k,hd⟩:=hT
  cases (show c=.type "tuple" from hc)
  cases (show dt=.seq its k from hd)
  refine callType_new F.called_enumerate (by decide) (F.typeCall_enumerate_1 _) (F.newCall_enumerate_1 _) (fun obj=>F.args_object_init_2 obj _) F.entry_enumerate_new (ZrW tp its k dct sl) ⟨ht,?_⟩
  have hz:(s.heap.push { cls:=.type "tuple_iterator",data:=.fields #[.ref tp,.int 0 0] }).objs.size=s.heap.objs.size+1:=Heap.size_push ..
  show _∧_
  rw [hz]
  have he:IsEnum ((s.heap.push { cls:=.type "tuple_iterator",data:=.fields #[.ref tp,.int 0 0] }).push { cls:=.type "enumerate",data:=.fields #[.none,.bool false,.ref s.heap.objs.size,rawInt 0,.none,.none] }) (s.heap.objs.size+1) s.heap.objs.size 0 .none:=by
    have q:=Heap.get?_push_size (s.heap.push { cls:=.type "tuple_iterator",data:=.fields #[.ref tp,.int 0 0] }) (o:={ cls:=.type "enumerate",data:=.fields #[.none,.bool false,.ref s.heap.objs.size,rawInt 0,.none,.none] }) rfl
    rw [hz] at q
    exact q
  exact ⟨⟨_,he,rfl⟩,h _ he ⟨_,Heap.get?_push_of_some _ (Heap.get?_push_size _ rfl),rfl,rfl⟩ (by rw [Heap.size_push,hz]) fun b o x=>Heap.get?_push_of_some _ (Heap.get?_push_of_some _ x)⟩
theorem ZlO {it tp:Addr} {i:Nat} {its} {x:Value} {Q:Value→Shared→Prop} (hit:s.heap.IsTupleIter it tp i) (ht:s.heap.IsTuple tp its) (hx:its[i]?=some x)
    (hQ:∀h',h'.IsTupleIter it tp (i+1)→Heap.SameBut it s.heap h'→Q x { s with heap:=h' }):wpAny (model prog w) A (Builtin.SmallTypes.nextOf (.ref it)) Q E s:=by
  obtain ⟨o,ho,hc,hd⟩:=id hit
  obtain ⟨ol,hol,_,nl,hdl⟩:=ht
  unfold Builtin.SmallTypes.nextOf
  refine wpAny_bind (wpAny_callSpecial?_slot (name:=Str.ofString "__next__") hit.typeIs F.slot_tuple_iterator_next (wpAny_call_entry F.slot_tuple_iterator_next hit.typeIs F.entry_tuple_iterator_next ?_ (F.args_tuple_iterator_next_1 _)))
  show wpAny _ _ (field (.ref it) 0 >>= _) _ _ s
  refine wpAny_bind (wpAny_field ho hd (x:=.ref tp) rfl ?_)
  rw [if_neg (show ¬((Value.ref tp == Value.none)=true) from Bool.false_ne_true)]
  refine wpAny_bind (wpAny_field ho hd (x:=.int i 0) rfl (wpAny_bind (wpAny_seqItems hol hdl ?_)))
  simp only [Int.toNat_natCast,hx]
  refine wpAny_bind (wpAny_setField ho hd (by simp) (wpAny_pure ⟨x,rfl,wpAny_pure (hQ _ ⟨_,Heap.get?_update_self _ ho (Obj.isFreed_of_fields (Obj.data_mapFields hd _)),(Obj.cls_mapFields ..).trans hc,?_⟩ (Heap.SameBut.update ..))⟩))
  rw [Obj.data_mapFields hd]
  simp [rawInt]
theorem Znj {it tp:Addr} {i:Nat} {its} {Q:Value→Shared→Prop} (hh:A.handled=none) (hit:s.heap.IsTupleIter it tp i) (ht:s.heap.IsTuple tp its) (hx:its[i]?=none)
    (hE:∀h' e,Heap.ExtBut it s.heap h'→(∃o,h'.get? e=some o∧o.cls=.type "StopIteration")→E (.ref e) { s with heap:=h' }):wpAny (model prog w) A (Builtin.SmallTypes.nextOf (.ref it)) Q E s:=by
  obtain ⟨o,ho,hc,hd⟩:=id hit
  obtain ⟨ol,hol,_,nl,hdl⟩:=ht
  unfold Builtin.SmallTypes.nextOf
  refine wpAny_bind (wpAny_callSpecial?_slot (name:=Str.ofString "__next__") hit.typeIs F.slot_tuple_iterator_next (wpAny_call_entry F.slot_tuple_iterator_next hit.typeIs F.entry_tuple_iterator_next ?_ (F.args_tuple_iterator_next_1 _)))
  show wpAny _ _ (field (.ref it) 0 >>= _) _ _ s
  refine wpAny_bind (wpAny_field ho hd (x:=.ref tp) rfl ?_)
  rw [if_neg (show ¬((Value.ref tp == Value.none)=true) from Bool.false_ne_true)]
  refine wpAny_bind (wpAny_field ho hd (x:=.int i 0) rfl (wpAny_bind (wpAny_seqItems hol hdl ?_)))
  simp only [Int.toNat_natCast,hx]
  refine wpAny_bind (wpAny_rule (wpAny_bind (wpAny_setField ho hd (by simp) ?_)))
  refine wpAny_bind (m:=newExc (.type "StopIteration") []) ?_
  simp only [newExc,newTuple]
  refine wpAny_bind (wpAny_newObj_type (wpAny_bind (m:=firstArgMember _ _) (wpAny_of_eq (a:=Value.none) (by first | rfl | (simp only [firstArgMember]; rfl)) (wpAny_newObj_type ?_ (by size_fits)))) (by size_fits))
  simp only [raiseNew]
  refine wpAny_bind (wpAny_handled ?_)
  rw [show A.in1.handled=none from hh]
  exact wpAny_bind (wpAny_pure (wpAny_throw (hE _ _ (((Heap.SameBut.update ..).extBut.push _).push _) ⟨_,Heap.get?_push_size _ rfl,rfl⟩)))
theorem Zqk {e it tp:Addr} {i:Nat} {its:Array Value} {x old:Value} {Q:Value→Shared→Prop} (he:IsEnum s.heap e it i old) (hit:s.heap.IsTupleIter it tp i) (ht:s.heap.IsTuple tp its) (hx:its[i]?=some x) (hne:e≠it)
    (hQ:∀h',IsEnumOut h' e it ((i:Int)+1) x s.heap.objs.size→h'.IsTupleIter it tp (i+1)→h'.get? s.heap.objs.size=some { cls:=.type "tuple",data:=.seq #[.int i s.toks,x] }→h'.objs.size=s.heap.objs.size+1→(∀b o,b≠e→b≠it→s.heap.get? b=some o→h'.get? b=some o)→Q (.ref s.heap.objs.size) { s with heap:=h',toks:=s.toks+1 }) :
    wpAny (model prog w) A (Builtin.«enumerate.__next__» ⟨[.ref e],[]⟩) (fun fin s'=>∃v,fin=.done (.ret v)∧Q v s') E s:=by
  obtain ⟨hp,g,d,tk,os⟩:=s
  show wpAny _ _ (field (.ref e) 2 >>= _) _ _ _
  refine wpAny_bind (wpAny_field he rfl (x:=.ref it) rfl (wpAny_bind (ZlO hit ht hx fun h1 hit1 hs1=>?_)))
  replace hs1:Heap.SameBut it hp h1:=hs1
  have he1:IsEnum h1 e it i old:=(hs1.2 e hne).trans he
  refine wpAny_bind (wpAny_field (s:=⟨h1,g,d,tk,os⟩) he1 rfl (x:=rawInt i) rfl ?_)
  refine wpAny_bind (wpAny_field (s:=⟨h1,g,d,tk,os⟩) he1 rfl (x:=.none) rfl ?_)
  show wpAny _ _ (mkInt i >>= _) _ _ ⟨h1,g,d,tk,os⟩
  refine wpAny_bind (wpAny_mkInt ?_)
  show wpAny _ _ (setField (.ref e) 3 (rawInt ((i:Int)+1)) >>= _) _ _ ⟨h1,g,d,tk+1,os⟩
  refine wpAny_bind (wpAny_setField_rec he1 (by simp) fun h2 he2 hs2=>?_)
  replace hs2:Heap.SameBut e h1 h2:=hs2
  replace he2:IsEnum h2 e it ((i:Int)+1) old:=he2
  show wpAny _ _ (setField (.ref e) 4 .none >>= _) _ _ ⟨h2,g,d,tk+1,os⟩
  refine wpAny_bind (wpAny_setField_rec he2 (by simp) fun h3 he3 hs3=>?_)
  replace hs3:Heap.SameBut e h2 h3:=hs3
  replace he3:IsEnum h3 e it ((i:Int)+1) old:=he3
  show wpAny _ _ (newTuple [.int i tk,x] >>= _) _ _ ⟨h3,g,d,tk+1,os⟩
  refine wpAny_bind (wpAny_newTuple ?_)
  have he4:IsEnum (h3.push { cls:=.type "tuple",data:=.seq #[.int i tk,x] }) e it ((i:Int)+1) old:=Heap.get?_push_of_some _ he3
  obtain ⟨h4,hh4⟩:∃z,z=h3.push { cls:=.type "tuple",data:=.seq #[.int i tk,x] }:=⟨_,rfl⟩
  rw [←hh4] at he4
  have hsz:h3.objs.size=hp.objs.size:=by rw [hs3.1,hs2.1,hs1.1]
  have hel:hp.objs.size≠e:=Nat.ne_of_gt (Heap.lt_size he)
  have ht4:h4.get? hp.objs.size=some { cls:=.type "tuple",data:=.seq #[.int i tk,x] }:=by rw [hh4,←hsz]; exact Heap.get?_push_size _ rfl
  have hz4:h4.objs.size=hp.objs.size+1:=by rw [hh4,Heap.size_push,hsz]
  have hk4:∀b o,b≠e→b≠it→hp.get? b=some o→h4.get? b=some o:=fun b o q1 q2 q3=>by
    rw [hh4]
    exact Heap.get?_push_of_some _ (hs3.extBut b o q1 (hs2.extBut b o q1 (hs1.extBut b o q2 q3)))
  have hit4:h4.IsTupleIter it tp (i+1):=by
    obtain ⟨o,ho,r⟩:=(hit1.extBut hs2.extBut (Ne.symm hne)).extBut hs3.extBut (Ne.symm hne)
    exact ⟨o,by rw [hh4]; exact Heap.get?_push_of_some _ ho,r⟩
  show wpAny _ _ (Builtin.SmallTypes.ownedTupleIsFree (.ref e) >>= _) _ _ ⟨h3.push { cls:=.type "tuple",data:=.seq #[.int i tk,x] },g,d,tk+1,os⟩
  rw [←hh4,hsz]
  refine wpAny_bind ?_
  unfold Builtin.SmallTypes.ownedTupleIsFree
  refine wpAny_bind (wpAny_field he4 rfl (x:=.none) rfl (wpAny_pure ?_))
  simp only [if_true]
  refine wpAny_bind (wpAny_rule (wpAny_bind (wpAny_field he4 rfl (x:=old) rfl (wpAny_bind (wpAny_setField_rec he4 (by simp) fun h5 he5 hs5=>?_)))))
  replace hs5:Heap.SameBut e h4 h5:=hs5
  replace he5:IsEnum h5 e it ((i:Int)+1) x:=he5
  refine wpAny_bind (m:=Builtin.SmallTypes.ownedTupleHandOut (.ref e) (.ref hp.objs.size)) ?_
  unfold Builtin.SmallTypes.ownedTupleHandOut
  refine wpAny_bind (wpAny_setField_rec he5 (by simp) fun h6 he6 hs6=>?_)
  replace hs6:Heap.SameBut e h5 h6:=hs6
  replace he6:IsEnumOut h6 e it ((i:Int)+1) x hp.objs.size:=he6
  refine wpAny_setField_rec he6 (by simp) fun h7 he7 hs7=>?_
  replace hs7:Heap.SameBut e h6 h7:=hs7
  replace he7:IsEnumOut h7 e it ((i:Int)+1) x hp.objs.size:=he7
  have up:∀b o,b≠e→h4.get? b=some o→h7.get? b=some o:=fun b o q1 q2=>hs7.extBut b o q1 (hs6.extBut b o q1 (hs5.extBut b o q1 q2))
  refine wpAny_bind (wpAny_letGo (wpAny_pure ⟨_,rfl,hQ h7 he7 ?_ (up _ _ hel ht4) (by rw [hs7.1,hs6.1,hs5.1,hz4]) fun b o q1 q2 q3=>up b o q1 (hk4 b o q1 q2 q3)⟩))
  obtain ⟨o,ho,r⟩:=hit4
  exact ⟨o,up _ _ (Ne.symm hne) ho,r⟩
theorem Zql {e it tp:Addr} {i:Nat} {its:Array Value} {x old:Value} {Q:Option Value→Shared→Prop} (he:IsEnum s.heap e it i old) (hit:s.heap.IsTupleIter it tp i) (ht:s.heap.IsTuple tp its) (hx:its[i]?=some x) (hne:e≠it)
    (hQ:∀h',IsEnumOut h' e it ((i:Int)+1) x s.heap.objs.size→h'.IsTupleIter it tp (i+1)→h'.get? s.heap.objs.size=some { cls:=.type "tuple",data:=.seq #[.int i s.toks,x] }→h'.objs.size=s.heap.objs.size+1→(∀b o,b≠e→b≠it→s.heap.get? b=some o→h'.get? b=some o)→Q (some (.ref s.heap.objs.size)) { s with heap:=h',toks:=s.toks+1 }) :
    wpAny (model prog w) A (pyNext (.ref e)) Q E s:=by
  have hT:s.TypeIs (.ref e) "enumerate":=⟨_,he,rfl⟩
  unfold pyNext
  exact wpAny_bind (wpAny_attempt (wpAny_callSpecial?_slot (name:=Str.ofString "__next__") hT F.slot_enumerate_next (wpAny_call_entry F.slot_enumerate_next hT F.entry_enumerate_next (Zqk he hit ht hx hne fun h' a b c d k=>wpAny_pure (hQ h' a b c d k)) (F.args_enumerate_next_1 _))))
theorem ZrX {e it tp:Addr} {i:Nat} {its:Array Value} {old:Value} {Q:Option Value→Shared→Prop} (hh:A.handled=none) (he:IsEnum s.heap e it i old) (hit:s.heap.IsTupleIter it tp i) (ht:s.heap.IsTuple tp its) (hx:its[i]?=none)
    (hQ:∀h',Heap.ExtBut it s.heap h'→Q none { s with heap:=h' }):wpAny (model prog w) A (pyNext (.ref e)) Q E s:=by
  have hT:s.TypeIs (.ref e) "enumerate":=⟨_,he,rfl⟩
  unfold pyNext
  refine wpAny_bind (wpAny_attempt (wpAny_callSpecial?_slot (name:=Str.ofString "__next__") hT F.slot_enumerate_next (wpAny_call_entry F.slot_enumerate_next hT F.entry_enumerate_next ?_ (F.args_enumerate_next_1 _))))
  show wpAny _ _ (field (.ref e) 2 >>= _) _ _ _
  refine wpAny_bind (wpAny_field he rfl (x:=.ref it) rfl (wpAny_bind (Znj hh hit ht hx fun h' x he' hx'=>?_)))
  obtain ⟨o,ho,hc⟩:=hx'
  exact wpAny_bind (wpAny_isInstance (T:="StopIteration") (b:=true) ⟨o,ho,hc⟩ isSubtype_stop (wpAny_pure (hQ _ he')))
def Ite (K:PySem.W.Frag) (a:Addr):It:=
  ⟨fun i H=>∃xs x,SqT K H a xs∧xs[i]?=some x,fun i H x H'=>∃p v,x=.ref p∧H p=none∧H'=upd H p (.tup [.int i,v])∧∀xs,SqT K H a xs→xs[i]?=some v,fun i H=>∃xs,SqT K H a xs∧xs.length≤i⟩
theorem Zo5 {P:Program} {w:World} {K:PySem.W.Frag} {es:List Expr} {x1} {pos:Pos} (a e it:Addr) (hne:e≠it) (ha:a≠e) (hb:a≠it):ZnF P w K (.Tuple es x1 pos) (Ite K a) [e,it] e (fun i h=>(∃old,IsEnum h e it i old)∧h.IsTupleIter it a i) where
  mem:=by simp
  obj:=fun i h st b hb=>by
    obtain ⟨⟨old,st1⟩,o,e1,c,d⟩:=st
    have q:b=e∨b=it:=by simpa using hb
    rcases q with rfl | rfl
    · exact ⟨_,st1,fun v z=>by
        have z':Data.fields _=Data.cell v:=z
        cases z'⟩
    · exact ⟨o,e1,fun v z=>by rw [d] at z; cases z⟩
  keep:=fun i h h' st k=>by
    obtain ⟨⟨old,st1⟩,o,e1,r⟩:=st
    exact ⟨⟨old,k e (by simp) _ st1⟩,o,k it (by simp) o e1,r⟩
  item:=by
    intro X hP hw hK hc i pins s σ H E I hf st hg
    subst hP hw hK
    obtain ⟨⟨old,st1⟩,st2⟩:=st
    obtain ⟨xs,x,hq,hx⟩:=hg
    obtain ⟨its,rv,p,hz⟩:=I.tuple hq
    obtain ⟨u,hu,ru⟩:=rv.get hx
    obtain ⟨f0,f1,f2,f3,f4,f5⟩:=hf e (by simp)
    obtain ⟨g0,g1,g2,g3,g4,g5⟩:=hf it (by simp)
    refine Zql st1 st2 (show s.heap.IsTuple a its.toArray from p) (x:=u) (by simpa using hu) hne fun h' out it' tp' sz' kk=>?_
    have hes:e<s.heap.objs.size:=Heap.lt_size st1
    have his:it<s.heap.objs.size:=by obtain ⟨o,q,_⟩:=st2; exact Heap.lt_size q
    refine ⟨_,rfl,wpAny_letOwnedTupleGo_enum out fun h2 e2 s2=>?_⟩
    replace s2:Heap.SameBut e h' h2:=s2
    have tp2:h2.get? s.heap.objs.size=some { cls:=.type "tuple",data:=.seq #[.int i s.toks,u] }:=s2.extBut _ _ (Nat.ne_of_gt hes) tp'
    have k2:∀b o,b≠e→b≠it→s.heap.get? b=some o→h2.get? b=some o:=fun b o q1 q2 q3=>s2.extBut b o q1 (kk b o q1 q2 q3)
    have hn:H s.heap.objs.size=none:=I.hok.fresh (Nat.le_refl _)
    have nn:∀{b:Addr} {o:HO},H b=some o→b≠s.heap.objs.size:=fun q=>zl q hn
    have nch:∀{b:Addr},b∉[e,it]→b≠e∧b≠it:=fun hb=>⟨fun z=>hb (by simp [z]),fun z=>hb (by simp [z])⟩
    have new:ObjOk X.prog X.w (upd H s.heap.objs.size (.tup [.int i,x])) h2 s.heap.objs.size (.tup [.int i,x]):=⟨by show 2≤sizeLine; decide,[.int i s.toks,u],.cons ⟨_,rfl⟩ (.cons ru .nil),⟨_,tp2,rfl,_,rfl⟩⟩
    have I1:Inv X pins σ (upd H s.heap.objs.size (.tup [.int i,x])) { s with heap:=h2,toks:=s.toks+1 }:=by
      refine I.step (g':=s.gens) (d':=s.drawn) (ch:=[e,it]) (fun b hb=>?_) (fun b o _ _ hc e' _=>k2 b o (nch hc).1 (nch hc).2 e') (fun b o _ _ hc e' _=>⟨o.slots,k2 b o (nch hc).1 (nch hc).2 e'⟩) (fun b o _ e' n=>by rw [ZQ (Nat.ne_of_lt (Heap.lt_size e'))]; exact n)
        (fun b o hc e'=>⟨o,k2 b o (nch hc).1 (nch hc).2 e'⟩) (fun b _ q=>by rw [ZQ (nn q)]; exact q) (fun b _ _ q=>by rw [ZQ (nn q)]; exact q) (fun b ps q=>⟨#[],by rw [ZQ (nn q),q]; simp⟩) (fun m hm=>?_) (fun b v q=>?_) I.bare
      · have z:b=e∨b=it:=by simpa using hb
        rcases z with rfl | rfl
        · exact ⟨f3,f1,f4,f5⟩
        · exact ⟨g3,g1,g4,g5⟩
      · obtain ⟨o,es,ep,ho,r⟩:=hm
        exact ⟨o,es,ep,k2 _ o (Ne.symm f1) (Ne.symm g1) ho,r⟩
      · by_cases hb:b=s.heap.objs.size
        · subst hb; rw [zF] at q; cases q; exact new
        · rw [ZQ hb] at q
          refine (I.hok b v q).stay (fun c o hc z=>k2 c o ?_ ?_ z) (fun c z=>by rw [ZQ (nn z)]; exact z) fun c _ z=>by rw [ZQ (nn z)]; exact z
          · rcases hc with z | z
            · rw [z]; exact fun y=>by rw [y,f0] at q; cases q
            · exact fun y=>by rw [y,f0] at z; cases z
          · rcases hc with z | z
            · rw [z]; exact fun y=>by rw [y,g0] at q; cases q
            · exact fun y=>by rw [y,g0] at z; cases z
    refine ⟨.ref s.heap.objs.size,_,I1,rfl,⟨_,x,rfl,hn,rfl,fun ys hy=>by rw [I.tuple_inj hy hq]; exact hx⟩,⟨⟨_,by simpa using e2⟩,?_⟩,fun b hb=>?_⟩
    · obtain ⟨o,q,r⟩:=it'
      exact ⟨o,s2.extBut _ _ (Ne.symm hne) q,r⟩
    · have z:b=e∨b=it:=by simpa using hb
      rcases z with rfl | rfl
      · rw [ZQ (Nat.ne_of_lt hes)]; exact f0
      · rw [ZQ (Nat.ne_of_lt his)]; exact g0
  done:=by
    intro X hP hw hK hc i pins s σ H E I hf st hg
    subst hP hw hK
    obtain ⟨⟨old,st1⟩,st2⟩:=st
    obtain ⟨xs,hq,hx⟩:=hg
    obtain ⟨its,rv,p,hz⟩:=I.tuple hq
    obtain ⟨f0,f1,f2,f3,f4,f5⟩:=hf it (by simp)
    have hl:=rv.length
    exact ZrX (I.ok.hd hc) st1 st2 (show s.heap.IsTuple a its.toArray from p) (by simp; omega) fun h' eb=>⟨rfl,I.turned (t':=s.toks) (fun b o hb e=>eb b o hb e) f0 f1 f3 f4 f5⟩
  self:=fun _ _ _ _ _ st h=>by
    obtain ⟨⟨old,st1⟩,_⟩:=st
    exact wpAny_pyIter_enum st1 h
end
end L2
namespace L2
open PySem PySem.Spec PyProof.Rows
section
variable {X:Cx}
def ZyT (K:PySem.W.Frag) (ta:TA):TI:=fun σ H R=>ta σ H fun vs H1=>∃a,vs=[.ref a]∧(∃xs,SqT K H1 a xs)∧R (Ite K a) H1
theorem Ztr {l:Expr} {ta:TA} {es:List Expr} {x1} {p pos tp:Pos} (hg:Gl X "enumerate") (hm:X.mg "enumerate"=none) (ha:PA X [l] ta) (hs:starEach [l] X.env=[(false,eval l X.env)]:=by rfl):PI X (.Tuple es x1 tp) (.Call (.Name "enumerate" p) [l] [] pos) (ZyT X.K ta):=by
  intro pins s σ H R I h
  refine Call_ (Zhs I hg hm boot_enumerate (PyProof.Rows.callWith_type1 (thn (ha pos pins s σ H _ I h) fun us s1 ⟨vs,H1,I1,r1,q1⟩=>?_) hs rfl))
  obtain ⟨a,e,⟨xs,hq⟩,q⟩:=q1
  subst e
  obtain ⟨u,rfl,ru⟩:=Zfs r1
  cases ru
  obtain ⟨its,rv,t1,hz⟩:=I1.tuple hq
  have T1:s1.heap.IsTuple a its.toArray:=t1
  have al:a<s1.heap.objs.size:=by obtain ⟨o,z,_⟩:=T1; exact Heap.lt_size z
  refine Zqz T1 fun h' e' i' z' k'=>wpAny_pyIter_enum (s:={ s1 with heap:=h' }) e' ?_
  have I2:Inv X pins σ H1 { s1 with heap:=h' }:=I1.kept (t':=s1.toks) k'
  refine ⟨s1.heap.objs.size+1,[s1.heap.objs.size+1,s1.heap.objs.size],_,_,H1,rfl,I2,Zo5 a _ _ (Nat.succ_ne_self _) (Nat.ne_of_lt (Nat.lt_succ_of_lt al)) (Nat.ne_of_lt al),⟨⟨_,e'⟩,i'⟩,fun b hb=>?_,q⟩
  have z:b=s1.heap.objs.size+1∨b=s1.heap.objs.size:=by simpa using hb
  have hb':s1.heap.objs.size≤b:=z.elim (fun y=>by rw [y]; exact Nat.le_succ _) fun y=>by rw [y]; exact Nat.le_refl _
  exact I1.fpOk hb' (I1.hok.fresh hb')
end
end L2
namespace L2.MM
open PySem PySem.Spec PyProof.Rows
section
variable {X:Cx}
def forE (i j:Nat) (body:SM):Nat→List D→SM
  | _,[]=>fun ρ θ=>.ok (.nx,ρ) θ
  | k,x::r=>fun ρ θ=>(body ((ρ.set i (.val (.int (k:Nat)))).set j (.val x)) θ).bind (Zfc (forE i j body (k+1) r))
def Zp2 (fa:AM) (i j:Nat) (body:SM):SM:=fun ρ θ=>(fa ρ θ).bind fun ds θ=>match ds with
  | [.tup xs]=>forE i j body 0 xs ρ θ
  | _=>.bad
theorem ZrD {l:Expr} {body:List Stmt} {fa:AM} {fb:SM} {x y:Str} {x1} {p p1 p2 tp cp pos:Pos} (i j:Nat) (hN:X.N.Nodup) (hp:PassesOwn (model X.prog X.w) X.A X.env X.xe) (hm:X.mg "enumerate"=none) (ha:MA X [l] fa) (hb:MSs X body fb) (hc:X.calm=true:=by rfl)
    (hg:Gl X "enumerate":=by rfl) (hs:starEach [l] X.env=[(false,eval l X.env)]:=by rfl)
    (hi:X.N[i]?=some x:=by rfl) (hx:Loc X.env.scope x:=by first | exact Or.inl rfl | exact Or.inr rfl) (hf:X.fn x=true∨X.env.scope.names.lookup x=some .local:=by first | exact .inl rfl | exact .inr rfl)
    (hj:X.N[j]?=some y:=by rfl) (hy:Loc X.env.scope y:=by first | exact Or.inl rfl | exact Or.inr rfl) (hf':X.fn y=true∨X.env.scope.names.lookup y=some .local:=by first | exact .inl rfl | exact .inr rfl)
    (hse:∀z,foldedSetIterable (.Call (.Name "enumerate" p) [l] [] cp) X.env z=pure z:=by intro _; rfl)
    (ha1:(assignEach [.Name x p1,.Name y p2] X.env).map (·.2)=assign (.Name x p1) X.env::(assignEach [.Name y p2] X.env).map (·.2):=by rfl) (ha2:(assignEach [.Name y p2] X.env).map (·.2)=assign (.Name y p2) X.env::(assignEach [] X.env).map (·.2):=by rfl)
    (hn:(assignEach [.Name x p1,.Name y p2] X.env).length=2:=by rfl) (hst:(assignEach [.Name x p1,.Name y p2] X.env).findIdx? (·.1)=none:=by rfl) :
    MS X (.For (.Tuple [.Name x p1,.Name y p2] x1 tp) (.Call (.Name "enumerate" p) [l] [] cp) body [] pos) (Zp2 fa i j fb):=
  PS.imp (Zpp hp hc (Ztr hg hm ha hs) (Zts hc (ZkN (Zfz hN hi hx hf) (ZkN (Zfz hN hj hy hf') Zrq ha2) ha1) hn hst) hb hse) fun Dn σ H h=>by
  obtain ⟨B,θ,ρ,F,w⟩:=h
  refine ZbZ (Zpf F w) ?_
  rintro vs H1 ⟨B1,θ1,ds,E1,F1,rd,w1⟩
  split at w1
  · rename_i xs
    obtain ⟨v,rfl,rv⟩:=rd.one
    obtain ⟨a,us,rfl,g1,okA,ru⟩:=rv
    refine ⟨a,rfl,⟨us,SqT.of g1⟩,fun k m σ H=>∃B θ ρ,Frm X.cl B θ ρ σ H∧RepV B H (.tup xs) (.ref a)∧m=xs.length-k∧k≤xs.length∧wpS X σ B H (forE i j fb k (xs.drop k) ρ θ) Dn,⟨xs.length,B1,θ1,ρ,F1,⟨a,us,rfl,g1,okA,ru⟩,rfl,Nat.zero_le _,w1⟩,?_⟩
    rintro k m σ2 H2 ⟨B2,θ2,ρ2,F2,rv2,rfl,hk,w2⟩
    obtain ⟨a',us2,e2,g2,ok2,ru2⟩:=id rv2
    cases e2
    by_cases hlt:k<xs.length
    · rw [List.drop_eq_getElem_cons hlt] at w2
      unfold forE at w2
      obtain ⟨v,q1,q2⟩:=ru2.get (List.getElem?_eq_getElem hlt)
      refine .inr ⟨⟨us2,v,SqT.of g2,q1⟩,fun σ' H'=>∃B' θ' ρ',ExtS B2 B' H2 H'∧Frm X.cl B' θ' ρ' σ' H'∧wpS X σ' B' H' (forE i j fb (k+1) (xs.drop (k+1)) ρ' θ') Dn,?_,fun z H' hz=>?_⟩
      · rintro σ' H' ⟨B',θ',ρ',E',F',w'⟩
        exact ⟨xs.length-(k+1),by omega,B',θ',ρ',F',rv2.ext E',rfl,hlt,w'⟩
      · obtain ⟨t,v',rfl,ht,rfl,hv⟩:=hz
        have:=hv us2 (SqT.of g2)
        rw [q1] at this
        cases this
        have E3:=ZcP F2.good ht (.tup [.int k,v])
        have F3:=F2.ext E3 (ZeH F2.good ht (.tup [.int k,v]))
        refine ⟨t,[.int k,v],rfl,SqT.of zF,rfl,.int k,[v],rfl,v,[],rfl,rfl,?_⟩
        have F4:=(F3.set i (d:=.int (k:Nat)) (v:=.int k) rfl).set j (q2.ext E3.toExtS)
        refine ⟨B2,θ2,_,F4,?_⟩
        exact wpS.trans (wpS.loop w2) E3.toExtS
    · have e:k=xs.length:=by omega
      subst e
      rw [List.drop_length] at w2
      unfold forE at w2
      exact .inl ⟨⟨us2,SqT.of g2,by rw [ru2.len]; exact Nat.le_refl _⟩,ZdS F2 w2⟩
  · exact w1.elim
end
end L2.MM
namespace L2
open PySem PySem.Spec PyProof.Rows
section
variable {X:Cx} {pins:List (Addr×Obj)} {σ:St} {H:Hp} {s:Shared} {a:Addr} {kvs:List (Key×V)} {k:Key} {z:V} {u r:Value} {A:Around} {E:Value→Shared→Prop}
theorem ZtW {Q:Value→Shared→Prop} (I:Inv X pins σ H s) (e:H a=some (.dK kvs)) (ry:RelV (kV k) u) (rz:RelV z r) (hl:kvs.length<sizeLine)
    (h1:∀v w' s',valV kvs k=some v→Inv X pins σ H s'→RelV v w'→Q w' s') (h2:valV kvs k=none→∀s',Inv X pins σ (upd H a (.dK (Zeu kvs k z))) s'→Q r s'):wpAny (model X.prog X.w) A (call (.builtin "dict.setdefault") [.ref a,u,r]) Q E s:=by
  obtain ⟨z1,hd,vs,rel,dd⟩:=Zqr I.hok e
  have hv:vs.length≤sizeLine:=by rw [←rel.length]; exact z1
  refine call_meetsIn PySem.F.slot_dict_setdefault dd.typeIs PySem.F.entry_dict_setdefault (PySem.F.args_dict_setdefault_3 _ _ _) (kt_meets_setdefault (ZaJ X.prog X.w) a (Zk5 ry) hd r) ⟨vs,dd,hv,fun v q=>?_,fun q h' dd' hs=>?_⟩
  · cases l:valV kvs k with
    | none=>
      have:valueAt vs k=none:=RelO.none_of (by rw [←l]; exact rel.val k)
      rw [this] at q
      cases q
    | some v0=>
      obtain ⟨w1,hw,r1⟩:=RelO.some_of (v:=v0) (o:=valueAt vs k) (by rw [←l]; exact rel.val k)
      have z2:w1=v:=by rw [hw] at q; injection q
      subst z2
      exact h1 v0 w1 _ l (I.tok _) r1
  · have l:valV kvs k=none:=by
      cases l:valV kvs k with
      | none=>rfl
      | some v0=>
        obtain ⟨w',hw,rw'⟩:=RelO.some_of (v:=v0) (o:=valueAt vs k) (by rw [←l]; exact rel.val k)
        rw [hw] at q
        cases q
    have hl2:(Zeu kvs k z).length≤sizeLine:=by have:=Zk2 kvs k z; omega
    have he:∃q,h'.get? a=some q:=let ⟨q,_,_,hq,_⟩:=dd'; ⟨q,hq⟩
    exact h2 l _ (Zi6 I (by rw [e]; exact True.intro) hs he (Zl2 hl2 hd (rel.put k rz) dd'))
end
def Zs7 (td ty tx:TE):TE:=fun σ H Q=>td σ H fun x H1=>∃a,x=.ref a∧IsD H1 a∧ty σ H1 fun y H2=>tx σ H2 fun z H3=>∃kvs k,H3 a=some (.dK kvs)∧y=kV k∧kvs.length<sizeLine∧
  (∀v,valV kvs k=some v→Q v H3)∧(valV kvs k=none→Q z (upd H3 a (.dK (Zeu kvs k z))))
theorem Zpy {X:Cx} {o e f:Expr} {apos cpos:Pos} {td ty tx:TE} (ho:PE X o td) (he:PE X e ty) (hf:PE X f tx) (m:M2 X o "setdefault" apos e f cpos):PE X (.Call (.Attribute o "setdefault" apos) [e,f] [] cpos) (Zs7 td ty tx):=by
  intro pins s σ H Q I h
  refine wpAny_Call_method m.base m.few m.line PySem.F.plainAttrs_dict PySem.F.slot_dict_setdefault PySem.F.type_dict_setdefault (thn (ho pins s σ H _ I h) fun u s1 ⟨x,H1,I1,rx,a,ex,d,q1⟩=>?_)
  subst ex
  cases (show u=Value.ref a from rx)
  obtain ⟨t1,t2,_⟩:=Zp7 I1 d
  refine ⟨t1,t2,?_⟩
  rw [m.trees]
  refine Calls.callWith_builtin rfl (Calls.evalArgs_plain (Calls.spliced_cons (thn (he pins s1 σ H1 _ I1 q1) fun iv s2 ⟨y,H2,I2,ry,q2⟩=>Calls.spliced_cons (thn (hf pins s2 σ H2 _ I2 q2) fun fv s3 ⟨z,H3,I3,rz,kvs,k,ea,ey,hl,q3,q4⟩=>Calls.spliced_nil ?_))))
  subst ey
  exact ZtW I3 ea ry rz hl (fun v w' s4 l I4 rw'=>⟨v,H3,I4,rw',q3 v l⟩) fun l s4 I4=>⟨z,_,I4,rz,q4 l⟩
end L2
namespace L2.MM
open PySem PySem.Spec PyProof.Rows
def valD (kvs:List (Key×D)) (k:Key):Option D:=(kvs.find? fun kv=>decide (kv.1=k)).map (·.2)
def putD (kvs:List (Key×D)) (k:Key) (v:D):List (Key×D):=
  if (kvs.any fun kv=>decide (kv.1=k))=true then kvs.map (fun kv=>if kv.1=k then (kv.1,v) else kv) else kvs++[(k,v)]
def dropD (kvs:List (Key×D)) (k:Key):List (Key×D):=kvs.filter fun kv=>decide (kv.1≠k)
def Zk4:D→Option Key
  | .int n=>some (.inl n)
  | .str x=>some (.inr x)
  | _=>none
def Zgm (θ:Sto):D→Option (Nat×List (Key×D))
  | .ref l=>match θ[l]? with
    | some (.dK kvs)=>some (l,kvs)
    | _=>none
  | _=>none
section
variable {B:Bx} {H:Hp}
theorem RepKV.valD (k:Key):∀{ks:List (Key×D)} {vs:List (Key×V)},RepKV B H ks vs→(L2.MM.valD ks k=Option.none∧valV vs k=Option.none)∨∃d v,L2.MM.valD ks k=some d∧valV vs k=some v∧RepV B H d v
  | _,_,.nil=>.inl ⟨rfl,rfl⟩
  | (k1,d1)::ks,(k2,v2)::vs,.cons ⟨h1,h2⟩ t=>by
    cases (show k1=k2 from h1)
    by_cases e:k1=k
    · refine .inr ⟨d1,v2,?_,?_,h2⟩<;>simp [L2.MM.valD,valV,List.find?_cons,e]
    · have:=RepKV.valD k t
      simpa [L2.MM.valD,valV,List.find?_cons,e] using this
theorem RepKV.any (k:Key):∀{ks:List (Key×D)} {vs:List (Key×V)},RepKV B H ks vs→(ks.any fun kv=>decide (kv.1=k))=(vs.any fun kv=>decide (kv.1=k))
  | _,_,.nil=>rfl
  | (k1,d1)::ks,(k2,v2)::vs,.cons ⟨h1,h2⟩ t=>by
    cases (show k1=k2 from h1)
    rw [List.any_cons,List.any_cons,RepKV.any k t]
theorem RepKV.snoc {k:Key} {d:D} {v:V} (r:RepV B H d v):∀{ks:List (Key×D)} {vs:List (Key×V)},RepKV B H ks vs→RepKV B H (ks++[(k,d)]) (vs++[(k,v)])
  | _,_,.nil=>.cons ⟨rfl,r⟩ .nil
  | _,_,.cons h t=>.cons h (RepKV.snoc r t)
theorem RepKV.over {k:Key} {d:D} {v:V} (r:RepV B H d v):∀{ks:List (Key×D)} {vs:List (Key×V)},RepKV B H ks vs→RepKV B H (ks.map fun kv=>if kv.1=k then (kv.1,d) else kv) (vs.map fun kv=>if kv.1=k then (kv.1,v) else kv)
  | _,_,.nil=>.nil
  | (k1,d1)::ks,(k2,v2)::vs,.cons ⟨h1,h2⟩ t=>by
    cases (show k1=k2 from h1)
    rw [List.map_cons,List.map_cons]
    refine .cons ?_ (RepKV.over r t)
    by_cases e:k1=k
    · rw [if_pos (show (k1,d1).1=k from e),if_pos (show (k1,v2).1=k from e)]; exact ⟨rfl,r⟩
    · rw [if_neg (show ¬(k1,d1).1=k from e),if_neg (show ¬(k1,v2).1=k from e)]; exact ⟨rfl,h2⟩
theorem RepKV.putD {k:Key} {d:D} {v:V} (r:RepV B H d v) {ks:List (Key×D)} {vs:List (Key×V)} (h:RepKV B H ks vs):RepKV B H (L2.MM.putD ks k d) (Zeu vs k v):=by
  unfold L2.MM.putD Zeu
  rw [h.any k]
  split
  · exact h.over r
  · exact h.snoc r
theorem RepKV.dropD (k:Key):∀{ks:List (Key×D)} {vs:List (Key×V)},RepKV B H ks vs→RepKV B H (L2.MM.dropD ks k) (Zfe vs k)
  | _,_,.nil=>.nil
  | (k1,d1)::ks,(k2,v2)::vs,.cons ⟨h1,h2⟩ t=>by
    cases (show k1=k2 from h1)
    have ih:=RepKV.dropD k t
    unfold L2.MM.dropD Zfe at ih ⊢
    by_cases e:k1=k
    · rw [List.filter_cons_of_neg (by simpa using e),List.filter_cons_of_neg (by simpa using e)]; exact ih
    · rw [List.filter_cons_of_pos (by simpa using e),List.filter_cons_of_pos (by simpa using e)]; exact .cons ⟨rfl,h2⟩ ih
theorem keyD_rep {d:D} {v:V} {k:Key} (r:RepV B H d v) (h:Zk4 d=some k):v=kV k:=by
  cases d with
  | int n=>cases h; exact r
  | str x=>cases h; exact r
  | _=>cases h
theorem ZfR {cl:Mo} {θ:Sto} (G:Good cl B θ H) {d:D} {v:V} {l:Nat} {kvs:List (Key×D)} (r:RepV B H d v) (h:Zgm θ d=some (l,kvs)):l<B.n∧v=.ref (B.m l)∧∃vs,H (B.m l)=some (.dK vs)∧RepKV B H kvs vs:=by
  cases d with
  | ref k=>
    simp only [Zgm] at h
    split at h
    · rename_i kvs' e
      cases h
      obtain ⟨hl,rfl⟩:=r
      obtain ⟨vs,h1,h2⟩:=G.cel _ _ e
      exact ⟨hl,rfl,vs,h1,h2⟩
    · cases h
  | _=>cases h
end
section
variable {X:Cx}
theorem ZsM {k:Nat} {A:Around} (hr:Room k A):A.units+1<cLine:=by have:=hr.un; omega
def Zp3 (fi fo:EM):EM:=fun ρ θ=>(fi ρ θ).bind fun y θ=>(fo ρ θ).bind fun d θ=>match Zk4 y,Zgm θ d with
  | some k,some (_,kvs)=>.ok (.bl (valD kvs k).isSome) θ
  | _,_=>.bad
theorem ZrY {fi fo:EM} (σ:St) (H:Hp) (Q:VK) (h:tM X (Zp3 fi fo) σ H Q):ZuO (tM X fi) (tM X fo) σ H Q:=by
  obtain ⟨B,θ,ρ,F,w⟩:=h
  refine Z9 (step F w) ?_
  rintro y H1 ⟨B1,θ1,dy,E1,F1,ry,w1⟩
  refine Z9 (step F1 w1) ?_
  rintro v H2 ⟨B2,θ2,d,E2,F2,rd,w2⟩
  split at w2
  · rename_i k l kvs ek ed
    obtain ⟨hl,rfl,vs,h1,h2⟩:=ZfR F2.good rd ed
    cases keyD_rep ry ek
    refine ⟨_,valV vs k,rfl,DGet.k h1,?_⟩
    have e:(valD kvs k).isSome=(valV vs k).isSome:=by
      rcases h2.valD k with ⟨q1,q2⟩ | ⟨d,v,q1,q2,_⟩<;>(rw [q1,q2]; rfl)
    rw [←e]
    exact ZO (Rel:=RepV) F2.good (show RepV B2 H2 (.bl (valD kvs k).isSome) (.bl (valD kvs k).isSome) from rfl) w2
  · exact w2.elim
theorem ZtK {i o:Expr} {fi fo:EM} {pos:Pos} {k:Nat} (hr:Room k X.A) (hi:ME X i fi) (ho:ME X o fo) (hm:behindInMarks .In o=false:=by rfl):MT X (.Compare i [.In] [o] pos) (ZG (Zp3 fi fo)):=by
  refine PT.imp (Ztm (Ztz (ZsM hr) hi ho) hm) fun σ H Q h=>?_
  exact ZrY σ H _ (Zhb σ H Q h)
def ZmC (fo fe:EM):EM:=fun ρ θ=>(fo ρ θ).bind fun d θ=>match Zgm θ d with
  | none=>.bad
  | some _=>(fe ρ θ).bind fun y θ=>match Zk4 y,Zgm θ d with
    | some k,some (l,kvs)=>match valD kvs k with
      | some v=>.ok v (θ.set l (.dK (dropD kvs k)))
      | none=>.bad
    | _,_=>.bad
theorem ZmA {o e:Expr} {fo fe:EM} {apos cpos:Pos} (ho:ME X o fo) (he:ME X e fe) (m:M1 X o "pop" apos e cpos):ME X (.Call (.Attribute o "pop" apos) [e] [] cpos) (ZmC fo fe):=by
  refine PE.imp (Zpz ho he m) fun σ H Q h=>?_
  obtain ⟨B,θ,ρ,F,w⟩:=h
  refine Z9 (step F w) ?_
  rintro v H1 ⟨B1,θ1,d,E1,F1,rd,w1⟩
  split at w1
  · exact w1.elim
  · rename_i q ed
    obtain ⟨l,kvs⟩:=q
    obtain ⟨hl,rfl,vs,h1,h2⟩:=ZfR F1.good rd ed
    refine ⟨_,rfl,.inl ⟨vs,.inl h1⟩,?_⟩
    refine Z9 (step F1 w1) ?_
    rintro y H2 ⟨B2,θ2,dy,E2,F2,ry,w2⟩
    split at w2
    · rename_i k l2 kvs2 ek ed2
      obtain ⟨hl2,e2,vs2,h3,h4⟩:=ZfR F2.good (rd.ext E2.toExtS) ed2
      cases keyD_rep ry ek
      have e3:B1.m l=B2.m l2:=by injection e2
      rw [e3]
      rcases h4.valD k with ⟨q1,q2⟩ | ⟨dv,v,q1,q2,rv⟩
      · rw [q1] at w2; exact w2.elim
      · rw [q1] at w2
        refine ⟨vs2,k,v,h3,rfl,q2,?_⟩
        have E3:=Zg0 F2.good hl2 (.dK (Zfe vs2 k))
        have G3:=Zhw F2.good hl2 (o:=.dK (Zfe vs2 k)) (c:=.dK (dropD kvs2 k)) ⟨_,zF,(h4.dropD k).ext E3.toExtS⟩
        exact w2 _ _ _ E3 G3 (rv.ext E3.toExtS)
    · exact w2.elim
def ZlU (fo fe ff:EM):EM:=fun ρ θ=>(fo ρ θ).bind fun d θ=>match Zgm θ d with
  | none=>.bad
  | some _=>(fe ρ θ).bind fun y θ=>(ff ρ θ).bind fun z θ=>match Zk4 y,Zgm θ d with
    | some k,some (l,kvs)=>if kvs.length<BIG then (match valD kvs k with
      | some v=>.ok v θ
      | none=>.ok z (θ.set l (.dK (putD kvs k z)))) else .bad
    | _,_=>.bad
theorem ZpZ {o e f:Expr} {fo fe ff:EM} {apos cpos:Pos} (ho:ME X o fo) (he:ME X e fe) (hf:ME X f ff) (m:M2 X o "setdefault" apos e f cpos):ME X (.Call (.Attribute o "setdefault" apos) [e,f] [] cpos) (ZlU fo fe ff):=by
  refine PE.imp (Zpy ho he hf m) fun σ H Q h=>?_
  obtain ⟨B,θ,ρ,F,w⟩:=h
  refine Z9 (step F w) ?_
  rintro v H1 ⟨B1,θ1,d,E1,F1,rd,w1⟩
  split at w1
  · exact w1.elim
  · rename_i q ed
    obtain ⟨l,kvs⟩:=q
    obtain ⟨hl,rfl,vs,h1,h2⟩:=ZfR F1.good rd ed
    refine ⟨_,rfl,.inl ⟨vs,.inl h1⟩,?_⟩
    refine Z9 (step F1 w1) ?_
    rintro y H2 ⟨B2,θ2,dy,E2,F2,ry,w2⟩
    refine Z9 (step F2 w2) ?_
    rintro z H3 ⟨B3,θ3,dz,E3,F3,rz,w3⟩
    split at w3
    · rename_i k l2 kvs2 ek ed2
      obtain ⟨hl2,e2,vs2,h3,h4⟩:=ZfR F3.good ((rd.ext E2.toExtS).ext E3.toExtS) ed2
      cases keyD_rep ry ek
      have e3:B1.m l=B3.m l2:=by injection e2
      rw [e3]
      split at w3
      · rename_i hb
        refine ⟨vs2,k,h3,rfl,?_,fun v hv=>?_,fun hn=>?_⟩
        · have:=Zat (n:=kvs2.length+1) hb
          rw [RepKV.len h4]; omega
        · rcases h4.valD k with ⟨q1,q2⟩ | ⟨dv,v',q1,q2,rv⟩
          · rw [q2] at hv; cases hv
          · rw [q2] at hv; cases hv
            rw [q1] at w3
            exact ZO (Rel:=RepV) F3.good rv w3
        · rcases h4.valD k with ⟨q1,q2⟩ | ⟨dv,v',q1,q2,rv⟩
          · rw [q1] at w3
            have E4:=Zg0 F3.good hl2 (.dK (Zeu vs2 k z))
            have G4:=Zhw F3.good hl2 (o:=.dK (Zeu vs2 k z)) (c:=.dK (putD kvs2 k dz)) ⟨_,zF,(h4.putD rz).ext E4.toExtS⟩
            exact w3 _ _ _ E4 G4 (rz.ext E4.toExtS)
          · rw [q2] at hn; cases hn
      · exact w3.elim
    · exact w3.elim
end
end L2.MM
namespace My
open PySem L2 L2.MM
noncomputable section
def Zjc:SM:=(Zq (ZM 2 (mSl (Zd 1) Za0 (Zbm (mCB ZdZ (Zc (Zd 0) Zk)))))
  (Zq (ZF ["Pile"] "row" (Zd 0) (mOp ZL (ZH ["Pile"] "row" (Zd 0)) (Zd 2)))
  (ZK (mCB Zde (Zc (Zd 2) Zk)))))
def ZfB:GM:=ZP 2 3 Zjc
def ZfU:SM:=(Zq (ZM 2 (mCB ZlQ (Zc (Zd 1) (Zc (mC (.int 0)) Zk))))
  (Zq (ZM 3 (mSl (ZH ["Pile"] "row" (Zd 0)) Za0 (Zbm (Zd 2))))
  (Zq (ZF ["Pile"] "row" (Zd 0) (mSl (ZH ["Pile"] "row" (Zd 0)) (Zbm (Zd 2)) Za0))
  (ZK (Zd 3)))))
def Zfi:GM:=ZP 2 4 ZfU
def Zlt:SM:=(ZK (mOp gtM (mCB zB (Zc (Zd 0) (Zc (Zd 1) Zk))) (mC (.int 0))))
def Zcg:GM:=ZP 2 2 Zlt
def ZdN:SM:=(ZK (mCB Zcg (Zc (ZH ["End"] "nxt" (Zd 0)) (Zc (ZH ["End"] "behind" (Zd 0)) Zk))))
def Zbi:GM:=ZP 1 1 ZdN
def ZiF:SM:=(ZK (mOp eqM (mCB Zfa (Zc (mOp ixM (Zd 0) (mC (.int 4))) (Zc (Zd 1) Zk))) (mC (.int 1))))
def Z4:GM:=ZP 2 2 ZiF
def ZcJ:SM:=(mIf (zT (mCB Z4 (Zc (Zd 0) (Zc (mC (.int 16)) Zk)))) (ZK (mOp ZL (Zd 1) (Zbe (Zc (mOp ixM (Zd 0) (mC (.int 3))) (Zc (mC (.int 0)) (Zc (mC (.int 4)) (Zc (mC (.int 0)) (Zc (mC (.int 0)) (Zc (Zbe Zk) Zk))))))))) ZN)
def Zdu:SM:=(Zq (ZM 1 (Zbe (Zc (mOp ixM (Zd 0) (mC (.int 1))) (Zc (mOp ixM (Zd 0) (mC (.int 0))) Zk))))
  (Zq ZcJ
  (ZK (mOp ZL (Zd 1) (Zbe (Zc (mC (.int 0)) (Zc (mCB zq (Zc (mOp ixM (Zd 0) (mC (.int 2))) (Zc (mCB Zcu (Zc (Zd 0) Zk)) Zk))) (Zc (mOp ZL (mC (.int 4)) (mC (.int 16))) (Zc (mC (.int 0)) (Zc (mC (.int 0)) (Zc (Zbe Zk) Zk)))))))))))
def ZbS:GM:=ZP 1 2 Zdu
def ZbB:SM:=(mIf (Zd3 (zT (mCB Z4 (Zc (Zd 1) (Zc (mC (.int 4)) Zk))))) (ZF ["End"] "owed_reset" (Zd 0) (mCB ZbS (Zc (Zd 1) Zk))) ZN)
def Zb4:SM:=ZbB
def ZZ:GM:=ZP 2 2 Zb4
def Zdc:SM:=(zC (mCB ZZ (Zc (Zd 0) (Zc (Zd 1) Zk))))
def ZaL:GM:=ZP 2 2 Zdc
def ZeQ:SM:=(mIf (ZG (mOp neM (mOp ixM (Zd 1) (mC (.int 6))) (mC (.int 0)))) (ZF ["End"] "most" (Zd 0) (mOp ixM (Zd 1) (mC (.int 6)))) ZN)
def ZfX:SM:=(Zq (ZF ["End"] "rcv" (Zd 0) (mCB zq (Zc (mOp ixM (Zd 1) (mC (.int 2))) (Zc (mC (.int 1)) Zk))))
  (Zq (ZF ["End"] "wnd" (Zd 0) (mOp ixM (Zd 1) (mC (.int 5))))
  (Zq (ZF ["End"] "told" (Zd 0) (mOp ixM (Zd 1) (mC (.int 2))))
  (Zq (ZF ["End"] "told_by" (Zd 0) (ZfK (zT (mCB Z4 (Zc (Zd 1) (Zc (mC (.int 16)) Zk)))) (mOp ixM (Zd 1) (mC (.int 3))) (mC (.int 0))))
  ZeQ))))
def ZbM:GM:=ZP 2 2 ZfX
def zS:SM:=(mIf (zT (mCB Z4 (Zc (Zd 1) (Zc (mC (.int 4)) Zk)))) ZfJ ZN)
def ZaB:SM:=(mIf (zT (mCB Z4 (Zc (Zd 1) (Zc (mC (.int 2)) Zk)))) (Zq (ZF ["End"] "theirs" (Zd 0) (mOp ixM (Zd 1) (mC (.int 0))))
      (Zq (zC (mCB ZbM (Zc (Zd 0) (Zc (Zd 1) Zk))))
      (ZF ["End"] "state" (Zd 0) (mC (.str "syn come"))))) ZN)
def ZaA:SM:=(mIf (zT (mCB Z4 (Zc (Zd 1) (Zc (mC (.int 16)) Zk)))) (zC (mCB ZZ (Zc (Zd 0) (Zc (Zd 1) Zk)))) ZaB)
def Zal:SM:=(Zq zS
  ZaA)
def zx:GM:=ZP 2 2 Zal
def Zeq:SM:=(ZK (Zcw (mOp neM (ZH ["End"] "nxt" (Zd 0)) (ZH ["End"] "first" (Zd 0))) (mOp eqM (mOp ixM (Zd 1) (mC (.int 3))) (mCB zq (Zc (ZH ["End"] "first" (Zd 0)) (Zc (mC (.int 1)) Zk))))))
def ZbG:GM:=ZP 2 2 Zeq
def Zao:SM:=(mIf (zT (mCB Z4 (Zc (Zd 1) (Zc (mC (.int 16)) Zk)))) (Zq (ZF ["End"] "una" (Zd 0) (mOp ixM (Zd 1) (mC (.int 3))))
    (Zq (ZF ["End"] "state" (Zd 0) (mC (.str "open")))
    (ZF ["End"] "owes_answer" (Zd 0) (mC (.bl true))))) (Zq (ZF ["End"] "state" (Zd 0) (mC (.str "syn come")))
    (Zq (zC (mCB za (Zc (Zd 0) (Zc (Zd 2) Zk))))
    (ZF ["End"] "owes_syn" (Zd 0) (mC (.bl true))))))
def ZaP:SM:=Zao
def zH:GM:=ZP 3 3 ZaP
def Zeb:SM:=(mIf (zT (mCB Z4 (Zc (Zd 1) (Zc (mC (.int 16)) Zk)))) (Zq (ZF ["End"] "state" (Zd 0) (mC (.str "closed")))
    (ZF ["End"] "error" (Zd 0) (mC (.str "refused")))) ZN)
def Zfp:SM:=Zeb
def Zex:GM:=ZP 2 2 Zfp
def zD:SM:=(mIf (zT (mCB Z4 (Zc (Zd 1) (Zc (mC (.int 2)) Zk)))) (Zq (zC (mCB ZbM (Zc (Zd 0) (Zc (Zd 1) Zk))))
        (zC (mCB zH (Zc (Zd 0) (Zc (Zd 1) (Zc (Zd 2) Zk)))))) ZN)
def Z6:SM:=(mIf (zT (mCB Z4 (Zc (Zd 1) (Zc (mC (.int 4)) Zk)))) (zC (mCB Zex (Zc (Zd 0) (Zc (Zd 1) Zk)))) zD)
def ZW:SM:=(mIf (ZeE (zT (mCB Z4 (Zc (Zd 1) (Zc (mC (.int 16)) Zk)))) (Zd3 (zT (mCB ZbG (Zc (Zd 0) (Zc (Zd 1) Zk)))))) (zC (mCB ZZ (Zc (Zd 0) (Zc (Zd 1) Zk)))) Z6)
def Z3:SM:=ZW
def ZS:GM:=ZP 3 3 Z3
def ZdM:SM:=(ZK (Zc5 leM ltM (mC (.int 0)) (mCB zB (Zc (Zd 1) (Zc (ZH ["End"] "rcv" (Zd 0)) Zk))) (mCB ZaY (Zc (Zd 0) Zk))))
def zo:GM:=ZP 2 2 ZdM
def Zfq:SM:=(mIf (ZG (mOp eqM (Zd 2) (mC (.int 0)))) (ZK (Zc5 leM leM (mC (.int 0)) (mCB zB (Zc (mOp ixM (Zd 1) (mC (.int 2))) (Zc (ZH ["End"] "rcv" (Zd 0)) Zk))) (mC (.int 64)))) ZN)
def ZhO:SM:=(Zq (ZM 2 (mCB Zcu (Zc (Zd 1) Zk)))
  (Zq Zfq
  (Zq (ZM 3 (mCB zq (Zc (mOp ixM (Zd 1) (mC (.int 2))) (Zc (mOp Ze9 (Zd 2) (mC (.int 1))) Zk))))
  (ZK (Zk0 (mCB zo (Zc (Zd 0) (Zc (mOp ixM (Zd 1) (mC (.int 2))) Zk))) (mCB zo (Zc (Zd 0) (Zc (Zd 3) Zk))))))))
def Zga:GM:=ZP 2 4 ZhO
def zj:SM:=(mIf (mOr (Zd3 (zT (mCB Zbi (Zc (Zd 0) Zk)))) (ZG (mOp neM (ZH ["End"] "una" (Zd 0)) (ZH ["End"] "nxt" (Zd 0))))) ZfJ ZN)
def ZaS:SM:=(mIf (ZG (mOp eqM (ZH ["End"] "state" (Zd 0)) (mC (.str "last ack")))) (ZF ["End"] "state" (Zd 0) (mC (.str "closed"))) ZN)
def ZaR:SM:=(mIf (ZG (mOp eqM (ZH ["End"] "state" (Zd 0)) (mC (.str "closing")))) (Zq (ZF ["End"] "state" (Zd 0) (mC (.str "time wait")))
      (ZF ["End"] "since" (Zd 0) (Zd 1))) ZaS)
def ZaQ:SM:=(mIf (ZG (mOp eqM (ZH ["End"] "state" (Zd 0)) (mC (.str "wait one")))) (ZF ["End"] "state" (Zd 0) (mC (.str "wait two"))) ZaR)
def zp:SM:=(Zq zj
  ZaQ)
def ZR:GM:=ZP 2 2 zp
def Zen:SM:=(Zq (ZF ["End"] "wnd" (Zd 0) (mOp ixM (Zd 1) (mC (.int 5))))
  (Zq (ZF ["End"] "told" (Zd 0) (mOp ixM (Zd 1) (mC (.int 2))))
  (ZF ["End"] "told_by" (Zd 0) (mOp ixM (Zd 1) (mC (.int 3))))))
def ZaD:GM:=ZP 2 2 Zen
def z9:SM:=(mIf (mOr (ZG (mOp eqM (ZH ["End"] "nxt" (Zd 0)) (ZH ["End"] "first" (Zd 0)))) (ZG (mOp neM (mOp ixM (Zd 1) (mC (.int 3))) (ZH ["End"] "nxt" (Zd 0))))) (Zq (zC (mCB ZZ (Zc (Zd 0) (Zc (Zd 1) Zk))))
    (ZK (mC (.bl false)))) ZN)
def Zaw:SM:=(Zq z9
  (Zq (ZF ["End"] "una" (Zd 0) (mOp ixM (Zd 1) (mC (.int 3))))
  (Zq (ZF ["End"] "state" (Zd 0) (ZfK (zT (ZH ["End"] "has_closed" (Zd 0))) (mC (.str "wait one")) (mC (.str "open"))))
  (Zq (zC (mCB ZaD (Zc (Zd 0) (Zc (Zd 1) Zk))))
  (ZK (mC (.bl true)))))))
def zr:GM:=ZP 2 2 Zaw
def ZeP:SM:=(mIf (ZG (mOp eqM (mOp ixM (Zd 1) (mC (.int 2))) (ZH ["End"] "told" (Zd 0)))) (ZK (ZmB (mCB Zcg (Zc (ZH ["End"] "told_by" (Zd 0)) (Zc (mOp ixM (Zd 1) (mC (.int 3))) Zk))))) ZN)
def ZfW:SM:=(Zq ZeP
  (ZK (mCB Zcg (Zc (mOp ixM (Zd 1) (mC (.int 2))) (Zc (ZH ["End"] "told" (Zd 0)) Zk)))))
def Zc1:GM:=ZP 2 2 ZfW
def Zb7:SM:=(mIf (ZG (mOp neM (ZH ["End"] "una" (Zd 0)) (ZH ["End"] "nxt" (Zd 0)))) (zC (mCB za (Zc (Zd 0) (Zc (Zd 2) Zk)))) ZN)
def Zav:SM:=(mIf (zT (Zd 4)) (Zq (zC (mCB Zfi (Zc (ZH ["End"] "written" (Zd 0)) (Zc (mCB zB (Zc (Zd 3) (Zc (ZH ["End"] "una" (Zd 0)) Zk))) Zk))))
    (Zq (ZF ["End"] "una" (Zd 0) (Zd 3))
    Zb7)) ZN)
def Zau:SM:=(mIf (zT (mCB Zcg (Zc (ZH ["End"] "una" (Zd 0)) (Zc (Zd 3) Zk)))) ZfJ ZN)
def Zbd:SM:=(mIf (mOr (zT (Zd 4)) (zT (mCB Zc1 (Zc (Zd 0) (Zc (Zd 1) Zk))))) (zC (mCB ZaD (Zc (Zd 0) (Zc (Zd 1) Zk)))) ZN)
def Zbc:SM:=(mIf (mOr (zT (Zd 5)) (ZG (mOp eqM (ZH ["End"] "wnd" (Zd 0)) (mC (.int 0))))) (ZF ["End"] "tries" (Zd 0) (mC (.int 0))) ZN)
def Za5:SM:=(Zq (ZM 3 (mOp ixM (Zd 1) (mC (.int 3))))
  (Zq (ZM 4 (mCB Zcg (Zc (Zd 3) (Zc (ZH ["End"] "una" (Zd 0)) Zk))))
  (Zq Zav
  (Zq Zau
  (Zq (ZM 5 (mOp eqM (ZH ["End"] "wnd" (Zd 0)) (mC (.int 0))))
  (Zq Zbd
  Zbc))))))
def zL:GM:=ZP 3 6 Za5
def zz:SM:=(mIf (ZG (mOp eqM (ZH ["End"] "state" (Zd 0)) (mC (.str "syn come")))) (ZK (mCB zr (Zc (Zd 0) (Zc (Zd 1) Zk)))) ZN)
def Zaa:SM:=(mIf (zT (mCB Zcg (Zc (mOp ixM (Zd 1) (mC (.int 3))) (Zc (ZH ["End"] "nxt" (Zd 0)) Zk)))) (Zq (ZF ["End"] "owes_answer" (Zd 0) (mC (.bl true)))
    (ZK (mC (.bl false)))) ZN)
def zE:SM:=(Zq zz
  (Zq Zaa
  (Zq (zC (mCB zL (Zc (Zd 0) (Zc (Zd 1) (Zc (Zd 2) Zk)))))
  (Zq (zC (mCB ZR (Zc (Zd 0) (Zc (Zd 2) Zk))))
  (ZK (mOp neM (ZH ["End"] "state" (Zd 0)) (mC (.str "closed"))))))))
def Z1:GM:=ZP 3 3 zE
def Zcn:SM:=(mIf (ZG (mOp eqM (ZH ["End"] "state" (Zd 0)) (mC (.str "time wait")))) ZfJ ZN)
def Zcm:SM:=(mIf (ZG (mOp eqM (mOp ixM (Zd 1) (mC (.int 2))) (ZH ["End"] "rcv" (Zd 0)))) (Zq (ZF ["End"] "state" (Zd 0) (mC (.str "closed")))
    (ZF ["End"] "error" (Zd 0) (mC (.str "reset")))) (ZF ["End"] "owes_answer" (Zd 0) (mC (.bl true))))
def Zda:SM:=(Zq Zcn
  Zcm)
def Zbq:GM:=ZP 2 2 Zda
def ZbD:SM:=(ZcB (ZeE (ZG (mOp neM (ZH ["End"] "rcv" (Zd 0)) (ZH ["End"] "early_fin" (Zd 0)))) (ZG (Zp3 (ZH ["End"] "rcv" (Zd 0)) (ZH ["End"] "early" (Zd 0))))) (Zq (Zd6 1 (ZmC (ZH ["End"] "early" (Zd 0)) (ZH ["End"] "rcv" (Zd 0))))
    (ZF ["End"] "rcv" (Zd 0) (mCB zq (Zc (ZH ["End"] "rcv" (Zd 0)) (Zc (mC (.int 1)) Zk))))) 200)
def Zdp:SM:=(Zq (ZgW 1 Zk)
  (Zq ZbD
  (Zd4 1 (zC (mCB ZfB (Zc (ZH ["End"] "come" (Zd 0)) (Zc (Zd 1) Zk)))))))
def Za1:GM:=ZP 1 2 Zdp
def ZeR:SM:=(mIf (ZG (mOp eqM (ZH ["End"] "state" (Zd 0)) (mC (.str "wait one")))) (ZF ["End"] "state" (Zd 0) (mC (.str "closing"))) (Zq (ZF ["End"] "state" (Zd 0) (mC (.str "time wait")))
      (ZF ["End"] "since" (Zd 0) (Zd 1))))
def Zdb:SM:=(mIf (ZG (mOp eqM (ZH ["End"] "state" (Zd 0)) (mC (.str "open")))) (ZF ["End"] "state" (Zd 0) (mC (.str "close wait"))) ZeR)
def Zee:SM:=(Zq (ZF ["End"] "rcv" (Zd 0) (mCB zq (Zc (ZH ["End"] "rcv" (Zd 0)) (Zc (mC (.int 1)) Zk))))
  Zdb)
def Zcj:GM:=ZP 2 2 Zee
def Za4:SM:=(mIf (zT (mCB zo (Zc (Zd 0) (Zc (Zd 4) Zk)))) (zC (ZlU (ZH ["End"] "early" (Zd 0)) (Zd 4) (Zd 3))) ZN)
def ZcL:SM:=(Zp2 (Zc (mOp ixM (Zd 1) (mC (.int 7))) Zk) 2 3 (Zq (ZM 4 (mCB zq (Zc (mOp ixM (Zd 1) (mC (.int 2))) (Zc (Zd 2) Zk))))
    Za4))
def ZcK:SM:=(mIf (ZG (mOp gtM (mCB Zde (Zc (mOp ixM (Zd 1) (mC (.int 7))) Zk)) (mC (.int 0)))) (ZF ["End"] "owes_answer" (Zd 0) (mC (.bl true))) ZN)
def Zdx:SM:=(Zq ZcL
  ZcK)
def ZbT:GM:=ZP 2 5 Zdx
def Zc9:SM:=(mIf (Zd3 (zT (mCB Z4 (Zc (Zd 1) (Zc (mC (.int 1)) Zk))))) ZfJ ZN)
def ZaO:SM:=(mIf (ZeE (ZG (mOp isM (ZH ["End"] "early_fin" (Zd 0)) (mC .non))) (zT (mCB zo (Zc (Zd 0) (Zc (Zd 2) Zk))))) (ZF ["End"] "early_fin" (Zd 0) (Zd 2)) ZN)
def Zed:SM:=(Zq Zc9
  (Zq (ZF ["End"] "owes_answer" (Zd 0) (mC (.bl true)))
  (Zq (ZM 2 (mCB zq (Zc (mOp ixM (Zd 1) (mC (.int 2))) (Zc (mCB Zde (Zc (mOp ixM (Zd 1) (mC (.int 7))) Zk)) Zk))))
  ZaO)))
def Zci:GM:=ZP 2 3 Zed
def Zbb:SM:=(mIf (ZG (mOp Zc4 (ZH ["End"] "state" (Zd 0)) (Zbe (Zc (mC (.str "open")) (Zc (mC (.str "wait one")) (Zc (mC (.str "wait two")) Zk)))))) ZfJ ZN)
def Zb6:SM:=(mIf (ZG (mOp eqM (ZH ["End"] "rcv" (Zd 0)) (ZH ["End"] "early_fin" (Zd 0)))) (zC (mCB Zcj (Zc (Zd 0) (Zc (Zd 2) Zk)))) ZN)
def ZbK:SM:=(Zq Zbb
  (Zq (zC (mCB ZbT (Zc (Zd 0) (Zc (Zd 1) Zk))))
  (Zq (zC (mCB Zci (Zc (Zd 0) (Zc (Zd 1) Zk))))
  (Zq (zC (mCB Za1 (Zc (Zd 0) Zk)))
  Zb6))))
def ZaE:GM:=ZP 3 3 ZbK
def ZbJ:SM:=(mIf (zT (mCB Z4 (Zc (Zd 1) (Zc (mC (.int 4)) Zk)))) ZfJ ZN)
def ZcI:SM:=(mIf (ZeE (ZG (mOp eqM (ZH ["End"] "state" (Zd 0)) (mC (.str "syn come")))) (ZeE (zT (mCB Z4 (Zc (Zd 1) (Zc (mC (.int 2)) Zk)))) (Zd3 (zT (mCB Z4 (Zc (Zd 1) (Zc (mC (.int 16)) Zk))))))) (ZF ["End"] "owes_syn" (Zd 0) (mC (.bl true))) (ZF ["End"] "owes_answer" (Zd 0) (mC (.bl true))))
def ZcH:SM:=(mIf (ZG (mOp eqM (ZH ["End"] "state" (Zd 0)) (mC (.str "time wait")))) (ZF ["End"] "since" (Zd 0) (Zd 2)) ZN)
def Zcr:SM:=(Zq ZbJ
  (Zq ZcI
  ZcH))
def Zbh:GM:=ZP 3 3 Zcr
def Zaz:SM:=(mIf (ZeE (zT (mCB Z4 (Zc (Zd 1) (Zc (mC (.int 16)) Zk)))) (zT (mCB Z1 (Zc (Zd 0) (Zc (Zd 1) (Zc (Zd 2) Zk)))))) (zC (mCB ZaE (Zc (Zd 0) (Zc (Zd 1) (Zc (Zd 2) Zk))))) ZN)
def zR:SM:=(mIf (zT (mCB Z4 (Zc (Zd 1) (Zc (mC (.int 2)) Zk)))) (ZF ["End"] "owes_answer" (Zd 0) (mC (.bl true))) Zaz)
def zy:SM:=(mIf (zT (mCB Z4 (Zc (Zd 1) (Zc (mC (.int 4)) Zk)))) (zC (mCB Zbq (Zc (Zd 0) (Zc (Zd 1) Zk)))) zR)
def zi:SM:=(mIf (Zd3 (zT (mCB Zga (Zc (Zd 0) (Zc (Zd 1) Zk))))) (zC (mCB Zbh (Zc (Zd 0) (Zc (Zd 1) (Zc (Zd 2) Zk))))) zy)
def zv:SM:=zi
def zc:GM:=ZP 3 3 zv
def ZhL:SM:=(ZK (Zcw (mOp eqM (mOp ixM (Zd 1) (mC (.int 1))) (ZH ["End"] "ours" (Zd 0))) (Zk0 (mOp inM (ZH ["End"] "state" (Zd 0)) (Zbe (Zc (mC (.str "closed")) (Zc (mC (.str "listen")) Zk)))) (mOp eqM (mOp ixM (Zd 1) (mC (.int 0))) (ZH ["End"] "theirs" (Zd 0))))))
def Zez:GM:=ZP 2 2 ZhL
def Zcb:SM:=(mIf (Zd3 (zT (mCB Zag (Zc (Zd 1) Zk)))) (ZK (mC (.bl false))) ZN)
def Zca:SM:=(mIf (Zd3 (zT (mCB Zez (Zc (Zd 0) (Zc (Zd 3) Zk))))) (ZK (mC (.bl false))) ZN)
def Zef:SM:=(mIf (ZG (mOp eqM (ZH ["End"] "state" (Zd 0)) (mC (.str "syn sent")))) (zC (mCB ZS (Zc (Zd 0) (Zc (Zd 3) (Zc (Zd 2) Zk))))) (zC (mCB zc (Zc (Zd 0) (Zc (Zd 3) (Zc (Zd 2) Zk))))))
def ZcQ:SM:=(mIf (ZG (mOp eqM (ZH ["End"] "state" (Zd 0)) (mC (.str "listen")))) (zC (mCB zx (Zc (Zd 0) (Zc (Zd 3) Zk)))) Zef)
def Zb9:SM:=(mIf (ZG (mOp eqM (ZH ["End"] "state" (Zd 0)) (mC (.str "closed")))) (zC (mCB ZaL (Zc (Zd 0) (Zc (Zd 3) Zk)))) ZcQ)
def Zdd:SM:=(Zq Zcb
  (Zq (ZM 3 (mCB Zij (Zc (Zd 1) Zk)))
  (Zq Zca
  (Zq Zb9
  (ZK (mC (.bl true)))))))
def zY:GM:=ZP 3 4 Zdd
def Zdn:SM:=(mIf (mOr (zT (ZH ["End"] "has_closed" (Zd 0))) (ZG (mOp Zc4 (ZH ["End"] "state" (Zd 0)) (Zbe (Zc (mC (.str "syn sent")) (Zc (mC (.str "syn come")) (Zc (mC (.str "open")) (Zc (mC (.str "close wait")) Zk)))))))) (ZK (mC (.int 0))) ZN)
def Ze7:SM:=(Zq Zdn
  (Zq (ZM 2 (mCB ZfB (Zc (ZH ["End"] "written" (Zd 0)) (Zc (Zd 1) Zk))))
  (Zq (ZF ["End"] "behind" (Zd 0) (mCB zq (Zc (ZH ["End"] "behind" (Zd 0)) (Zc (Zd 2) Zk))))
  (ZK (Zd 2)))))
def ZdY:GM:=ZP 2 3 Ze7
def Zlw:SM:=(ZK (mOp ZaZ (mOp ZL (Zd 0) (Zd 1)) (mC (.int 4294967296))))
def ZbP:GM:=ZP 2 2 Zlw
def ZgJ:SM:=(mIf (ZG (mOp eqM (mOp ZaZ (Zd 0) (mC (.int 2))) (mC (.int 0)))) (ZK (mOp ZaZ (mOp Ze9 (mC (.int 4294967296)) (mOp ZaZ (mOp Zfo (Zd 0) (mC (.int 2))) (mC (.int 90)))) (mC (.int 4294967296)))) ZN)
def ZiI:SM:=(Zq ZgJ
  (ZK (Zd 0)))
def Ze3:GM:=ZP 1 1 ZiI
def ZgI:SM:=(ZK (Zbe (Zc (mOp ixM (Zd 0) (mC (.int 1))) (Zc (mOp ixM (Zd 0) (mC (.int 0))) (Zc (Zd 1) (Zc (Zd 2) (Zc (Zd 3) (Zc (Zd 4) (Zc (mC (.int 0)) (Zc (mCB Zer (Zc (Zd 5) Zk)) Zk))))))))))
def ZcU:GM:=ZP 6 6 ZgI
def Zlx:SM:=(ZK (Zcw (mCB ZgB (Zc (Zd 0) (Zc (mC (.ty "int")) Zk))) (Zcw (ZmB (mCB ZgB (Zc (Zd 0) (Zc (mC (.ty "bool")) Zk)))) (Zc5 leM leM (mC (.int 0)) (Zd 0) (mC (.int 255))))))
def Zgh:GM:=ZP 1 1 Zlx
def b_l_read_1:SM:=(mIf (mOr (Zd3 (zT (mCB ZgB (Zc (Zd 0) (Zc (mC (.ty "list")) Zk))))) (ZG (mOp ltM (mCB Zde (Zc (Zd 0) Zk)) (mC (.int 20))))) (ZK (mC .non)) ZN)
def b_l_read_2:SM:=(mIf (Zd3 (zT (mCB ZqJ (Zc (ZeD (mIn (Zd 0)) [] (mCB Zgh (Zc (Zd 0) Zk))) Zk)))) (ZK (mC .non)) ZN)
def b_l_read_3:SM:=(mIf (mOr (ZG (mOp Zc4 (mOp ixM (Zd 0) (mC (.int 12))) (Zbe (Zc (mC (.int 80)) (Zc (mC (.int 96)) Zk))))) (mOr (ZG (mOp gtM (mOp ixM (Zd 0) (mC (.int 13))) (mC (.int 31)))) (ZG (mOp gtM (mOp ZL (mOp ixM (Zd 0) (mC (.int 18))) (mOp ixM (Zd 0) (mC (.int 19)))) (mC (.int 0)))))) (ZK (mC .non)) ZN)
def b_l_read_4:SM:=(mIf (mOr (Zd3 (ZG (Zc5 leM leM (Zd 1) (mCB Zde (Zc (Zd 0) Zk)) (mOp ZL (Zd 1) (mC (.int 16)))))) (ZG (mOp neM (mCB Zcx (Zc (Zd 0) Zk)) (mC (.int 65535))))) (ZK (mC .non)) ZN)
def ZhQ:SM:=(mIf (mOr (ZG (mOp eqM (mOp ZaZ (mOp Zfo (mOp ixM (Zd 0) (mC (.int 13))) (mC (.int 2))) (mC (.int 2))) (mC (.int 0)))) (mOr (ZG (mOp neM (mSl (Zd 0) (Zbm (mC (.int 20))) (Zbm (mC (.int 22)))) (Zcl (Zc (mC (.int 2)) (Zc (mC (.int 4)) Zk))))) (ZG (mOp ltM (Zd 2) (mC (.int 4)))))) (ZK (mC .non)) ZN)
def b_l_read_6:SM:=(mIf (ZG (mOp eqM (Zd 1) (mC (.int 24)))) (Zq (ZM 2 (mOp ZL (mOp Zcc (mOp ixM (Zd 0) (mC (.int 22))) (mC (.int 256))) (mOp ixM (Zd 0) (mC (.int 23)))))
    ZhQ) ZN)
def Zlv:SM:=(Zq b_l_read_1
  (Zq b_l_read_2
  (Zq (ZM 1 (mOp Zfo (mOp ixM (Zd 0) (mC (.int 12))) (mC (.int 4))))
  (Zq b_l_read_3
  (Zq b_l_read_4
  (Zq (ZM 2 (mC (.int 0)))
  (Zq b_l_read_6
  (Zq (ZM 3 (ZeD (ZcN (Zc (mC (.int 8)) Zk)) [0] (mOp ZL (mOp Zcc (mC (.int 256)) (mOp ixM (Zd 1) (mOp Zcc (mC (.int 2)) (Zd 0)))) (mOp ixM (Zd 1) (mOp ZL (mOp Zcc (mC (.int 2)) (Zd 0)) (mC (.int 1)))))))
  (Zq (ZM 4 (Zbe (Zc (mOp ixM (Zd 3) (mC (.int 0))) (Zc (mOp ixM (Zd 3) (mC (.int 1))) (Zc (mOp ZL (mOp Zcc (mOp ixM (Zd 3) (mC (.int 2))) (mC (.int 65536))) (mOp ixM (Zd 3) (mC (.int 3)))) (Zc (mOp ZL (mOp Zcc (mOp ixM (Zd 3) (mC (.int 4))) (mC (.int 65536))) (mOp ixM (Zd 3) (mC (.int 5)))) Zk))))))
  (ZK (mOp ZL (Zd 4) (Zbe (Zc (mOp ixM (Zd 0) (mC (.int 13))) (Zc (mOp ixM (Zd 3) (mC (.int 7))) (Zc (Zd 2) (Zc (mCB Zer (Zc (mSl (Zd 0) (Zbm (Zd 1)) Za0) Zk)) Zk))))))))))))))))
def Zgf:GM:=ZP 1 5 Zlv
def Zds:SM:=(mIf (ZG (mOp eqM (Zd 4) (Zcl Zk))) (Zd4 2 (ZK (Zd 2))) ZN)
def ZeU:SM:=(Zd5 (ZcN (Zc (mC (.int 40)) Zk)) (gNm 3) (Zq (ZM 4 (mCB ZcC (Zc (Zd 0) (Zc (Zd 1) Zk))))
    (Zq Zds
    (Zd6 2 (mCB Zgf (Zc (Zd 4) Zk))))))
def ZiH:SM:=(Zq (ZgW 2 Zk)
  (Zq ZeU
  (Zd4 2 (ZK (Zd 2)))))
def Ze2:GM:=ZP 2 5 ZiH
def ZhR:SM:=(Zq (ZM 4 (Zbe (Zc (mOp ZaZ (mCB Za9 (Zc (Zd 0) (Zc (Zd 1) Zk))) (mC (.int 65536))) (Zc (mOp ZaZ (mCB Za9 (Zc (Zd 0) (Zc (mOp ZL (Zd 1) (mC (.int 1))) Zk))) (mC (.int 65536))) Zk))))
  (Zq (ZM 5 (mCB Ze3 (Zc (mCB Za9 (Zc (Zd 0) (Zc (mOp ZL (Zd 1) (mC (.int 2))) Zk))) Zk)))
  (Zq (ZM 6 (mCB Ze3 (Zc (mCB Za9 (Zc (Zd 0) (Zc (mOp ZL (Zd 1) (mC (.int 3))) Zk))) Zk)))
  (Zq (ZM 7 (mCB Zey (Zc (mOp ixM (Zd 4) (mC (.int 0))) (Zc (mC (.int 7)) (Zc (Zd 5) (Zc (mC (.bl false)) Zk))))))
  (Zq (zC (mCB zY (Zc (Zd 7) (Zc (mCB Zcq (Zc (Zbe (Zc (mOp ixM (Zd 4) (mC (.int 1))) (Zc (mOp ixM (Zd 4) (mC (.int 0))) (Zc (Zd 6) (Zc (mC (.int 0)) (Zc (mC (.int 2)) (Zc (Zd 2) (Zc (Zd 3) (Zc (Zbe Zk) Zk))))))))) Zk)) (Zc (mC (.int 0)) Zk)))))
  (Zq (zC (mCB ZcC (Zc (Zd 7) (Zc (mC (.int 0)) Zk))))
  (Zq (zC (mCB zY (Zc (Zd 7) (Zc (mCB Zcq (Zc (Zbe (Zc (mOp ixM (Zd 4) (mC (.int 1))) (Zc (mOp ixM (Zd 4) (mC (.int 0))) (Zc (mCB ZbP (Zc (Zd 6) (Zc (mC (.int 1)) Zk))) (Zc (mCB ZbP (Zc (Zd 5) (Zc (mC (.int 1)) Zk))) (Zc (mC (.int 16)) (Zc (Zd 2) (Zc (mC (.int 0)) (Zc (Zbe Zk) Zk))))))))) Zk)) (Zc (mC (.int 0)) Zk)))))
  (ZK (Zbe (Zc (Zd 7) (Zc (Zd 4) (Zc (mCB ZbP (Zc (Zd 5) (Zc (mC (.int 1)) Zk))) (Zc (mCB ZbP (Zc (Zd 6) (Zc (mC (.int 1)) Zk))) Zk)))))))))))))
def ZdJ:GM:=ZP 4 8 ZhR
end
end My
namespace My
open PySem L2 L2.MM
noncomputable section
def bears (s:Seg) (f:Int):Bool:=decide (bit s.flags f=1)
def Zk3 (s:Seg):Int:=s.data.length+bit s.flags 2+bit s.flags 1
def Zfx (s:Seg):Seg:=if bears s 16=true then ⟨s.goal,s.src,s.ans,0,4,0,0,[]⟩ else ⟨s.goal,s.src,0,Zl s.num (Zk3 s),20,0,0,[]⟩
def Zbj (e:Zt) (s:Seg):Zt:=if bears s 4=true then e else { e with owed_reset:=some (Zfx s) }
def hearSyn (e:Zt) (s:Seg):Zt:={ e with rcv:=Zl s.num 1,wnd:=s.win,told:=s.num,told_by:=if bears s 16=true then s.ans else 0,most:=if s.most=0 then e.most else s.most }
def Zbo (e:Zt) (s:Seg):Zt:=
  if bears s 4=true then e
  else if bears s 16=true then Zbj e s
  else if bears s 2=true then { hearSyn { e with theirs:=s.src } s with state:=.synCome }
  else e
def Zej (e:Zt) (s:Seg):Bool:=!decide (e.nxt=e.first) && decide (s.ans=Zl e.first 1)
def Zab (e:Zt) (s:Seg) (now:Int):Zt:=
  if bears s 16=true∧Zej e s=false then Zbj e s
  else if bears s 4=true then (if bears s 16=true then { e with state:=.closed,error:=.refused } else e)
  else if bears s 2=true then
    (if bears s 16=true then { hearSyn e s with una:=s.ans,state:=.opn,owes_answer:=true }
     else { Z0 { hearSyn e s with state:=.synCome } now with owes_syn:=true })
  else e
def Zfd (e:Zt) (s:Seg):Bool:=decide (s.goal=e.ours) && (decide (e.state∈[State.closed,.listen]) || decide (s.src=e.theirs))
section
variable {θ:Sto} {l:Nat} {e:Zt} {s:Seg} {now f:Int}
@[simp] theorem ZvY:Z4 [s.d,.int f] θ=.ok (.bl (bears s f)) θ:=by
  simp [Z4,ZiF,bears]
theorem Zf4:Zcu [s.d] θ=.ok (.int (Zk3 s)) θ:=Zpa s θ
@[simp] theorem Zsd:ZbS [s.d] θ=.ok (Zfx s).d θ:=by
  by_cases c:bears s 16=true
  · simp [ZbS,Zdu,ZcJ,c,Zfx,ZiN]
  · simp [ZbS,Zdu,ZcJ,c,Zfx,ZiN,Zf4]
@[simp] theorem Zse (h:l+3 < θ.length):ZZ [.ref l,s.d] (upE θ l e)=.ok .non (upE θ l (Zbj e s)):=by
  by_cases c:bears s 4=true
  · simp [ZZ,Zb4,ZbB,h,c,Zbj]
  · simp [ZZ,Zb4,ZbB,h,c,Zbj]
@[simp] theorem Zm3 (h:l+3 < θ.length):ZaL [.ref l,s.d] (upE θ l e)=.ok .non (upE θ l (Zbj e s)):=by
  simp [ZaL,Zdc,h]
@[simp] theorem ZsZ (h:l+3 < θ.length):ZbM [.ref l,s.d] (upE θ l e)=.ok .non (upE θ l (hearSyn e s)):=by
  by_cases c:bears s 16=true<;>by_cases c2:s.most=0<;>simp [ZbM,ZfX,ZeQ,h,c,c2,hearSyn]
@[simp] theorem Zm2 (h:l+3 < θ.length):zx [.ref l,s.d] (upE θ l e)=.ok .non (upE θ l (Zbo e s)):=by
  by_cases c:bears s 4=true
  · simp [zx,Zal,zS,h,c,Zbo]
  · by_cases c1:bears s 16=true
    · simp [zx,Zal,zS,ZaB,ZaA,h,c,c1,Zbo]
    · by_cases c2:bears s 2=true
      · simp [zx,Zal,zS,ZaB,ZaA,h,c,c1,c2,Zbo]
      · simp [zx,Zal,zS,ZaB,ZaA,h,c,c1,c2,Zbo]
@[simp] theorem ZqQ (h:l+3 < θ.length):ZbG [.ref l,s.d] (upE θ l e)=.ok (.bl (Zej e s)) (upE θ l e):=by
  by_cases c:e.nxt=e.first<;>simp [ZbG,Zeq,h,Zej,c]
@[simp] theorem ZlD (h:l+3 < θ.length):ZS [.ref l,s.d,.int now] (upE θ l e)=.ok .non (upE θ l (Zab e s now)):=by
  by_cases c:bears s 16=true
  · by_cases c1:Zej e s=true
    · by_cases c2:bears s 4=true
      · simp [ZS,Z3,ZW,Z6,Zex,Zfp,Zeb,h,c,c1,c2,Zab]
      · by_cases c3:bears s 2=true
        · simp [ZS,Z3,ZW,Z6,zD,zH,ZaP,Zao,h,c,c1,c2,c3,Zab]
        · simp [ZS,Z3,ZW,Z6,zD,h,c,c1,c2,c3,Zab]
    · simp [ZS,Z3,ZW,h,c,c1,Zab]
  · by_cases c2:bears s 4=true
    · simp [ZS,Z3,ZW,Z6,Zex,Zfp,Zeb,h,c,c2,Zab]
    · by_cases c3:bears s 2=true
      · simp [ZS,Z3,ZW,Z6,zD,zH,ZaP,Zao,h,c,c2,c3,Zab]
      · simp [ZS,Z3,ZW,Z6,zD,h,c,c2,c3,Zab]
@[simp] theorem ZuI (h:l+3 < θ.length):Zez [.ref l,s.d] (upE θ l e)=.ok (.bl (Zfd e s)) (upE θ l e):=by
  simp [Zez,ZhL,h,Zfd]
theorem ZgQ (h:l+3 < θ.length) {r:List Int} (hb:Byt r) (hr:Zas r=true) (hf:Zfd e (ZbA r)=true) (hs:e.state=.closed):zY [.ref l,il r,.int now] (upE θ l e)=.ok (.bl true) (upE θ l (Zbj e (ZbA r))):=by
  simp [zY,Zdd,Zcb,Zca,Zb9,ZcW hb,hr,Zmd hb hr,h,hf,hs]
theorem ZgP (h:l+3 < θ.length) {r:List Int} (hb:Byt r) (hr:Zas r=true) (hf:Zfd e (ZbA r)=true) (hs:e.state=.listen):zY [.ref l,il r,.int now] (upE θ l e)=.ok (.bl true) (upE θ l (Zbo e (ZbA r))):=by
  simp [zY,Zdd,Zcb,Zca,Zb9,ZcQ,ZcW hb,hr,Zmd hb hr,h,hf,hs]
theorem Zf6 (h:l+3 < θ.length) {r:List Int} (hb:Byt r) (hr:Zas r=true) (hf:Zfd e (ZbA r)=true) (hs:e.state=.synSent):zY [.ref l,il r,.int now] (upE θ l e)=.ok (.bl true) (upE θ l (Zab e (ZbA r) now)):=by
  simp [zY,Zdd,Zcb,Zca,Zb9,ZcQ,Zef,ZcW hb,hr,Zmd hb hr,h,hf,hs]
@[simp] theorem ZvX {n k:Int}:ZbP [.int n,.int k] θ=.ok (.int (Zl n k)) θ:=by simp [ZbP,Zlw,Zl]
def Zbw (n:Int):Int:=if n % 2=0 then (4294967296-n/2 % 90) % 4294967296 else n
@[simp] theorem ZuH {n:Int}:Ze3 [.int n] θ=.ok (.int (Zbw n)) θ:=by
  by_cases c:n % 2=0<;>simp [Ze3,ZiI,ZgJ,Zbw,c]
end
end
end My
namespace My
open PySem L2 L2.MM
noncomputable section
section
variable {θ:Sto} {ρ:List Sl} {fi fo fe ff:EM} {fa:AM} {i j k:Nat} {b:SM} {x:D} {r:List D}
theorem nr' {p:Prop} (h:p):p:=h
@[simp] theorem Zzp:Zp3 fi fo ρ θ=(fi ρ θ).bind fun y θ=>(fo ρ θ).bind fun d θ=>match Zk4 y,Zgm θ d with
  | some k,some (_,kvs)=>.ok (.bl (valD kvs k).isSome) θ
  | _,_=>.bad:=nr' rfl
@[simp] theorem Zyb:ZmC fo fe ρ θ=(fo ρ θ).bind fun d θ=>match Zgm θ d with
  | none=>.bad
  | some _=>(fe ρ θ).bind fun y θ=>match Zk4 y,Zgm θ d with
    | some k,some (l,kvs)=>match valD kvs k with
      | some v=>.ok v (θ.set l (.dK (dropD kvs k)))
      | none=>.bad
    | _,_=>.bad:=nr' rfl
@[simp] theorem ZvR:ZlU fo fe ff ρ θ=(fo ρ θ).bind fun d θ=>match Zgm θ d with
  | none=>.bad
  | some _=>(fe ρ θ).bind fun y θ=>(ff ρ θ).bind fun z θ=>match Zk4 y,Zgm θ d with
    | some k,some (l,kvs)=>if kvs.length<BIG then (match valD kvs k with
      | some v=>.ok v θ
      | none=>.ok z (θ.set l (.dK (putD kvs k z)))) else .bad
    | _,_=>.bad:=nr' rfl
@[simp] theorem Zx8 {n:Int}:Zk4 (.int n)=some (.inl n):=nr' rfl
end
abbrev EL:=List (Int×Int)
def atE (m:EL) (n:Int):Option Int:=(m.find? fun p=>decide (p.1=n)).map (·.2)
def Zdl (m:EL) (n:Int):EL:=m.filter fun p=>decide (p.1≠n)
def Zgy (m:EL) (n b:Int):EL:=match atE m n with | some _=>m | none=>m++[(n,b)]
abbrev ed (p:Int×Int):Key×D:=(Sum.inl p.1,D.int p.2)
theorem Zft (n:Int):∀m:EL,valD (m.map ed) (.inl n)=(atE m n).map D.int
  | []=>rfl
  | p::r=>by
    have ih:=Zft n r
    unfold valD atE at ih ⊢
    by_cases e:p.1=n
    · simp [ed,e]
    · simpa [ed,e] using ih
theorem Zlj (n:Int):∀m:EL,dropD (m.map ed) (.inl n)=(Zdl m n).map ed
  | []=>rfl
  | p::r=>by
    have ih:=Zlj n r
    unfold dropD Zdl at ih ⊢
    by_cases e:p.1=n
    · simpa [ed,e] using ih
    · simpa [ed,e] using ih
theorem ZqH (n:Int):∀m:EL,((m.map ed).any fun kv=>decide (kv.1=Sum.inl n))=(atE m n).isSome
  | []=>rfl
  | p::r=>by
    have ih:=ZqH n r
    unfold atE at ih ⊢
    by_cases e:p.1=n
    · simp [ed,e]
    · simpa [ed,e] using ih
theorem Zrg (n b:Int) (m:EL) (h:atE m n=none):putD (m.map ed) (.inl n) (.int b)=(m++[(n,b)]).map ed:=by
  unfold putD
  rw [ZqH,h]
  simp [ed]
section
variable {θ:Sto} {l:Nat} {e:Zt} {s:Seg} {now:Int}
theorem dk3 (h:l+3 < θ.length):Zgm (upE θ l e) (.ref (l+3))=some (l+3,e.early.map ed):=by
  have:(upE θ l e)[l+3]?=some (c3 e):=by
    unfold upE
    rw [List.getElem?_set_self (by simpa using h)]
  show (match (upE θ l e)[l+3]? with | some (Cell.dK kvs)=>some (l+3,kvs) | _=>none)=_
  rw [this]
  rfl
theorem ZuR (h:l+3 < θ.length) (m:EL):(upE θ l e).set (l+3) (.dK (m.map ed))=upE θ l { e with early:=m }:=by
  unfold upE
  rw [List.set_set]
  rfl
end
def inWin (e:Zt) (n:Int):Bool:=decide (0≤ZU n e.rcv) && decide (ZU n e.rcv<ZV e)
def Zdk (e:Zt) (s:Seg):Bool:=if Zk3 s=0 then decide (0≤ZU s.num e.rcv) && decide (ZU s.num e.rcv≤64) else inWin e s.num || inWin e (Zl s.num (Zk3 s-1))
def Zdz (e:Zt) (s:Seg) (now:Int):Zt:=
  if bears s 4=true then e
  else if e.state=.timeWait then { e with owes_answer:=true,since:=now }
  else if e.state=.synCome∧bears s 2=true∧bears s 16=false then { e with owes_syn:=true }
  else { e with owes_answer:=true }
def Ze4 (e:Zt) (s:Seg):Zt:=if e.state=.timeWait then e else if s.num=e.rcv then { e with state:=.closed,error:=.reset } else { e with owes_answer:=true }
def zG (a b:Int):Bool:=decide (0<ZU a b)
def ZeZ (e:Zt) (s:Seg):Zt:={ e with wnd:=s.win,told:=s.num,told_by:=s.ans }
def ZaC (e:Zt) (s:Seg):Bool×Zt:=
  if e.nxt=e.first∨¬s.ans=e.nxt then (false,Zbj e s)
  else (true,ZeZ { e with una:=s.ans,state:=if e.has_closed=true then .waitOne else .opn } s)
def isNewer (e:Zt) (s:Seg):Bool:=if s.num=e.told then !zG e.told_by s.ans else zG s.num e.told
def Zba (e:Zt) (s:Seg) (now:Int):Zt:=
  if zG s.ans e.una=true then
    (if s.ans=e.nxt then { e with written:=e.written.drop (ZU s.ans e.una).toNat,una:=s.ans } else Z0 { e with written:=e.written.drop (ZU s.ans e.una).toNat,una:=s.ans } now)
  else e
def Z5 (e:Zt) (s:Seg) (now:Int):Zt:=
  let e1:=Zba e s now
  if zG e1.una s.ans=true then e1
  else
    let e2:=if (zG s.ans e.una || isNewer e1 s)=true then ZeZ e1 s else e1
    if e1.wnd=0∨e2.wnd=0 then { e2 with tries:=0 } else e2
def ZgV (e:Zt):Bool:=zG e.nxt e.behind
def ZaN (e:Zt) (now:Int):Zt:=
  if ZgV e=false∨¬e.una=e.nxt then e
  else if e.state=.waitOne then { e with state:=.waitTwo }
  else if e.state=.closing then { e with state:=.timeWait,since:=now }
  else if e.state=.lastAck then { e with state:=.closed }
  else e
def goesOn (e:Zt) (s:Seg) (now:Int):Bool×Zt:=
  if e.state=.synCome then ZaC e s
  else if zG s.ans e.nxt=true then (false,{ e with owes_answer:=true })
  else (!decide ((ZaN (Z5 e s now) now).state=.closed),ZaN (Z5 e s now) now)
def zW (e:Zt) (num:Int):Nat→List Int→Zt
  | _,[]=>e
  | k,b::r=>zW (if inWin e (Zl num k)=true then { e with early:=Zgy e.early (Zl num k) b } else e) num (k+1) r
def z0 (e:Zt) (s:Seg):Zt:=if 0<s.data.length then { zW e s.num 0 s.data with owes_answer:=true } else zW e s.num 0 s.data
def Zbv (e:Zt) (s:Seg):Zt:=
  if bears s 1=false then e
  else if e.early_fin=none∧inWin e (Zl s.num s.data.length)=true then { e with owes_answer:=true,early_fin:=some (Zl s.num s.data.length) }
  else { e with owes_answer:=true }
def drawn:Nat→Zt→List Int×Zt
  | 0,e=>([],e)
  | n+1,e=>if e.early_fin=some e.rcv then ([],e) else match atE e.early e.rcv with
    | none=>([],e)
    | some b=>(b::(drawn n { e with early:=Zdl e.early e.rcv,rcv:=Zl e.rcv 1 }).1,(drawn n { e with early:=Zdl e.early e.rcv,rcv:=Zl e.rcv 1 }).2)
def ZfM (e:Zt) (r:List Int):Zt:={ e with come:=e.come++Zbf r none (some (ZV e)) }
def ZgY (e:Zt) (now:Int):Zt:=
  if e.state=.opn then { e with rcv:=Zl e.rcv 1,state:=.closeWait }
  else if e.state=.waitOne then { e with rcv:=Zl e.rcv 1,state:=.closing }
  else { e with rcv:=Zl e.rcv 1,state:=.timeWait,since:=now }
section
variable {θ:Sto} {l:Nat} {e:Zt} {s:Seg} {now n a b:Int}
@[simp] theorem Zyj:Zcg [.int a,.int b] θ=.ok (.bl (zG a b)) θ:=by simp [Zcg,Zlt,zG]
@[simp] theorem ZsQ (h:l+3 < θ.length):Zbi [.ref l] (upE θ l e)=.ok (.bl (ZgV e)) (upE θ l e):=by
  simp [Zbi,ZdN,h,ZgV]
@[simp] theorem Zsg (h:l+3 < θ.length):zo [.ref l,.int n] (upE θ l e)=.ok (.bl (inWin e n)) (upE θ l e):=by
  by_cases c:0≤ZU n e.rcv<;>simp [zo,ZdM,h,inWin,ZV,c]<;>exact decide_eq_decide.mpr Iff.rfl
@[simp] theorem Zyk (h:l+3 < θ.length):Zga [.ref l,s.d] (upE θ l e)=.ok (.bl (Zdk e s)) (upE θ l e):=by
  by_cases c:Zk3 s=0
  · by_cases c1:0≤ZU s.num e.rcv<;>simp [Zga,ZhO,Zfq,h,Zf4,c,c1,Zdk]
  · by_cases c1:inWin e s.num=true<;>simp [Zga,ZhO,Zfq,h,Zf4,c,c1,Zdk]
@[simp] theorem Zsc (h:l+3 < θ.length):Zbh [.ref l,s.d,.int now] (upE θ l e)=.ok .non (upE θ l (Zdz e s now)):=by
  by_cases c4:bears s 4=true
  · simp [Zbh,Zcr,ZbJ,h,c4,Zdz]
  · by_cases ct:e.state=.timeWait
    · simp [Zbh,Zcr,ZbJ,ZcI,ZcH,h,c4,ct,Zdz]
    · by_cases cs:e.state=.synCome<;>by_cases c2:bears s 2=true<;>by_cases c16:bears s 16=true<;>simp [Zbh,Zcr,ZbJ,ZcI,ZcH,h,c4,ct,cs,c2,c16,Zdz]
@[simp] theorem Zq2 (h:l+3 < θ.length):Zbq [.ref l,s.d] (upE θ l e)=.ok .non (upE θ l (Ze4 e s)):=by
  by_cases ct:e.state=.timeWait
  · simp [Zbq,Zda,Zcn,Zcm,h,ct,Ze4]
  · by_cases c:s.num=e.rcv<;>simp [Zbq,Zda,Zcn,Zcm,h,ct,c,Ze4]
@[simp] theorem ZqM (h:l+3 < θ.length):ZaD [.ref l,s.d] (upE θ l e)=.ok .non (upE θ l (ZeZ e s)):=by
  simp [ZaD,Zen,h,ZeZ]
@[simp] theorem Zpd (h:l+3 < θ.length):zr [.ref l,s.d] (upE θ l e)=.ok (.bl (ZaC e s).1) (upE θ l (ZaC e s).2):=by
  by_cases c1:e.nxt=e.first
  · simp [zr,Zaw,z9,h,c1,ZaC]
  · by_cases c2:s.ans=e.nxt
    · by_cases c3:e.has_closed=true<;>simp [zr,Zaw,z9,h,c1,c2,c3,ZaC]
    · simp [zr,Zaw,z9,h,c1,c2,ZaC]
@[simp] theorem ZsX (h:l+3 < θ.length):Zc1 [.ref l,s.d] (upE θ l e)=.ok (.bl (isNewer e s)) (upE θ l e):=by
  by_cases c:s.num=e.told<;>simp [Zc1,ZfW,ZeP,h,c,isNewer]
theorem ZqW (h:l+3 < θ.length):Zfi [.ref (l+1),.int n] (upE θ l e)=.ok (il (e.written.take n.toNat)) (upE θ l { e with written:=e.written.drop n.toNat }):=by
  by_cases c:0<n
  · simp [Zfi,ZfU,h,Zgn,ZdK,c,show 0≤n by omega,show ¬n<0 by omega]
  · have z:n.toNat=0:=by omega
    by_cases c0:n<0
    · simp [Zfi,ZfU,h,Zgn,ZdK,z,c0,Zd7]
    · have n0:n=0:=by omega
      simp [Zfi,ZfU,h,Zgn,ZdK,n0,Zd7]
@[simp] theorem ZqO (h:l+3 < θ.length):zL [.ref l,s.d,.int now] (upE θ l e)=.ok .non (upE θ l (Z5 e s now)):=by
  have tk:=fun (e:Zt) (n:Int)=>ZqW (θ:=θ) (l:=l) (e:=e) (n:=n) h
  have h2:Zav [.val (.ref l),.val s.d,.val (.int now),.val (.int s.ans),.val (.bl (zG s.ans e.una)),.no] (upE θ l e)=.ok (.nx,[.val (.ref l),.val s.d,.val (.int now),.val (.int s.ans),.val (.bl (zG s.ans e.una)),.no]) (upE θ l (Zba e s now)):=by
    unfold Zba
    by_cases c1:zG s.ans e.una=true
    · rw [if_pos c1]
      by_cases c2:s.ans=e.nxt
      · rw [if_pos c2,c1]
        simp [Zav,Zb7,h,tk,c2]
      · rw [if_neg c2,c1]
        simp [Zav,Zb7,h,tk,c2]
    · rw [if_neg c1]
      simp [Zav,c1]
  unfold Z5
  obtain ⟨e1,he1⟩:∃x,x=Zba e s now:=⟨_,rfl⟩
  rw [←he1] at h2 ⊢
  obtain ⟨g,hg⟩:∃x,x=zG s.ans e.una:=⟨_,rfl⟩
  rw [←hg] at h2 ⊢
  clear he1
  by_cases c3:zG e1.una s.ans=true
  · simp [zL,Za5,h,←hg,h2,Zau,c3]
  · have w0:∀x:Zt,(if (g || isNewer e1 s)=true then ZeZ e1 s else e1)=x→zL [.ref l,s.d,.int now] (upE θ l e)=.ok .non (upE θ l (if e1.wnd=0∨x.wnd=0 then { x with tries:=0 } else x)):=by
      intro x hx
      have h4:Zbd [.val (.ref l),.val s.d,.val (.int now),.val (.int s.ans),.val (.bl g),.val (.bl (decide (e1.wnd=0)))] (upE θ l e1)=.ok (.nx,[.val (.ref l),.val s.d,.val (.int now),.val (.int s.ans),.val (.bl g),.val (.bl (decide (e1.wnd=0)))]) (upE θ l x):=by
        rw [←hx]
        cases g
        · by_cases c:isNewer e1 s=true<;>simp [Zbd,h,c]
        · simp [Zbd,h]
      by_cases c5:e1.wnd=0
      · rw [if_pos (.inl c5)]
        simp [zL,Za5,h,←hg,h2,Zau,c3,c5] at h4 ⊢
        simp [h4,Zbc,h]
      · by_cases c6:x.wnd=0
        · rw [if_pos (.inr c6)]
          simp [zL,Za5,h,←hg,h2,Zau,c3,c5] at h4 ⊢
          simp [h4,Zbc,h,c6]
        · rw [if_neg (by intro z; exact z.elim c5 c6)]
          simp [zL,Za5,h,←hg,h2,Zau,c3,c5] at h4 ⊢
          simp [h4,Zbc,h,c6]
    simp only [if_neg c3]
    exact w0 _ rfl
@[simp] theorem Zsh (h:l+3 < θ.length):ZR [.ref l,.int now] (upE θ l e)=.ok .non (upE θ l (ZaN e now)):=by
  by_cases c1:ZgV e=true
  · by_cases c2:e.una=e.nxt
    · cases c:e.state<;>simp [ZR,zp,zj,ZaS,ZaR,ZaQ,h,c,c1,c2,ZaN]
    · simp [ZR,zp,zj,h,c1,c2,ZaN]
  · simp [ZR,zp,zj,h,c1,ZaN]
@[simp] theorem Zue (h:l+3 < θ.length):Z1 [.ref l,s.d,.int now] (upE θ l e)=.ok (.bl (goesOn e s now).1) (upE θ l (goesOn e s now).2):=by
  by_cases c1:e.state=.synCome
  · simp [Z1,zE,zz,h,c1,goesOn]
  · by_cases c2:zG s.ans e.nxt=true
    · simp [Z1,zE,zz,Zaa,h,c1,c2,goesOn]
    · simp [Z1,zE,zz,Zaa,h,c1,c2,goesOn]
end
end
end My
namespace My
open PySem L2 L2.MM
noncomputable section
theorem Zit (m:EL) (n b:Int):(Zgy m n b).length≤m.length+1:=by
  unfold Zgy
  cases atE m n<;>simp
section
variable {θ:Sto} {l:Nat} {e:Zt} {s:Seg} {now n b:Int}
abbrev keepB:SM:=Zq (ZM 4 (mCB zq (Zc (mOp ixM (Zd 1) (mC (.int 2))) (Zc (Zd 2) Zk)))) Za4
theorem Zq1 (h:l+3 < θ.length) (k:Nat) (x:Sl) (he:e.early.length<1000):keepB [.val (.ref l),.val s.d,.val (.int k),.val (.int b),x] (upE θ l e)=.ok (.nx,[.val (.ref l),.val s.d,.val (.int k),.val (.int b),.val (.int (Zl s.num k))]) (upE θ l (if inWin e (Zl s.num k)=true then { e with early:=Zgy e.early (Zl s.num k) b } else e)):=by
  have hd:=fun (e:Zt)=>dk3 (θ:=θ) (l:=l) (e:=e) h
  have hs:=fun (e:Zt) (m:EL)=>ZuR (θ:=θ) (l:=l) (e:=e) h m
  have hB:(e.early.map ed).length<BIG:=by simp [BIG]; omega
  obtain ⟨n,hn⟩:∃n,n=Zl s.num k:=⟨_,rfl⟩
  by_cases c:inWin e n=true
  · unfold Zgy
    cases c2:atE e.early n with
    | some v=>
      simp [Za4,h,←hn,c,hd,hB,Zft,c2,-List.length_map]
    | none=>
      simp [Za4,h,←hn,c,hd,hB,Zft,c2,Zrg,hs,-List.length_map,-List.map_append]
  · simp [Za4,h,←hn,c]
theorem Zmb (h:l+3 < θ.length):∀(r:List Int) (k:Nat) (x y z:Sl) (e:Zt),e.early.length+r.length<1000→
    ∃x' y' z',forE 2 3 keepB k (r.map D.int) [.val (.ref l),.val s.d,x,y,z] (upE θ l e)=.ok (.nx,[.val (.ref l),.val s.d,x',y',z']) (upE θ l (zW e s.num k r))
  | [],k,x,y,z,e,_=>⟨x,y,z,rfl⟩
  | b::r,k,x,y,z,e,hl=>by
    have hl':e.early.length+r.length+1<1000:=by simpa [Nat.add_assoc] using hl
    show ∃x' y' z',(keepB [.val (.ref l),.val s.d,.val (.int k),.val (.int b),z] (upE θ l e)).bind (Zfc (forE 2 3 keepB (k+1) (r.map D.int)))=_
    rw [Zq1 h k z (by omega)]
    exact Zmb h r (k+1) _ _ _ _ (by
      split
      · have:=Zit e.early (Zl s.num k) b
        show (Zgy e.early (Zl s.num k) b).length+r.length<1000
        omega
      · omega)
@[simp] theorem ZkC (h:l+3 < θ.length) (hl:e.early.length+s.data.length<1000):ZbT [.ref l,s.d] (upE θ l e)=.ok .non (upE θ l (z0 e s)):=by
  obtain ⟨x,y,z,g⟩:=Zmb (s:=s) h s.data 0 .no .no .no e hl
  have h2:ZcL [.val (.ref l),.val s.d,.no,.no,.no] (upE θ l e)=.ok (.nx,[.val (.ref l),.val s.d,x,y,z]) (upE θ l (zW e s.num 0 s.data)):=by
    rw [←g]
    simp [ZcL,Zp2]
    rfl
  obtain ⟨e1,he1⟩:∃q,q=zW e s.num 0 s.data:=⟨_,rfl⟩
  unfold z0
  rw [←he1] at h2 ⊢
  by_cases c:0<s.data.length
  · rw [if_pos c]
    simp [ZbT,Zdx,h2,ZcK,h,c]
  · rw [if_neg c]
    simp [ZbT,Zdx,h2,ZcK,h,c]
@[simp] theorem Ztd (h:l+3 < θ.length) (e:Zt) (n:Int):zd ["End"] "early_fin" (.int n) (.ref l) (upE θ l e)=some (upE θ l { e with early_fin:=some n }):=ZkK h e (some n)
@[simp] theorem Zum (r:Option Int):Zcy (ZgS r)=r.isNone:=by cases r<;>rfl
theorem ZkB (h:l+3 < θ.length):ZaO [.val (.ref l),.val s.d,.val (.int n)] (upE θ l e)=.ok (.nx,[.val (.ref l),.val s.d,.val (.int n)]) (upE θ l (if e.early_fin=none∧inWin e n=true then { e with early_fin:=some n } else e)):=by
  by_cases c2:e.early_fin=none
  · by_cases c3:inWin e n=true
    · rw [if_pos ⟨c2,c3⟩]
      have q:∀f,e.early_fin=f→f=none→ZaO [.val (.ref l),.val s.d,.val (.int n)] (upE θ l e)=.ok (.nx,[.val (.ref l),.val s.d,.val (.int n)]) (upE θ l { e with early_fin:=some n }):=by
        intro f hf h0
        have h1:e.early_fin.isNone=true:=by rw [hf,h0]; rfl
        simp [ZaO,h,h1,c3]
      exact q _ rfl c2
    · rw [if_neg fun z=>c3 z.2]
      have h1:e.early_fin.isNone=true:=by rw [c2]; rfl
      simp [ZaO,h,h1,c3]
  · rw [if_neg fun z=>c2 z.1]
    have h1:e.early_fin.isNone=false:=by cases q:e.early_fin<;>first | exact absurd q c2 | rfl
    simp [ZaO,h,h1]
@[simp] theorem ZlC (h:l+3 < θ.length):Zci [.ref l,s.d] (upE θ l e)=.ok .non (upE θ l (Zbv e s)):=by
  unfold Zbv
  by_cases c1:bears s 1=true
  · obtain ⟨n,hn⟩:∃n,n=Zl s.num s.data.length:=⟨_,rfl⟩
    have k2:=ZkB (e:={ e with owes_answer:=true }) (s:=s) (n:=n) h
    rw [←hn,c1]
    simp [Zci,Zed,Zc9,h,c1,←hn,k2]
    rfl
  · simp [Zci,Zed,Zc9,c1]
@[simp] theorem ZyK (n:Int) (r:Option Int):neM (.int n) (ZgS r) θ=.ok (.bl (!decide (r=some n))) θ:=by
  cases r with
  | none=>rw [Zhn (by exact Zd8 rfl rfl rfl rfl)]; simp [look,ZgS]
  | some m=>simp [ZgS,eq_comm]
@[simp] theorem Zy4 (n:Int) (r:Option Int):eqM (.int n) (ZgS r) θ=.ok (.bl (decide (r=some n))) θ:=by
  cases r with
  | none=>rw [Zi5 (by exact Zd8 rfl rfl rfl rfl)]; simp [look,ZgS]
  | some m=>simp [ZgS,eq_comm]
abbrev Zqo:TMr:=ZeE (ZG (mOp neM (ZH ["End"] "rcv" (Zd 0)) (ZH ["End"] "early_fin" (Zd 0)))) (ZG (Zp3 (ZH ["End"] "rcv" (Zd 0)) (ZH ["End"] "early" (Zd 0))))
abbrev Zqp:SM:=Zq (Zd6 1 (ZmC (ZH ["End"] "early" (Zd 0)) (ZH ["End"] "rcv" (Zd 0))))
    (ZF ["End"] "rcv" (Zd 0) (mCB zq (Zc (ZH ["End"] "rcv" (Zd 0)) (Zc (mC (.int 1)) Zk))))
theorem Zq6 (h:l+3 < θ.length) (x:Sl):Zqo [.val (.ref l),x] (upE θ l e)=.ok (!decide (e.early_fin=some e.rcv) && (atE e.early e.rcv).isSome) (upE θ l e):=by
  have hd:=fun (e:Zt)=>dk3 (θ:=θ) (l:=l) (e:=e) h
  by_cases c:e.early_fin=some e.rcv<;>simp [h,hd,Zft,c]
theorem Zq7 (h:l+3 < θ.length) {b:Int} (xs:List D) (hx:xs.length<BIG) (hv:atE e.early e.rcv=some b):Zqp [.val (.ref l),.own xs] (upE θ l e)=.ok (.nx,[.val (.ref l),.own (xs++[.int b])]) (upE θ l { e with early:=Zdl e.early e.rcv,rcv:=Zl e.rcv 1 }):=by
  have hd:=fun (e:Zt)=>dk3 (θ:=θ) (l:=l) (e:=e) h
  have hs:=fun (e:Zt) (m:EL)=>ZuR (θ:=θ) (l:=l) (e:=e) h m
  simp [h,hd,Zft,hv,Zlj,hs,hx]
theorem Zqn {m:EL} {n b:Int} (h:atE m n=some b):(Zdl m n).length<m.length:=by
  induction m with
  | nil=>simp [atE] at h
  | cons p r ih=>
    unfold Zdl atE at *
    by_cases e:p.1=n
    · simp [e]
      exact Nat.lt_succ_of_le (List.length_filter_le ..)
    · simp [e] at h ⊢
      have:=ih (by simpa using h)
      simpa using this
theorem Zme (h:l+3 < θ.length):∀(n:Nat) (e:Zt) (xs:List Int),e.early.length<n→xs.length+n<1000→ZcB Zqo Zqp n [.val (.ref l),.own (xs.map D.int)] (upE θ l e)=.ok (.nx,[.val (.ref l),.own ((xs++(drawn n e).1).map D.int)]) (upE θ l (drawn n e).2)
  | 0,e,xs,hn,_=>absurd hn (Nat.not_lt_zero _)
  | n+1,e,xs,hn,hx=>by
    rw [ZgU,Zq6 h]
    unfold drawn
    by_cases c:e.early_fin=some e.rcv
    · simp [c]
    · cases c2:atE e.early e.rcv with
      | none=>simp [c]
      | some b=>
        have:=Zme h n { e with early:=Zdl e.early e.rcv,rcv:=Zl e.rcv 1 } (xs++[b]) (by have:=Zqn c2; simp only; omega) (by simp; omega)
        rw [if_neg c]
        simp only [c,decide_false,Bool.not_false,Bool.true_and,Option.isSome_some,R.bind,if_true]
        rw [Zq7 h (xs.map D.int) (by simp [BIG]; omega) c2]
        simp only [R.bind,Zfc]
        rw [List.map_append] at this
        simpa [List.append_assoc] using this
theorem ZhB:∀(n:Nat) (e:Zt),(drawn n e).2.come=e.come
  | 0,e=>rfl
  | n+1,e=>by
    unfold drawn
    split
    · rfl
    · split
      · rfl
      · exact ZhB n _
theorem ZmL {r:List Int} {k:Int} (h:0≤k):((Zbf r none (some k)).length:Int)≤k:=by
  rw [Zgn r h]
  have:=List.length_take_le k.toNat r
  omega
theorem ZsW (h:l+3 < θ.length) (hc:e.come.length≤64) (r:List Int):ZfB [.ref (l+2),il r] (upE θ l e)=.ok (.int (Zbf r none (some (ZV e))).length) (upE θ l (ZfM e r)):=by
  have h1:e.come.length+(Zbf r none (some (ZV e))).length≤100000:=by
    have:=ZmL (r:=r) (k:=ZV e) (by unfold ZV; omega)
    unfold ZV at *
    omega
  simp [ZfB,Zjc,h,ZfM,h1]
@[simp] theorem ZvV (h:l+3 < θ.length):ZdZ [.ref (l+1)] (upE θ l e)=.ok (.int (64-(e.written.length:Int))) (upE θ l e):=by
  simp [ZdZ,ZhH,h]
theorem ZsV (h:l+3 < θ.length) (hc:e.written.length≤64) (r:List Int):ZfB [.ref (l+1),il r] (upE θ l e)=.ok (.int (Zbf r none (some (64-(e.written.length:Int)))).length) (upE θ l { e with written:=e.written++Zbf r none (some (64-(e.written.length:Int))) }):=by
  have h1:e.written.length+(Zbf r none (some (64-(e.written.length:Int)))).length≤100000:=by
    have:=ZmL (r:=r) (k:=64-(e.written.length:Int)) (by omega)
    omega
  simp [ZfB,Zjc,h,h1]
def Ze6 (e:Zt):Zt:=ZfM (drawn 200 e).2 (drawn 200 e).1
theorem ZgN (h:l+3 < θ.length) (hc:e.come.length≤64) (he:e.early.length<200):Za1 [.ref l] (upE θ l e)=.ok .non (upE θ l (Ze6 e)):=by
  have g:=Zme h 200 e [] he (by simp)
  have g1:ZbD [.val (.ref l),.own []] (upE θ l e)=.ok (.nx,[.val (.ref l),.own ((drawn 200 e).1.map D.int)]) (upE θ l (drawn 200 e).2):=by
    have q:ZbD=ZcB Zqo Zqp 200:=rfl
    rw [q]
    simpa using g
  have hc1:(drawn 200 e).2.come.length≤64:=by rw [ZhB]; exact hc
  obtain ⟨e1,he1⟩:∃q,q=(drawn 200 e).2:=⟨_,rfl⟩
  obtain ⟨r1,hr1⟩:∃q,q=(drawn 200 e).1:=⟨_,rfl⟩
  unfold Ze6
  rw [←he1,←hr1] at g1 ⊢
  rw [←he1] at hc1
  have tl:=ZsW (e:=e1) h hc1 r1
  simp [Za1,Zdp,g1,h,tl]
@[simp] theorem Zs0 (h:l+3 < θ.length):Zcj [.ref l,.int now] (upE θ l e)=.ok .non (upE θ l (ZgY e now)):=by
  by_cases c1:e.state=.opn
  · simp [Zcj,Zee,Zdb,h,c1,ZgY]
  · by_cases c2:e.state=.waitOne<;>simp [Zcj,Zee,ZeR,Zdb,h,c1,c2,ZgY]
def Zbg (e:Zt) (s:Seg):Zt:=Ze6 (Zbv (z0 e s) s)
def ZaW (e:Zt) (s:Seg) (now:Int):Zt:=
  if e.state=.opn∨e.state=.waitOne∨e.state=.waitTwo then
    (if (Zbg e s).early_fin=some (Zbg e s).rcv then ZgY (Zbg e s) now else Zbg e s)
  else e
theorem Zgz (num:Int):∀(r:List Int) (k:Nat) (e:Zt),(zW e num k r).early.length≤e.early.length+r.length
  | [],k,e=>Nat.le_refl _
  | b::r,k,e=>by
    unfold zW
    refine Nat.le_trans (Zgz num r (k+1) _) ?_
    split
    · have:=Zit e.early (Zl num k) b
      simp only [List.length_cons]
      omega
    · simp only [List.length_cons]; omega
theorem Zh2 (e:Zt) (s:Seg):(Zbv e s).early=e.early:=by
  unfold Zbv
  split
  · rfl
  · split<;>rfl
theorem ZiY (e:Zt) (s:Seg):(z0 e s).early.length≤e.early.length+s.data.length:=by
  unfold z0
  split<;>exact Zgz ..
theorem ZfO (num:Int):∀(r:List Int) (k:Nat) (e:Zt),(zW e num k r).come=e.come
  | [],k,e=>rfl
  | b::r,k,e=>by
    unfold zW
    rw [ZfO num r (k+1) _]
    split<;>rfl
theorem ZiX (e:Zt) (s:Seg):(Zbv e s).come=e.come:=by
  unfold Zbv
  split
  · rfl
  · split<;>rfl
theorem Zh3 (e:Zt) (s:Seg):(z0 e s).come=e.come:=by
  unfold z0
  split<;>exact ZfO ..
theorem ZhZ (h:l+3 < θ.length) (hc:e.come.length≤64) (hl:e.early.length+s.data.length<200):ZaE [.ref l,s.d,.int now] (upE θ l e)=.ok .non (upE θ l (ZaW e s now)):=by
  unfold ZaW
  by_cases c:e.state=.opn∨e.state=.waitOne∨e.state=.waitTwo
  · rw [if_pos c]
    have k1:=ZkC (e:=e) (s:=s) h (by omega)
    have k2:=ZlC (e:=z0 e s) (s:=s) h
    have k3:=ZgN (e:=Zbv (z0 e s) s) h (by rw [ZiX,Zh3]; exact hc) (by rw [Zh2]; have:=ZiY e s; omega)
    have k4:Ze6 (Zbv (z0 e s) s)=Zbg e s:=rfl
    rw [k4] at k3
    obtain ⟨e3,he3⟩:∃q,q=Zbg e s:=⟨_,rfl⟩
    rw [←he3] at k3 ⊢
    have c':e.state∈[State.opn,.waitOne,.waitTwo]:=by simpa using c
    by_cases c2:e3.early_fin=some e3.rcv
    · simp [ZaE,ZbK,Zbb,h,c,k1,k2,k3,Zb6,c2]
    · simp [ZaE,ZbK,Zbb,h,c,k1,k2,k3,Zb6,c2]
  · rw [if_neg c]
    simp [ZaE,ZbK,Zbb,h,c]
def Zac (e:Zt) (s:Seg) (now:Int):Zt:=
  if Zdk e s=false then Zdz e s now
  else if bears s 4=true then Ze4 e s
  else if bears s 2=true then { e with owes_answer:=true }
  else if bears s 16=true then (if (goesOn e s now).1=true then ZaW (goesOn e s now).2 s now else (goesOn e s now).2)
  else e
theorem Zi3 (e:Zt) (s:Seg) (now:Int):(goesOn e s now).2.early=e.early:=by
  unfold goesOn
  split
  · unfold ZaC
    split
    · unfold Zbj; split<;>rfl
    · rfl
  · split
    · rfl
    · show (ZaN (Z5 e s now) now).early=e.early
      have h1:(Zba e s now).early=e.early:=by
        unfold Zba
        split
        · split<;>rfl
        · rfl
      have h2:(Z5 e s now).early=e.early:=by
        unfold Z5
        simp only
        split
        · exact h1
        · split
          · split<;>exact h1
          · split<;>exact h1
      unfold ZaN
      split
      · exact h2
      · split
        · exact h2
        · split
          · exact h2
          · split<;>exact h2
theorem Zla (e:Zt) (s:Seg) (now:Int):(goesOn e s now).2.come=e.come:=by
  unfold goesOn
  split
  · unfold ZaC
    split
    · unfold Zbj; split<;>rfl
    · rfl
  · split
    · rfl
    · show (ZaN (Z5 e s now) now).come=e.come
      have h1:(Zba e s now).come=e.come:=by
        unfold Zba
        split
        · split<;>rfl
        · rfl
      have h2:(Z5 e s now).come=e.come:=by
        unfold Z5
        simp only
        split
        · exact h1
        · split
          · split<;>exact h1
          · split<;>exact h1
      unfold ZaN
      split
      · exact h2
      · split
        · exact h2
        · split
          · exact h2
          · split<;>exact h2
theorem Zf5 (h:l+3 < θ.length) (hc:e.come.length≤64) (hl:e.early.length+s.data.length<200):zc [.ref l,s.d,.int now] (upE θ l e)=.ok .non (upE θ l (Zac e s now)):=by
  unfold Zac
  by_cases c1:Zdk e s=true
  · by_cases c2:bears s 4=true
    · simp [zc,zv,zi,zy,h,c1,c2]
    · by_cases c3:bears s 2=true
      · simp [zc,zv,zi,zy,zR,h,c1,c2,c3]
      · by_cases c4:bears s 16=true
        · have hs:=ZhZ (e:=(goesOn e s now).2) (s:=s) (now:=now) h (by rw [Zla]; exact hc) (by rw [Zi3]; exact hl)
          by_cases c5:(goesOn e s now).1=true
          · simp [zc,zv,zi,zy,zR,Zaz,h,c1,c2,c3,c4,c5,hs]
          · simp [zc,zv,zi,zy,zR,Zaz,h,c1,c2,c3,c4,c5]
        · simp [zc,zv,zi,zy,zR,Zaz,h,c1,c2,c3,c4]
  · simp [zc,zv,zi,h,c1]
theorem ZgO (h:l+3 < θ.length) (hc:e.come.length≤64) {r:List Int} (hb:Byt r) (hr:Zas r=true) (hf:Zfd e (ZbA r)=true) (hl:e.early.length+(ZbA r).data.length<200) (h1:¬e.state=.closed) (h2:¬e.state=.listen) (h3:¬e.state=.synSent):zY [.ref l,il r,.int now] (upE θ l e)=.ok (.bl true) (upE θ l (Zac e (ZbA r) now)):=by
  simp [zY,Zdd,Zcb,Zca,Zb9,ZcQ,Zef,ZcW hb,hr,Zmd hb hr,h,hf,h1,h2,h3,Zf5 h hc hl]
def comes (e:Zt) (s:Seg) (now:Int):Zt:=
  match e.state with
  | .closed=>Zbj e s
  | .listen=>Zbo e s
  | .synSent=>Zab e s now
  | _=>Zac e s now
theorem ZdT (h:l+3 < θ.length) (hc:e.come.length≤64) (hs:s.Ok) (hf:Zfd e s=true) (hl:e.early.length<150):zY [.ref l,il (putL s),.int now] (upE θ l e)=.ok (.bl true) (upE θ l (comes e s now)):=by
  have hb:=Zmm hs.put
  have hr:=Zig hs
  have hg:=ZmI hs
  have hd:s.data.length≤16:=hs.data.2
  unfold comes
  cases c:e.state
  · simp only
    rw [ZgQ h hb hr (by rw [hg]; exact hf) c,hg]
  · simp only
    rw [ZgP h hb hr (by rw [hg]; exact hf) c,hg]
  · simp only
    rw [Zf6 h hb hr (by rw [hg]; exact hf) c,hg]
  all_goals
    simp only
    rw [ZgO h hc hb hr (by rw [hg]; exact hf) (by rw [hg]; omega) (by rw [c]; decide) (by rw [c]; decide) (by rw [c]; decide),hg]
def ZeJ (e:Zt):Bool:=!e.has_closed && decide (e.state∈[State.synSent,.synCome,.opn,.closeWait])
def Zh6 (e:Zt) (r:List Int):List Int:=Zbf r none (some (64-(e.written.length:Int)))
def ZiJ (e:Zt) (r:List Int):Zt:=if ZeJ e=true then { e with written:=e.written++Zh6 e r,behind:=Zl e.behind (Zh6 e r).length } else e
theorem ZqV (h:l+3 < θ.length) (hc:e.written.length≤64) (r:List Int):ZdY [.ref l,il r] (upE θ l e)=.ok (.int (if ZeJ e=true then (Zh6 e r).length else 0)) (upE θ l (ZiJ e r)):=by
  have hw:Zh6 e r=Zbf r none (some (64-(e.written.length:Int))):=rfl
  unfold ZiJ ZeJ
  by_cases c:e.has_closed=true
  · simp [ZdY,Ze7,Zdn,h,c]
  · by_cases c2:e.state∈[State.synSent,.synCome,.opn,.closeWait]
    · have c2':e.state=State.synSent∨e.state=State.synCome∨e.state=State.opn∨e.state=State.closeWait:=by simpa using c2
      simp [ZdY,Ze7,Zdn,h,c,c2',←hw,ZsV h hc]
    · have c2':¬(e.state=State.synSent∨e.state=State.synCome∨e.state=State.opn∨e.state=State.closeWait):=by simpa using c2
      simp [ZdY,Ze7,Zdn,h,c,c2']
end
end
end My
namespace My
open PySem L2 L2.MM
noncomputable section
theorem ZpH {n k:Int} (h : -2147483648≤k∧k<2147483648):ZU (Zl n k) n=k:=by
  unfold ZU Zl; omega
theorem Zbt {n j k:Int} (h : -2147483648≤j-k∧j-k<2147483648):ZU (Zl n j) (Zl n k)=j-k:=by
  unfold ZU Zl; omega
@[simp] theorem ZpG (n:Int):ZU n n=0:=by
  unfold ZU; omega
@[simp] theorem ZdG (n:Int):zG n n=false:=by simp [zG]
theorem Zap (n j k:Int):Zl (Zl n j) k=Zl n (j+k):=by
  unfold Zl; omega
theorem Zbp (n k:Int):0≤Zl n k∧Zl n k≤4294967295:=by
  unfold Zl; omega
theorem Znc {n:Int} (h:0≤n∧n≤4294967295):Zl n 0=n:=by
  unfold Zl; omega
theorem Zro {n k:Int} (h:0<k∧k<4294967296):¬Zl n k=n:=by
  unfold Zl; omega
theorem ZdE {n j k:Int} (h:0≤j∧0≤k∧j<4294967296∧k<4294967296):Zl n j=Zl n k↔j=k:=by
  unfold Zl; omega
def Zdt (num:Int):Nat→List Int→EL
  | _,[]=>[]
  | k,b::r=>(Zl num k,b)::Zdt num (k+1) r
theorem ZdR (p:Int×Int) (m:EL) (n:Int):atE (p::m) n=if p.1=n then some p.2 else atE m n:=by
  unfold atE
  by_cases h:p.1=n<;>simp [h]
theorem Zr4 (m m':EL) (n:Int) (h:atE m n=none):atE (m++m') n=atE m' n:=by
  induction m with
  | nil=>rfl
  | cons p r ih=>
    rw [ZdR] at h
    rw [List.cons_append,ZdR]
    by_cases e:p.1=n
    · rw [if_pos e] at h; cases h
    · rw [if_neg e] at h ⊢
      exact ih h
theorem ZmW (num:Int):∀(r:List Int) (k j:Nat),j<k→k+r.length<4294967296→atE (Zdt num k r) (Zl num j)=none
  | [],k,j,_,_=>rfl
  | b::r,k,j,h,hl=>by
    have hl':k+r.length+1<4294967296:=by simpa [Nat.add_assoc] using hl
    rw [Zdt,ZdR,if_neg (by rw [ZdE (by omega)]; omega)]
    exact ZmW num r (k+1) j (by omega) (by omega)
theorem Zl1 (m:EL) (n:Int) (h:atE m n=none):Zdl m n=m:=by
  induction m with
  | nil=>rfl
  | cons p r ih=>
    rw [ZdR] at h
    by_cases e:p.1=n
    · rw [if_pos e] at h; cases h
    · rw [if_neg e] at h
      unfold Zdl at *
      rw [List.filter_cons_of_pos (by simp [e]),ih h]
theorem Znv (num b:Int) (r:List Int) (k:Nat) (hl:k+1+r.length<4294967296):Zdl ((Zl num k,b)::Zdt num (k+1) r) (Zl num k)=Zdt num (k+1) r:=by
  have:=Zl1 (Zdt num (k+1) r) (Zl num k) (ZmW num r (k+1) k (by omega) hl)
  unfold Zdl at *
  rw [List.filter_cons_of_neg (by simp),this]
theorem Zfm (num:Int):∀(r:List Int) (k:Nat) (e:Zt),k+r.length<4294967296→(∀i:Nat,k≤i→i<k+r.length→inWin e (Zl num i)=true∧atE e.early (Zl num i)=none)→zW e num k r={ e with early:=e.early++Zdt num k r }
  | [],k,e,_,_=>by simp [zW,Zdt]
  | b::r,k,e,hl,h=>by
    have hl':k+r.length+1<4294967296:=by simpa [Nat.add_assoc] using hl
    obtain ⟨h1,h2⟩:=h k (Nat.le_refl _) (by simp)
    unfold zW
    rw [if_pos h1]
    have h3:Zgy e.early (Zl num k) b=e.early++[(Zl num k,b)]:=by unfold Zgy; rw [h2]
    rw [h3,Zfm num r (k+1) _ (by omega)]
    · simp [Zdt]
    · intro i hi hj
      obtain ⟨g1,g2⟩:=h i (by omega) (by simp; omega)
      refine ⟨g1,?_⟩
      show atE (e.early++[(Zl num k,b)]) (Zl num i)=none
      rw [Zr4 _ _ _ g2,ZdR,if_neg (by rw [ZdE (by omega)]; omega)]
      rfl
theorem ZhA (num:Int):∀(r:List Int) (k n:Nat) (e:Zt),k+r.length<4294967296→r.length<n→e.rcv=Zl num k→e.early=Zdt num k r→(∀i:Nat,k≤i→i<k+r.length→¬e.early_fin=some (Zl num i))→drawn n e=(r,{ e with early:=[],rcv:=Zl num (k+r.length:Nat) })
  | [],k,0,e,_,hn,_,_,_=>by simp at hn
  | [],k,n+1,e,_,_,h1,h2,_=>by
    unfold drawn
    have:atE e.early e.rcv=none:=by rw [h2]; rfl
    have he:e={ e with early:=[],rcv:=Zl num k }:=by
      obtain ⟨_⟩:=e
      simp only [Zdt] at h1 h2
      subst h1 h2
      rfl
    split
    · simpa using he
    · rw [this]
      simpa using he
  | b::r,k,0,e,_,hn,_,_,_=>by simp at hn
  | b::r,k,n+1,e,hl,hn,h1,h2,h3=>by
    have hl':k+r.length+1<4294967296:=by simpa [Nat.add_assoc] using hl
    have hn':r.length<n:=by simpa using hn
    unfold drawn
    rw [if_neg (by rw [h1]; exact h3 k (Nat.le_refl _) (by simp))]
    have:atE e.early e.rcv=some b:=by rw [h2,h1,Zdt,ZdR]; simp
    rw [this]
    simp only
    have g:=ZhA num r (k+1) n { e with early:=Zdl e.early e.rcv,rcv:=Zl e.rcv 1 } (by omega) hn' (by show Zl e.rcv 1=_; rw [h1,Zap]; simp) (by show Zdl e.early e.rcv=_; rw [h2,h1,Zdt,Znv _ _ _ _ (by omega)]) (fun i hi hj=>h3 i (by omega) (by simp; omega))
    rw [g]
    simp [Nat.add_assoc,Nat.add_comm 1]
theorem Zi8 {r:List Int} {k:Int} (h:(r.length:Int)≤k):Zbf r none (some k)=r:=by
  rw [Zgn r (by omega)]
  exact List.take_of_length_le (by omega)
theorem Zgu {e:Zt} {s:Seg} (hd:s.data.length≤16) (hn:s.num=e.rcv) (hr:0≤e.rcv∧e.rcv≤4294967295) (he:e.early=[]) (hf:e.early_fin=none) (hw:e.come.length+s.data.length+(if bears s 1=true then 1 else 0)≤64) :
    Zbg e s={ e with come:=e.come++s.data,rcv:=Zl e.rcv s.data.length,owes_answer:=e.owes_answer || decide (0<s.data.length) || bears s 1,early_fin:=if bears s 1=true then some (Zl e.rcv s.data.length) else none }:=by
  have w:∀i:Nat,i<s.data.length∨(i=s.data.length∧bears s 1=true)→inWin e (Zl e.rcv i)=true:=by
    intro i hi
    unfold inWin ZV
    rw [ZpH (by omega)]
    have:(i:Int)<64-e.come.length:=by
      rcases hi with hi | ⟨rfl,hi⟩
      · omega
      · rw [if_pos hi] at hw; omega
    simp; omega
  have k1:zW e s.num 0 s.data={ e with early:=Zdt e.rcv 0 s.data }:=by
    rw [hn,Zfm e.rcv s.data 0 e (by omega) (fun i _ hi=>⟨w i (.inl (by omega)),by rw [he]; rfl⟩),he]
    rfl
  have k2:z0 e s={ e with early:=Zdt e.rcv 0 s.data,owes_answer:=e.owes_answer || decide (0<s.data.length) }:=by
    unfold z0
    rw [k1]
    by_cases c:0<s.data.length
    · rw [if_pos c]; simp [c]
    · rw [if_neg c]; simp [c]
  obtain ⟨oa,hoa⟩:∃x,x=(e.owes_answer || decide (0<s.data.length)):=⟨_,rfl⟩
  rw [←hoa] at k2 ⊢
  have k3:Zbv (z0 e s) s={ e with early:=Zdt e.rcv 0 s.data,owes_answer:=oa || bears s 1,early_fin:=if bears s 1=true then some (Zl e.rcv s.data.length) else none }:=by
    rw [k2]
    unfold Zbv
    by_cases c:bears s 1=true
    · have iw:inWin ({ e with early:=Zdt e.rcv 0 s.data,owes_answer:=oa }) (Zl s.num s.data.length)=true:=by
        rw [hn]; exact w _ (.inr ⟨rfl,c⟩)
      rw [if_neg (by simp [c]),if_pos ⟨hf,iw⟩,hn]
      simp [c]
    · rw [if_pos (by simpa using c)]
      simp [c,hf]
  unfold Zbg Ze6
  rw [k3]
  obtain ⟨bf,hbf⟩:∃x,x=bears s 1:=⟨_,rfl⟩
  rw [←hbf]
  rw [ZhA e.rcv s.data 0 200 _ (by omega) (by omega) (by simpa using (Znc hr).symm) rfl (by
    intro i _ hi
    simp only
    cases bf
    · simp
    · simp only [if_true,Option.some.injEq]
      rw [ZdE (by omega)]
      omega)]
  unfold ZfM
  simp only
  rw [Zi8 (by unfold ZV; simp only; split at hw<;>omega)]
  simp [he]
end
end My
namespace My
open PySem L2 L2.MM
noncomputable section
@[simp] theorem ZzO {f:Int} (h0:0≤f) (h1:f≤31):bit f 1=f % 2:=(ZqF ⟨h0,h1⟩).1
@[simp] theorem ZvI {f:Int} (h0:0≤f) (h1:f≤31):bit f 2=f/2 % 2:=(ZqF ⟨h0,h1⟩).2.1
@[simp] theorem ZzN {f:Int} (h0:0≤f) (h1:f≤31):bit f 4=f/4 % 2:=(ZqF ⟨h0,h1⟩).2.2.1
@[simp] theorem Zy7 {f:Int} (h0:0≤f) (h1:f≤31):bit f 16=f/16 % 2:=(ZqF ⟨h0,h1⟩).2.2.2.2
@[simp] theorem ZvJ {a b c d f w m k:Int} {x:List Int}:bears ⟨a,b,c,d,f,w,m,x⟩ k=decide (bit f k=1):=rfl
@[simp] theorem Zv4 {a b c d f w m:Int} {x:List Int}:Zk3 ⟨a,b,c,d,f,w,m,x⟩=x.length+bit f 2+bit f 1:=rfl
def Zpg:Option Seg→List Int
  | none=>[]
  | some s=>putL s
@[simp] theorem Zth:Zpg none=[]:=rfl
@[simp] theorem Ztg (s:Seg):Zpg (some s)=putL s:=rfl
theorem Zmj {base:Sto} {l:Nat} {e:Zt} {t:Int} {r:Option Seg} {e':Zt} (hl:l+3<base.length) (g:Zan e t=(r,e')) (hp:∀s,r=some s→s.Put):ZcC [.ref l,.int t] (upE base l e)=.ok (il (Zpg r)) (upE base l e'):=by
  rw [ZsR hl (by rw [g]; exact hp),g]
  unfold ZiM
  rw [g]
  cases r<;>rfl
theorem Zm9 {base:Sto} {l:Nat} {e:Zt} {t:Int} {e':Zt} (hl:l+3<base.length) (g:Zan e t=(none,e')):ZcC [.ref l,.int t] (upE base l e)=.ok (il []) (upE base l e'):=Zmj hl g (fun s h=>by cases h)
theorem Zie {base:Sto} {l:Nat} {e:Zt} {t:Int} {e':Zt} {s:Seg} (hl:l+3<base.length) (g:Zan e t=(some s,e')) (hp:s.Ok):ZcC [.ref l,.int t] (upE base l e)=.ok (il (putL s)) (upE base l e'):=Zmj hl g (fun s h=>by cases h; exact hp.put)
theorem Ztk (s:Seg):putL s≠[]:=fun z=>by
  have:=Zml (s:=s)
  rw [z] at this
  simp at this
  split at this<;>omega
def synE (a b f g W m:Int):Zt:={ newEnd a b f false with state:=.synCome,rcv:=Zl g 1,wnd:=W,told:=g,told_by:=0,most:=if m=0 then 12 else m }
def Zdf (a b f g W m t:Int):Zt:={ synE a b f g W m with nxt:=Zl f 1,since:=t }
def Zdh (a b f g W m t:Int):Zt:={ newEnd a b f false with state:=.opn,una:=Zl f 1,nxt:=Zl f 1,rcv:=Zl g 1,wnd:=W,told:=Zl g 1,told_by:=Zl f 1,most:=if m=0 then 12 else m,since:=t }
section
variable {a b f g W m t t' x:Int} {ex:List Int} {fl:Int}
theorem Zvf (hf:fl=2∨fl=3):comes (newEnd a x f false) ⟨b,a,g,0,fl,W,m,ex⟩ t=synE a b f g W m:=by
  rcases hf with rfl | rfl<;>simp [comes,newEnd,Zbo,hearSyn,synE]
theorem Zve:Zan (synE a b f g W m) t=(some ⟨a,b,f,Zl g 1,18,64,16,[]⟩,Zdf a b f g W m t):=by
  simp [Zan,ZbH,zg,Zfk,newEnd,ZfA,Z0,synE,Zdf]
theorem Zvd:comes (Zdf a b f g W m t) ⟨b,a,Zl g 1,Zl f 1,16,W,0,[]⟩ t'=Zdh a b f g W m t:=by
  have h2:¬Zl f 1=f:=Zro (by omega)
  have ft:Zdk (Zdf a b f g W m t) ⟨b,a,Zl g 1,Zl f 1,16,W,0,[]⟩=true:=by
    simp [Zdk,Zdf,synE,newEnd]
  have go:goesOn (Zdf a b f g W m t) ⟨b,a,Zl g 1,Zl f 1,16,W,0,[]⟩ t'=(true,Zdh a b f g W m t):=by
    simp [goesOn,ZaC,Zdf,synE,newEnd,h2,ZeZ,Zdh]
  have st:Zbg (Zdh a b f g W m t) ⟨b,a,Zl g 1,Zl f 1,16,W,0,[]⟩=Zdh a b f g W m t:=by
    rw [Zgu (by simp) rfl (Zbp _ _) rfl rfl (by simp [Zdh,newEnd])]
    simp [Zdh,newEnd,Zap]
  have hs:ZaW (Zdh a b f g W m t) ⟨b,a,Zl g 1,Zl f 1,16,W,0,[]⟩ t'=Zdh a b f g W m t:=by
    unfold ZaW
    rw [st]
    simp [Zdh,newEnd]
  have:comes (Zdf a b f g W m t) ⟨b,a,Zl g 1,Zl f 1,16,W,0,[]⟩ t'=Zac (Zdf a b f g W m t) ⟨b,a,Zl g 1,Zl f 1,16,W,0,[]⟩ t':=rfl
  rw [this]
  unfold Zac
  rw [ft,go,hs]
  simp
end
section
variable {θ:Sto} {l:Nat} {e:Zt} {s:Seg} {now n:Int}
theorem Zln (θ:Sto) (e e':Zt):upE (θ++cells θ.length e) θ.length e'=θ++cells θ.length e':=by
  have h0:∀(i:Nat) (c:Cell) (r:Sto),(θ++r).set (θ.length+i) c=θ++r.set i c:=by
    intro i c r
    rw [List.set_append_right _ _ (by omega)]
    congr 2
    omega
  have h1:∀(c:Cell) (r:Sto),(θ++r).set θ.length c=θ++r.set 0 c:=fun c r=>h0 0 c r
  unfold upE cells
  rw [h1,h0,h0,h0]
  rfl
theorem ZlB {a b n k f w:Int} {x:List Int} (θ:Sto):ZcU [.tup [.int a,.int b],.int n,.int k,.int f,.int w,il x] θ=.ok (Seg.mk b a n k f w 0 x).d θ:=by
  simp [ZcU,ZgI,Zso]
theorem Zhh {a b n k f w m:Int} {x:List Int} (ha:0≤a∧a≤65535) (hb:0≤b∧b≤65535) (hn:0≤n∧n≤4294967295) (hk:0≤k∧k≤4294967295) (hf:0≤f∧f≤31) (hw:0≤w∧w≤65535) (hm:m=0∨(4≤m∧m≤65535∧f/2 % 2=1)) (hx:(∀z∈x,0≤z∧z≤255)∧x.length≤16):(Seg.mk a b n k f w m x).Ok:=⟨ha,hb,hn,hk,hf,hw,hm,hx⟩
theorem ZfG:(∀z∈([]:List Int),0≤z∧z≤255)∧([]:List Int).length≤16:=⟨by simp,by simp⟩
theorem Zlh {n:Int} (h:0≤n∧n≤4294967295):0≤Zbw n∧Zbw n≤4294967295:=by
  unfold Zbw
  split<;>omega
theorem Zm1 {ns:List Int} {base W m:Int} (θ:Sto) (hW:0≤W∧W≤65535) (hm:m=0∨(4≤m∧m≤65535)) :
    ZdJ [.scr ns,.int base,.int W,.int m] θ=.ok (.tup [.ref θ.length,.tup [.int (mix ns base % 65536),.int (mix ns (base+1) % 65536)],.int (Zl (Zbw (mix ns (base+2))) 1),.int (Zl (Zbw (mix ns (base+3))) 1)])
      (θ++cells θ.length (Zdh (mix ns base % 65536) (mix ns (base+1) % 65536) (Zbw (mix ns (base+2))) (Zbw (mix ns (base+3))) W m 0)):=by
  obtain ⟨a,ha⟩:∃x,x=mix ns base % 65536:=⟨_,rfl⟩
  obtain ⟨b,hb⟩:∃x,x=mix ns (base+1) % 65536:=⟨_,rfl⟩
  obtain ⟨f,hf⟩:∃x,x=Zbw (mix ns (base+2)):=⟨_,rfl⟩
  obtain ⟨g,hg⟩:∃x,x=Zbw (mix ns (base+3)):=⟨_,rfl⟩
  have ra:0≤a∧a≤65535:=by omega
  have rb:0≤b∧b≤65535:=by omega
  have rf:0≤f∧f≤4294967295:=by rw [hf]; exact Zlh (by have:=ZpV ns (base+2); omega)
  have rg:0≤g∧g≤4294967295:=by rw [hg]; exact Zlh (by have:=ZpV ns (base+3); omega)
  rw [←ha,←hb,←hf,←hg]
  have k1:(Seg.mk b a g 0 2 W m []).Ok:=Zhh rb ra rg (by omega) (by omega) hW (hm.imp id fun h=>⟨h.1,h.2,by decide⟩) ZfG
  have k2:(Seg.mk a b f (Zl g 1) 18 64 16 []).Ok:=Zhh ra rb rf (Zbp _ _) (by omega) (by omega) (.inr (by decide)) ZfG
  have k3:(Seg.mk b a (Zl g 1) (Zl f 1) 16 W 0 []).Ok:=Zhh rb ra (Zbp _ _) (Zbp _ _) (by omega) hW (.inl rfl) ZfG
  have hl:θ.length+3<(θ++cells θ.length (newEnd a 7 f false)).length:=by simp [cells]
  have q1:=Zo8 (a:=a) (b:=7) (c:=f) (act:=false) θ
  have q2:=ZdT (e:=newEnd a 7 f false) (now:=0) hl (by simp [newEnd]) k1 (by simp [Zfd,newEnd]) (by simp [newEnd])
  have q3:=Zie hl (Zve (a:=a) (b:=b) (f:=f) (g:=g) (W:=W) (m:=m) (t:=0)) k2
  have q4:=ZdT (e:=Zdf a b f g W m 0) (now:=0) hl (by simp [Zdf,synE,newEnd]) k3 (by simp [Zfd,newEnd,Zdf,synE]) (by simp [newEnd,Zdf,synE])
  rw [Zvf (.inl rfl)] at q2
  rw [Zvd] at q4
  rw [Zln,Zln] at q2 q3 q4
  have b1:=fun θ=>Zha k1 θ
  have b3:=fun θ=>Zha k3 θ
  obtain ⟨e1,he1⟩:∃x,x=newEnd a 7 f false:=⟨_,rfl⟩
  obtain ⟨e2,he2⟩:∃x,x=synE a b f g W m:=⟨_,rfl⟩
  obtain ⟨e3,he3⟩:∃x,x=Zdf a b f g W m 0:=⟨_,rfl⟩
  obtain ⟨e4,he4⟩:∃x,x=Zdh a b f g W m 0:=⟨_,rfl⟩
  rw [←he1] at q1 q2
  rw [←he2] at q2 q3
  rw [←he3] at q3 q4
  rw [←he4] at q4 ⊢
  simp [ZdJ,ZhR,←ha,←hb,←hf,←hg,ZiN,b1,b3,q1,q2,q3,q4]
end
end
end My
namespace My
open PySem L2 L2.MM
noncomputable section
theorem ZrB (x y z:Int) (θ:Sto):Zc4 (.int x) (.tup [.int y,.int z]) θ=.ok (.bl (!decide (x=y∨x=z))) θ:=by
  have e:inD θ (.int x) (.tup [.int y,.int z])=some (decide (y=x) || (decide (z=x) || false)):=rfl
  have e2:(decide (y=x) || (decide (z=x) || false))=decide (x=y∨x=z):=by
    rw [Bool.eq_iff_iff]
    simp only [Bool.or_eq_true,decide_eq_true_eq,Bool.false_eq_true,or_false]
    constructor
    · rintro (h | h)
      · exact .inl h.symm
      · exact .inr h.symm
    · rintro (h | h)
      · exact .inl h.symm
      · exact .inr h.symm
  unfold Zc4
  rw [e,e2]
theorem Zq0 {z:Int} (h:0≤z∧z≤255) (θ:Sto):Zgh [.int z] θ=.ok (.bl true) θ:=by
  have h1:ZgB [.int z,.ty "int"] θ=.ok (.bl true) θ:=rfl
  have h2:ZgB [.int z,.ty "bool"] θ=.ok (.bl false) θ:=rfl
  simp [Zgh,Zlx,h1,h2,h.1,h.2]
theorem ZrZ {α:Type} (xs:List α):Zjb (xs.map fun _=>D.bl true)=some (List.replicate xs.length true):=by
  induction xs with
  | nil=>rfl
  | cons x xs ih=>rw [List.map_cons,Zjb,ih]; rfl
theorem ZqI (n:Nat):(List.replicate n true).all id=true:=by
  induction n with
  | zero=>rfl
  | succ n ih=>rw [List.replicate_succ,List.all_cons,ih]; rfl
theorem ZqZ {a:List Int} (h:Byt a) (hr:Zas a=true) (θ:Sto):Zgf [il a] θ=.ok (ZbA a).d θ:=by
  obtain ⟨l1,l2,l3,l4⟩:=ZgA hr
  have hr':=hr
  unfold Zas at hr'
  simp only [Bool.and_eq_true,decide_eq_true_eq,Bool.or_eq_true] at hr'
  obtain ⟨r1,r2,r3,r4,r5,r6,r7⟩:=hr'
  have gg:∀i:Nat,i<a.length→0≤gt a i∧gt a i≤255:=fun i hi=>by
    unfold gt
    have:=h.1 a[i] (List.getElem_mem hi)
    rw [List.getD_eq_getElem?_getD,List.getElem?_eq_getElem hi]
    exact this
  have b13:=gg 13 (by omega)
  have b18:=gg 18 (by omega)
  have b19:=gg 19 (by omega)
  have ix:∀i:Nat,i<a.length→ixM (il a) (.int (i:Int)) θ=.ok (.int (gt a i)) θ:=fun i hi=>ZbQ (a:=a) (θ:=θ) (i:=(i:Int)) (by omega) (by omega)
  have i12:ixM (il a) (.int 12) θ=.ok (.int (gt a 12)) θ:=ix 12 (by omega)
  have i13:ixM (il a) (.int 13) θ=.ok (.int (gt a 13)) θ:=ix 13 (by omega)
  have i18:ixM (il a) (.int 18) θ=.ok (.int (gt a 18)) θ:=ix 18 (by omega)
  have i19:ixM (il a) (.int 19) θ=.ok (.int (gt a 19)) θ:=ix 19 (by omega)
  have z5:gt a 18+gt a 19=0:=by unfold at2 at r5; simp only [Nat.reduceAdd] at r5; omega
  have len20:¬(a.length:Int)<20:=by omega
  have R1:∀r,b_l_read_1 (.val (il a)::r) θ=.ok (.nx,.val (il a)::r) θ:=by
    intro r
    simp [b_l_read_1,isT,len20]
  have R2:∀r,b_l_read_2 (.val (il a)::r) θ=.ok (.nx,.val (il a)::r) θ:=by
    intro r
    have cp:=Znl (ρ:=.val (il a)::r) (θ:=θ) (fi:=mIn (Zd 0)) (src:=[]) (elt:=mCB Zgh (Zc (Zd 0) Zk)) (d:=il a) (xs:=a.map D.int) (θ':=θ) (fun _=>.bl true) (by simp) rfl (by have:=h.2; simp [BIG]; omega) (by
      intro x hx
      obtain ⟨z,hz,rfl⟩:=List.mem_map.mp hx
      simp [Zq0 (h.1 z hz)])
    have al:ZqJ [D.lst ((a.map D.int).map fun _=>D.bl true)] θ=.ok (.bl true) θ:=by
      rw [ZuA,ZrZ]
      simp only [ZqI]
    obtain ⟨q,hq⟩:∃x,x=D.lst ((a.map D.int).map fun _=>D.bl true):=⟨_,rfl⟩
    rw [←hq] at cp al
    simp [b_l_read_2,cp,al]
  have hb:Zbn a=gt a 12/4:=by unfold Zbn; rcases r2 with e | e<;>rw [e]<;>rfl
  have q4:gt a 12/4≤a.length∧(a.length:Int)≤gt a 12/4+16:=by rw [←hb]; omega
  have R3:∀r,b_l_read_3 (.val (il a)::r) θ=.ok (.nx,.val (il a)::r) θ:=by
    intro r
    simp [b_l_read_3,i12,i13,i18,i19,ZrB,r2,z5,show ¬(31:Int)<gt a 13 by omega]
  have fo:=Zh8 h θ
  rw [r7] at fo
  have R4:∀r,b_l_read_4 (.val (il a)::.val (.int (gt a 12/4))::r) θ=.ok (.nx,.val (il a)::.val (.int (gt a 12/4))::r) θ:=by
    intro r
    simp [b_l_read_4,fo,q4.1,q4.2]
  obtain ⟨hd,hhd⟩:∃x,x=gt a 12/4:=⟨_,rfl⟩
  rw [←hhd] at R4 hb q4
  have R6:∀x y,b_l_read_6 [.val (il a),.val (.int hd),.val (.int 0),x,y] θ=.ok (.nx,[.val (il a),.val (.int hd),.val (.int (if Zbn a=24 then at2 a 22 else 0)),x,y]) θ:=by
    intro x y
    by_cases c:hd=24
    · have lo:=(l2.resolve_left (by rw [hb,c]; decide)).2
      have i20:gt a 20=2∧gt a 21=4∧gt a 13/2 % 2=1∧4≤at2 a 22:=by
        have:=lo.2
        unfold longOk at this
        simp only [Bool.and_eq_true,decide_eq_true_eq] at this
        obtain ⟨t1,t2,t3,t4⟩:=this
        rw [ZvI (by omega) (by omega)] at t1
        exact ⟨t2,t3,t1,t4⟩
      obtain ⟨e20,e21,e13,e22⟩:=i20
      have i22:ixM (il a) (.int 22) θ=.ok (.int (gt a 22)) θ:=ix 22 (by omega)
      have i23:ixM (il a) (.int 23) θ=.ok (.int (gt a 23)) θ:=ix 23 (by omega)
      have cu:Zbf a (some 20) (some 22)=[2,4]:=by
        have:Zbf a (some 20) (some 22)=[gt a 20,gt a 21]:=by
          rw [Zi7 _ (by decide) (by decide),show (20:Int).toNat=20 from rfl,show (22:Int).toNat-20=2 from rfl,List.drop_eq_getElem_cons (show 20<a.length by omega),List.drop_eq_getElem_cons (show 21<a.length by omega)]
          rw [List.take_succ_cons,List.take_succ_cons,List.take_zero]
          unfold gt
          rw [List.getD_eq_getElem?_getD,List.getD_eq_getElem?_getD,List.getElem?_eq_getElem (show 20<a.length by omega),List.getElem?_eq_getElem (show 21<a.length by omega)]
          rfl
        rw [this,e20,e21]
      have m22:gt a 22*256+gt a 23=at2 a 22:=by unfold at2; simp only [Nat.reduceAdd]; omega
      have mb:ZeX (gt a 22) 256:=.inr (by omega)
      rw [hb,if_pos c]
      simp [b_l_read_6,ZhQ,c,i22,i23,i13,e13,cu,m22,mb,show ¬at2 a 22<4 by omega]
    · rw [hb,if_neg c]
      simp [b_l_read_6,c]
  have cp:=fun y z=>Zir (ρ:=[.val (il a),.val (.int hd),.val (.int (if Zbn a=24 then at2 a 22 else 0)),y,z]) (θ:=θ) (fi:=ZcN (Zc (mC (.int 8)) Zk)) (src:=[0])
    (elt:=mOp ZL (mOp Zcc (mC (.int 256)) (mOp ixM (Zd 1) (mOp Zcc (mC (.int 2)) (Zd 0)))) (mOp ixM (Zd 1) (mOp ZL (mOp Zcc (mC (.int 2)) (Zd 0)) (mC (.int 1))))) (lo:=0) (n:=8) (θ':=θ) (fun k=>.int (256*gt a (2*k).toNat+gt a (2*k+1).toNat))
    (by simp) (by simp [BIG]) (by
      intro i hi
      have j1:=ZbQ (a:=a) (θ:=θ) (i:=2*(i:Int)) (by omega) (by omega)
      have j2:=ZbQ (a:=a) (θ:=θ) (i:=2*(i:Int)+1) (by omega) (by omega)
      simp [ZeX,j1,j2])
  have wl:(List.range 8).map (fun (i:Nat)=>D.int (256*gt a (2*((0:Int)+(i:Int))).toNat+gt a (2*((0:Int)+(i:Int))+1).toNat))=[.int (at2 a 0),.int (at2 a 2),.int (at2 a 4),.int (at2 a 6),.int (at2 a 8),.int (at2 a 10),.int (at2 a 12),.int (at2 a 14)]:=rfl
  have dr:Zbf a (some hd) none=a.drop hd.toNat:=ZdK a (by omega)
  have c4:at2 a 4*65536+at2 a 6=at4 a 4:=by unfold at4; simp only [Nat.reduceAdd]; omega
  have c8:at2 a 8*65536+at2 a 10=at4 a 8:=by unfold at4; simp only [Nat.reduceAdd]; omega
  obtain ⟨most,hmo⟩:∃x,x=if Zbn a=24 then at2 a 22 else 0:=⟨_,rfl⟩
  rw [←hmo] at R6 cp
  unfold ZbA
  rw [←hmo,hb]
  obtain ⟨W,hW⟩:∃x,x=(List.range 8).map (fun (i:Nat)=>D.int (256*gt a (2*((0:Int)+(i:Int))).toNat+gt a (2*((0:Int)+(i:Int))+1).toNat)):=⟨_,rfl⟩
  rw [←hW] at wl
  simp only [←hW] at cp
  have w0:ixM (.lst W) (.int 0) θ=.ok (.int (at2 a 0)) θ:=by rw [wl]; rfl
  have w1:ixM (.lst W) (.int 1) θ=.ok (.int (at2 a 2)) θ:=by rw [wl]; rfl
  have w2:ixM (.lst W) (.int 2) θ=.ok (.int (at2 a 4)) θ:=by rw [wl]; rfl
  have w3:ixM (.lst W) (.int 3) θ=.ok (.int (at2 a 6)) θ:=by rw [wl]; rfl
  have w4:ixM (.lst W) (.int 4) θ=.ok (.int (at2 a 8)) θ:=by rw [wl]; rfl
  have w5:ixM (.lst W) (.int 5) θ=.ok (.int (at2 a 10)) θ:=by rw [wl]; rfl
  have w7:ixM (.lst W) (.int 7) θ=.ok (.int (at2 a 14)) θ:=by rw [wl]; rfl
  obtain ⟨wd,hwd⟩:∃x,x=D.lst W:=⟨_,rfl⟩
  rw [←hwd] at w0 w1 w2 w3 w4 w5 w7
  simp only [←hwd] at cp
  have mb:∀x:Int,ZeX x 65536:=fun x=>.inr (by omega)
  simp [Zgf,Zlv,R1,R2,i12,R3,←hhd,R4,R6,cp,w0,w1,w2,w3,w4,w5,w7,mb,i13,dr,c4,c8,Seg.d]
end
end My
namespace My
open PySem L2 L2.MM
noncomputable section
inductive Gives (t:Int):Zt→List Seg→Zt→Prop
  | nil {e e':Zt} (h:Zan e t=(none,e')):Gives t e [] e'
  | cons {e e1 e':Zt} {s:Seg} {r:List Seg} (h:Zan e t=(some s,e1)) (hs:s.Ok) (hr:Gives t e1 r e'):Gives t e (s::r) e'
section
variable {θ:Sto} {l:Nat} {t:Int}
abbrev ZtS:SM:=Zq (ZM 4 (mCB ZcC (Zc (Zd 0) (Zc (Zd 1) Zk)))) (Zq Zds (Zd6 2 (mCB Zgf (Zc (Zd 4) Zk))))
theorem Zs4 (h:l+3 < θ.length) {e e':Zt} (g:Zan e t=(none,e')) (acc:List D) (x y:Sl):ZtS [.val (.ref l),.val (.int t),.own acc,x,y] (upE θ l e)=.ok (.rt (.lst acc),[.val (.ref l),.val (.int t),.val (.lst acc),x,.val (il [])]) (upE θ l e'):=by
  simp [Zm9 h g,Zds,Zd7]
theorem Zs3 (h:l+3 < θ.length) {e e':Zt} {s:Seg} (g:Zan e t=(some s,e')) (hs:s.Ok) (acc:List D) (ha:acc.length<BIG) (x y:Sl):ZtS [.val (.ref l),.val (.int t),.own acc,x,y] (upE θ l e)=.ok (.nx,[.val (.ref l),.val (.int t),.own (acc++[s.d]),x,.val (il (putL s))]) (upE θ l e'):=by
  have lr:=ZqZ (Zmm hs.put) (Zig hs) (upE θ l e')
  rw [ZmI hs] at lr
  simp [Zie h g hs,Zds,Zd7,Ztk,lr,ha]
theorem Zs2 (h:l+3 < θ.length) {e e':Zt} {segs:List Seg} (g:Gives t e segs e'):∀(xs:List D) (acc:List D) (x y:Sl),segs.length<xs.length→acc.length+segs.length<1000→
    ∃ρ,ZcF (.rng 0 40) ((List.range 40).map fun (i:Nat)=>D.int (0+(i:Int))) (gNm 3) ZtS xs [.val (.ref l),.val (.int t),.own acc,x,y] (upE θ l e)=.ok (.rt (.lst (acc++segs.map Seg.d)),ρ) (upE θ l e'):=by
  induction g with
  | nil g=>
    intro xs acc x y hx ha
    match xs,hx with
    | d::xs,_=>
      refine ⟨[.val (.ref l),.val (.int t),.val (.lst acc),.val d,.val (il [])],?_⟩
      simp only [ZcF,ZcR,if_true]
      have:gNm 3 d [.val (.ref l),.val (.int t),.own acc,x,y]=some [.val (.ref l),.val (.int t),.own acc,.val d,y]:=rfl
      rw [this]
      simp only
      rw [Zs4 h g]
      simp [Zfc,R.bind]
  | cons g hs _ ih=>
    intro xs acc x y hx ha
    match xs,hx with
    | d::xs,hx=>
      obtain ⟨ρ,q⟩:=ih xs (acc++[Seg.d _]) (.val d) (.val (il (putL _))) (by simpa using hx) (by simp at ha ⊢; omega)
      refine ⟨ρ,?_⟩
      simp only [ZcF,ZcR,if_true]
      have:gNm 3 d [.val (.ref l),.val (.int t),.own acc,x,y]=some [.val (.ref l),.val (.int t),.own acc,.val d,y]:=rfl
      rw [this]
      simp only
      rw [Zs3 h g hs acc (by simp [BIG] at ha ⊢; omega)]
      simp only [R.bind,Zfc]
      rw [q]
      simp
theorem Zq3 (h:l+3 < θ.length) {e e':Zt} {segs:List Seg} (g:Gives t e segs e') (hl:segs.length<40):Ze2 [.ref l,.int t] (upE θ l e)=.ok (.lst (segs.map Seg.d)) (upE θ l e'):=by
  obtain ⟨ρ,q⟩:=Zs2 h g ((List.range 40).map fun (i:Nat)=>D.int (0+(i:Int))) [] .no .no (by simpa using hl) (by simp; omega)
  have q2:ZeU [.val (.ref l),.val (.int t),.own [],.no,.no] (upE θ l e)=.ok (.rt (.lst (segs.map Seg.d)),ρ) (upE θ l e'):=by
    rw [List.nil_append] at q
    rw [←q]
    simp [ZeU,Zd5]
  simp [Ze2,ZiH,q2]
end
end
end My
namespace My
open PySem L2 L2.MM
noncomputable section
theorem Zqv {nE:EM} {src:List Nat} {elt:EM} {ρ:List Sl} {θ:Sto} {j:Int} (F:Nat→Int) (hn:nE ρ θ=.ok (.int j) θ) (h0:0≤j) (h1:j≤1000) (he:∀i:Nat,i<j.toNat→elt (ZeG src ρ (.int (i:Int))) θ=.ok (.int (F i)) θ) :
    ZeD (ZcN (Zc nE Zk)) src elt ρ θ=.ok (il ((List.range j.toNat).map F)) θ:=by
  have:=Zir (ρ:=ρ) (θ:=θ) (fi:=ZcN (Zc nE Zk)) (src:=src) (elt:=elt) (lo:=0) (n:=j.toNat) (θ':=θ) (fun k=>.int (F k.toNat)) (by simp [hn]; omega) (by simp [BIG]; omega) (by
    intro i hi
    simpa using he i hi)
  rw [this]
  simp [il]
end
end My
namespace My
open PySem L2 L2.MM
noncomputable section
structure Q where
  st:State
  una:Int
  nxt:Int
  beh:Int
  rcv:Int
  told:Int
  by_:Int
  wnd:Int
  most:Int
  written:List Int
  come:List Int
  fin:Option Int
  cl:Bool
  oa:Bool
  pr:Bool
  since:Int
  wait:Int
  tries:Int
def qE (a b f g:Int) (q:Q):Zt:=⟨a,b,q.st,.none,f,Zl f q.una,Zl f q.nxt,Zl g q.rcv,q.wnd,Zl g q.told,Zl f q.by_,q.most,q.written,q.come,[],q.fin.map (Zl g ·),q.cl,Zl f q.beh,none,false,q.oa,q.pr,q.since,q.wait,q.tries⟩
def q0 (W m:Int) (t:Int):Q:=⟨.opn,1,1,1,1,1,1,W,if m=0 then 12 else m,[],[],none,false,false,false,t,1000,0⟩
theorem ZyI {n j k:Int} (h1 : -2147483648≤j-k) (h2:j-k<2147483648):ZU (Zl n j) (Zl n k)=j-k:=Zbt ⟨h1,h2⟩
theorem Zhg {n j k:Int} (h1 : -2147483648≤j-k) (h2:j-k<2147483648):zG (Zl n j) (Zl n k)=decide (0<j-k):=by
  unfold zG
  rw [ZyI h1 h2]
theorem Zrp (n:Nat) (xs:List Int):pls n (xs.map D.int)=true:=by
  induction xs with
  | nil=>simp [pls]
  | cons x r ih=>simp [pls,ih,pl]
theorem ZpP (xs:List Int):ZfH (xs.map D.int)=true:=by
  induction xs with
  | nil=>simp [ZfH]
  | cons x r ih=>simp [ZfH,ih,noB]
end
end My
namespace My
open PySem L2 L2.MM
noncomputable section
section
variable {e:Zt} {t:Int}
structure Calm (e:Zt) (t:Int):Prop where
  rst:e.owed_reset=none
  st:e.state∉[State.closed,.listen,.synSent,.synCome]
  tw:e.state=.timeWait→t-e.since<120000
  due:¬e.nxt=e.una→t-e.since<e.wait
theorem Calm.go (c:Calm e t):Zan e t=ZbH e t:=by
  have hs:=c.st
  simp only [List.mem_cons,List.not_mem_nil,or_false,not_or] at hs
  have h1:¬(e.state=.timeWait∧120000≤t-e.since):=fun h=>by have:=c.tw h.1; omega
  have h2:¬(e.state=.closed∨e.state=.listen):=fun h=>h.elim hs.1 hs.2.1
  have h3:¬(¬e.nxt=e.una∧Zc7 e t=true):=fun h=>by
    have:=c.due h.1
    have h2:=h.2
    unfold Zc7 at h2
    simp at h2
    omega
  unfold Zan
  rw [c.rst]
  simp only [if_neg h1]
  rw [if_neg h2,if_neg h3]
theorem Calm.notSyn (c:Calm e t):¬(e.state=.synSent∨e.state=.synCome):=by
  have hs:=c.st
  simp only [List.mem_cons,List.not_mem_nil,or_false,not_or] at hs
  exact fun h=>h.elim hs.2.2.1 hs.2.2.2
theorem Calm.quiet (c:Calm e t) (hm:ZaK e=false∨(¬e.nxt=e.una∧e.wnd-ZU e.nxt e.una≤0)) (hp:e.probes=false):Zan e t=zM e:=by
  have a1:zg e t=(none,e):=by
    unfold zg
    rw [if_neg c.notSyn,if_pos (hm.elim .inr fun h=>.inl h.2)]
  have a2:ze e t=(none,e):=by
    unfold ze
    rw [if_pos (hm.elim (fun h=>.inr (.inr h)) fun h=>.inl h.1)]
    obtain ⟨⟩:=e
    simp only at hp
    subst hp
    rfl
  rw [c.go]
  unfold ZbH
  rw [a1]
  simp only [a2]
theorem Zlb (c:Calm e t) (hm:ZaK e=false∨(¬e.nxt=e.una∧e.wnd-ZU e.nxt e.una≤0)) (hp:e.probes=false) (ho:e.owes_answer=false):Zan e t=(none,e):=by
  rw [c.quiet hm hp]
  simp [zM,ho]
theorem Ziw (c:Calm e t) (hm:ZaK e=false∨(¬e.nxt=e.una∧e.wnd-ZU e.nxt e.una≤0)) (hp:e.probes=false) (ho:e.owes_answer=true):Zan e t=(some (ZcZ e e.nxt 0 []),{ e with owes_answer:=false }):=by
  rw [c.quiet hm hp]
  simp [zM,ho]
theorem Zqe (c:Calm e t) (hw:0<e.wnd-ZU e.nxt e.una) (hm:ZaK e=true):Zan e t=(some (zZ { (if e.nxt=e.una then Z0 e t else e) with owes_answer:=false } (e.wnd-ZU e.nxt e.una)).1,(zZ { (if e.nxt=e.una then Z0 e t else e) with owes_answer:=false } (e.wnd-ZU e.nxt e.una)).2):=by
  have a1:zg e t=(some (zZ { (if e.nxt=e.una then Z0 e t else e) with owes_answer:=false } (e.wnd-ZU e.nxt e.una)).1,(zZ { (if e.nxt=e.una then Z0 e t else e) with owes_answer:=false } (e.wnd-ZU e.nxt e.una)).2):=by
    unfold zg
    rw [if_neg c.notSyn,if_neg (by rw [hm]; simp; omega)]
  rw [c.go]
  unfold ZbH
  rw [a1]
end
section
variable {e:Zt} {s:Seg} {t:Int}
theorem ZmM (hs:e.state∉[State.closed,.listen,.synSent]) (hf:Zdk e s=true) (h4:bears s 4=false) (h2:bears s 2=false) (h16:bears s 16=true):comes e s t=if (goesOn e s t).1=true then ZaW (goesOn e s t).2 s t else (goesOn e s t).2:=by
  have:comes e s t=Zac e s t:=by
    unfold comes
    simp only [List.mem_cons,List.not_mem_nil,or_false,not_or] at hs
    split
    · rename_i h; exact absurd h hs.1
    · rename_i h; exact absurd h hs.2.1
    · rename_i h; exact absurd h hs.2.2
    · rfl
  rw [this]
  unfold Zac
  rw [hf,h4,h2,h16]
  simp
theorem Zqw (hs:e.state∉[State.closed,.listen,.synSent]):comes e s t=Zac e s t:=by
  unfold comes
  simp only [List.mem_cons,List.not_mem_nil,or_false,not_or] at hs
  split
  · rename_i h; exact absurd h hs.1
  · rename_i h; exact absurd h hs.2.1
  · rename_i h; exact absurd h hs.2.2
  · rfl
end
end
end My
namespace My
open PySem L2 L2.MM
noncomputable section
section
variable {a b f g W m t:Int}
def qO (W m:Int) (t:Int):Q:=⟨.opn,1,1,1,1,1,1,W,m,[],[],none,false,false,false,t,1000,0⟩
def ZvN (a b f g:Int) (n r:Int) (fl:Int):Seg:=⟨a,b,Zl f n,Zl g r,fl,64,0,[]⟩
structure Still (q:Q) (t:Int):Prop where
  st:q.st∉[State.closed,.listen,.synSent,.synCome]
  tw:q.st=.timeWait→t-q.since<120000
  due:¬q.nxt=q.una→t-q.since<q.wait
  pr:q.pr=false
  un:q.beh≤q.nxt∧q.nxt-q.beh<1000∧0≤q.una∧q.una≤q.nxt∧q.nxt<1000
  fin:q.beh=q.nxt→q.st∉[State.waitOne,.closing,.lastAck]
theorem Still.calm {q:Q} (h:Still q t):Calm (qE a b f g q) t:=⟨rfl,h.st,h.tw,fun z=>h.due fun y=>z (by show Zl f q.nxt=Zl f q.una; rw [y])⟩
theorem Still.more {q:Q} (h:Still q t):ZaK (qE a b f g q)=false:=by
  have hu:=h.un
  have u:Zcf (qE a b f g q)=q.beh-q.nxt:=Zbt (by omega)
  have d:Zaj (qE a b f g q)=false:=by
    unfold Zaj
    rw [u]
    simp; intro _; omega
  have n:hasNewFin (qE a b f g q)=false:=by
    unfold hasNewFin
    rw [u]
    by_cases c:q.beh=q.nxt
    · have:=h.fin c
      simp only [Bool.and_eq_false_iff,decide_eq_false_iff_not]
      exact .inl this
    · simp only [Bool.and_eq_false_iff,decide_eq_false_iff_not]
      right; omega
  unfold ZaK
  rw [d,n]; rfl
theorem Still.no {q:Q} (h:Still q t) (ho:q.oa=false):Zan (qE a b f g q) t=(none,qE a b f g q):=Zlb h.calm (.inl h.more) h.pr ho
theorem Still.ack {q:Q} (h:Still q t) (ho:q.oa=true) (hc:q.come=[]):Zan (qE a b f g q) t=(some (ZvN a b f g q.nxt q.rcv 16),qE a b f g { q with oa:=false }):=by
  rw [Ziw h.calm (.inl h.more) h.pr ho]
  simp [ZcZ,ZvN,qE,ZV,hc]
end
end
end My
namespace My
open PySem L2 L2.MM
noncomputable section
theorem ZrT {nE:EM} {body:SM} {k:Nat} {ρ:List Sl} {θ:Sto} {j:Int} (Inv:Nat→List Sl→Sto→Prop) (Ret:D→Prop) (hn:nE ρ θ=.ok (.int j) θ) (h0:0≤j) (h1:j≤1000) (hi:Inv 0 ρ θ)
    (step:∀(i:Nat) ρ θ,i<j.toNat→Inv i ρ θ→(∃ρ' θ',body (ρ.set k (.val (.int (i:Int)))) θ=.ok (.nx,ρ') θ'∧Inv (i+1) ρ' θ')∨(∃d ρ' θ',body (ρ.set k (.val (.int (i:Int)))) θ=.ok (.rt d,ρ') θ'∧Ret d)) (hk:∀i ρ θ,Inv i ρ θ→k < ρ.length) :
    (∃ρ' θ',Zd5 (ZcN (Zc nE Zk)) (gNm k) body ρ θ=.ok (.nx,ρ') θ'∧Inv j.toNat ρ' θ')∨(∃d ρ' θ',Zd5 (ZcN (Zc nE Zk)) (gNm k) body ρ θ=.ok (.rt d,ρ') θ'∧Ret d):=by
  obtain ⟨all,hall⟩:∃x,x=(List.range j.toNat).map fun (i:Nat)=>D.int (0+(i:Int)):=⟨_,rfl⟩
  have hm:Zd5 (ZcN (Zc nE Zk)) (gNm k) body ρ θ=ZcF (.rng 0 j.toNat) all (gNm k) body all ρ θ:=by
    unfold Zd5
    have:ZcN (Zc nE Zk) ρ θ=.ok (.rng 0 j.toNat) θ:=by simp [hn]; omega
    rw [this,R.bind_ok]
    simp only [ZcR,←hall]
  rw [hm]
  have key:∀(m:Nat) ρ θ,m≤j.toNat→Inv (j.toNat-m) ρ θ→(∃ρ' θ',ZcF (.rng 0 j.toNat) all (gNm k) body (all.drop (j.toNat-m)) ρ θ=.ok (.nx,ρ') θ'∧Inv j.toNat ρ' θ')∨(∃d ρ' θ',ZcF (.rng 0 j.toNat) all (gNm k) body (all.drop (j.toNat-m)) ρ θ=.ok (.rt d,ρ') θ'∧Ret d):=by
    intro m
    induction m with
    | zero=>
      intro ρ θ _ hI
      left
      refine ⟨ρ,θ,?_,by simpa using hI⟩
      rw [Nat.sub_zero,List.drop_eq_nil_of_le (by rw [hall]; simp)]
      simp [ZcF,hall]
    | succ m ih=>
      intro ρ θ hm hI
      have hlt:j.toNat-(m+1)<j.toNat:=by omega
      have hla:j.toNat-(m+1)<all.length:=by rw [hall]; simpa using hlt
      have e:j.toNat-(m+1)+1=j.toNat-m:=by omega
      have hx:all[j.toNat-(m+1)]=D.int (((j.toNat-(m+1):Nat):Int)):=by simp [hall]
      have hg:gNm k (D.int (((j.toNat-(m+1):Nat):Int))) ρ=some (ρ.set k (.val (.int ((j.toNat-(m+1):Nat):Int)))):=by
        have:=hk _ _ _ hI
        simp [gNm,this]
      have hit:(Src.rng 0 j.toNat).items θ=some all:=by rw [ZcR,hall]
      rw [List.drop_eq_getElem_cons hla,hx,e]
      simp only [ZcF,hit,if_true,hg]
      rcases step _ ρ θ hlt hI with ⟨ρ',θ',h,hI'⟩ | ⟨d,ρ',θ',h,hR⟩
      · rw [h,R.bind_ok,Zdy]
        exact ih ρ' θ' (by omega) (by rw [←e]; exact hI')
      · right
        exact ⟨d,ρ',θ',by rw [h]; rfl,hR⟩
  have:=key j.toNat ρ θ (Nat.le_refl _) (by rw [Nat.sub_self]; exact hi)
  rw [Nat.sub_self,List.drop_zero] at this
  exact this
theorem Zqg {α:Type} {F:α→D} {fE:EM} {body:SM} {k:Nat} {ρ:List Sl} {θ θ0:Sto} (Inv:List α→List Sl→Sto→Prop) (Ret:D→Prop) (xs:List α) (hn:fE ρ θ0=.ok (.lst (xs.map F)) θ) (hi:Inv xs ρ θ)
    (step:∀x r ρ θ,Inv (x::r) ρ θ→(∃ρ' θ',body (ρ.set k (.val (F x))) θ=.ok (.nx,ρ') θ'∧Inv r ρ' θ')∨(∃d ρ' θ',body (ρ.set k (.val (F x))) θ=.ok (.rt d,ρ') θ'∧Ret d)) (hk:∀i ρ θ,Inv i ρ θ→k < ρ.length) :
    (∃ρ' θ',Zd5 (mIn fE) (gNm k) body ρ θ0=.ok (.nx,ρ') θ'∧Inv [] ρ' θ')∨(∃d ρ' θ',Zd5 (mIn fE) (gNm k) body ρ θ0=.ok (.rt d,ρ') θ'∧Ret d):=by
  have hm:Zd5 (mIn fE) (gNm k) body ρ θ0=ZcF (.seq (.lst (xs.map F))) (xs.map F) (gNm k) body (xs.map F) ρ θ:=by
    unfold Zd5
    have:mIn fE ρ θ0=.ok (.seq (.lst (xs.map F))) θ:=by simp [hn]
    rw [this,R.bind_ok]
    rfl
  rw [hm]
  have key:∀(ys:List α) ρ θ,Inv ys ρ θ→(∃ρ' θ',ZcF (.seq (.lst (xs.map F))) (xs.map F) (gNm k) body (ys.map F) ρ θ=.ok (.nx,ρ') θ'∧Inv [] ρ' θ')∨(∃d ρ' θ',ZcF (.seq (.lst (xs.map F))) (xs.map F) (gNm k) body (ys.map F) ρ θ=.ok (.rt d,ρ') θ'∧Ret d):=by
    intro ys
    induction ys with
    | nil=>
      intro ρ θ hI
      left
      refine ⟨ρ,θ,?_,hI⟩
      have hit:(Src.seq (.lst (xs.map F))).items θ=some (xs.map F):=rfl
      simp [ZcF,hit]
    | cons y ys ih=>
      intro ρ θ hI
      have hg:gNm k (F y) ρ=some (ρ.set k (.val (F y))):=by
        have:=hk _ _ _ hI
        simp [gNm,this]
      have hit:(Src.seq (.lst (xs.map F))).items θ=some (xs.map F):=rfl
      rw [List.map_cons]
      simp only [ZcF,hit,if_true,hg]
      rcases step _ _ ρ θ hI with ⟨ρ',θ',h,hI'⟩ | ⟨d,ρ',θ',h,hR⟩
      · rw [h,R.bind_ok,Zdy]
        exact ih ρ' θ' hI'
      · right
        exact ⟨d,ρ',θ',by rw [h]; rfl,hR⟩
  exact key xs ρ θ hi
end
end My
namespace My
open PySem L2 L2.MM
noncomputable section
def ZiU (q:Q):Int:=if 16<q.most then 16 else q.most
def room (q:Q):Int:=q.wnd-(q.nxt-q.una)
def Zad (q:Q):Prop:=q.st∈[State.opn,.waitOne,.closeWait,.closing,.lastAck]∧q.nxt<q.beh
def Za6 (q:Q):Prop:=q.st∈[State.waitOne,.closing,.lastAck]∧q.nxt=q.beh
instance (q:Q):Decidable (Zad q):=by unfold Zad; infer_instance
instance (q:Q):Decidable (Za6 q):=by unfold Za6; infer_instance
def z6 (q:Q) (r:Int):Int:=mn3 (ZiU q) (q.beh-q.nxt) r
def sinceQ (q:Q) (t:Int):Q:=if q.nxt=q.una then { q with since:=t,wait:=1000,tries:=0 } else q
def Zc8 (a b f g:Int) (q:Q) (r:Int):Seg:=⟨a,b,Zl f q.nxt,Zl g q.rcv,if q.nxt+z6 q r=q.beh then 24 else 16,64-q.come.length,0,(q.written.drop (q.nxt-q.una).toNat).take (z6 q r).toNat⟩
def finS (a b f g:Int) (q:Q):Seg:=⟨a,b,Zl f q.nxt,Zl g q.rcv,17,64-q.come.length,0,[]⟩
def ZhV (a b f g:Int) (q:Q):Seg:=⟨a,b,Zl f q.nxt,Zl g q.rcv,16,64-q.come.length,0,[]⟩
def Zbk (q:Q) (r:Int) (t:Int):Q:={ sinceQ q t with nxt:=q.nxt+z6 q r,oa:=false,pr:=false }
def nextF (q:Q) (t:Int):Q:={ sinceQ q t with nxt:=q.nxt+1,oa:=false,pr:=false }
structure WF (q:Q):Prop where
  una:0≤q.una∧q.una≤q.nxt
  nxt:q.nxt≤q.beh+1∧q.beh<1000000
  wr:q.una≤q.beh→(q.written.length:Int)=q.beh-q.una
  wnd:0≤q.wnd∧q.wnd≤65535
  most:4≤q.most
  come:q.come.length≤64
  byt:∀z∈q.written,0≤z∧z≤255
structure CalmQ (q:Q) (t:Int):Prop where
  st:q.st∉[State.closed,.listen,.synSent,.synCome]
  tw:q.st=.timeWait→t-q.since<120000
  due:¬q.nxt=q.una→t-q.since<q.wait
section
variable {a b f g t:Int} {q:Q}
theorem CalmQ.on (h:CalmQ q t):Calm (qE a b f g q) t:=⟨rfl,h.st,h.tw,fun z=>h.due fun y=>z (by show Zl f q.nxt=Zl f q.una; rw [y])⟩
theorem WF.uns (w:WF q):Zcf (qE a b f g q)=q.beh-q.nxt:=by
  obtain ⟨u,n,_⟩:=w
  exact Zbt (by omega)
theorem WF.off (w:WF q):ZU (qE a b f g q).nxt (qE a b f g q).una=q.nxt-q.una:=by
  obtain ⟨u,n,_⟩:=w
  exact Zbt (by omega)
theorem WF.same (w:WF q):(qE a b f g q).nxt=(qE a b f g q).una↔q.nxt=q.una:=by
  obtain ⟨u,n,_⟩:=w
  exact ZdE (by omega)
theorem WF.newD (w:WF q):Zaj (qE a b f g q)=decide (Zad q):=by
  unfold Zaj
  rw [w.uns,Bool.eq_iff_iff,Bool.and_eq_true,decide_eq_true_iff,decide_eq_true_iff,decide_eq_true_iff]
  exact and_congr Iff.rfl (by omega)
theorem WF.newF (w:WF q):hasNewFin (qE a b f g q)=decide (Za6 q):=by
  unfold hasNewFin
  rw [w.uns,Bool.eq_iff_iff,Bool.and_eq_true,decide_eq_true_iff,decide_eq_true_iff,decide_eq_true_iff]
  exact and_congr Iff.rfl (by omega)
theorem WF.more (w:WF q):ZaK (qE a b f g q)=(decide (Zad q) || decide (Za6 q)):=by
  unfold ZaK
  rw [w.newD,w.newF]
theorem ZkH (w:WF q) (t:Int):(if (qE a b f g q).nxt=(qE a b f g q).una then Z0 (qE a b f g q) t else qE a b f g q)=qE a b f g (sinceQ q t):=by
  unfold sinceQ
  by_cases c:q.nxt=q.una
  · rw [if_pos (w.same.mpr c),if_pos c]; rfl
  · rw [if_neg fun z=>c (w.same.mp z),if_neg c]
theorem zk (q:Q) (t:Int):(sinceQ q t).nxt=q.nxt∧(sinceQ q t).una=q.una∧(sinceQ q t).beh=q.beh∧(sinceQ q t).rcv=q.rcv∧(sinceQ q t).st=q.st∧(sinceQ q t).most=q.most∧(sinceQ q t).written=q.written∧(sinceQ q t).come=q.come∧(sinceQ q t).wnd=q.wnd∧(sinceQ q t).told=q.told∧(sinceQ q t).by_=q.by_∧(sinceQ q t).fin=q.fin∧(sinceQ q t).cl=q.cl:=by
  unfold sinceQ
  split<;>exact ⟨rfl,rfl,rfl,rfl,rfl,rfl,rfl,rfl,rfl,rfl,rfl,rfl,rfl⟩
theorem ZcG (w:WF q) (hd:q.nxt<q.beh) {r:Int} (hr:0<r):0<z6 q r∧z6 q r≤q.beh-q.nxt∧z6 q r≤r∧z6 q r≤16:=by
  have:=w.most
  unfold z6 mn3 ZiU
  split<;>split<;>split<;>omega
theorem ZlK (w:WF q) (hd:Zad q) {r:Int} (hr:0<r) (p0:Bool):zZ (qE a b f g { q with oa:=false,pr:=p0 }) r=(Zc8 a b f g q r,qE a b f g { q with nxt:=q.nxt+z6 q r,oa:=false,pr:=false }):=by
  obtain ⟨c1,c2,c3,c4⟩:=ZcG w hd.2 hr
  have hu:=w.una
  have hn:=w.nxt
  have wf2:WF { q with oa:=false,pr:=p0 }:=⟨w.una,w.nxt,w.wr,w.wnd,w.most,w.come,w.byt⟩
  unfold zZ
  rw [if_pos (by rw [wf2.newD]; exact decide_eq_true hd)]
  have e0:({ qE a b f g { q with oa:=false,pr:=p0 } with probes:=false }:Zt)=qE a b f g { q with oa:=false,pr:=false }:=rfl
  rw [e0]
  have wf3:WF { q with oa:=false,pr:=false }:=⟨w.una,w.nxt,w.wr,w.wnd,w.most,w.come,w.byt⟩
  have nm:Ze0 (qE a b f g { q with oa:=false,pr:=false }) r=z6 q r:=by
    unfold Ze0 z6
    rw [wf3.uns]
    rfl
  unfold Ze1
  simp only [nm]
  have e1:({ qE a b f g { q with oa:=false,pr:=false } with nxt:=Zl (qE a b f g { q with oa:=false,pr:=false }).nxt (z6 q r) }:Zt)=qE a b f g { q with nxt:=q.nxt+z6 q r,oa:=false,pr:=false }:=by
    have:Zl (Zl f q.nxt) (z6 q r)=Zl f (q.nxt+z6 q r):=Zap _ _ _
    show ({ qE a b f g { q with oa:=false,pr:=false } with nxt:=Zl (Zl f q.nxt) (z6 q r) }:Zt)=_
    rw [this]
    rfl
  rw [e1]
  have u1:Zcf (qE a b f g { q with nxt:=q.nxt+z6 q r,oa:=false,pr:=false })=q.beh-(q.nxt+z6 q r):=Zbt (by show _∧_; simp only; omega)
  rw [u1,wf3.off]
  have cu:Zbf (qE a b f g { q with oa:=false,pr:=false }).written (some (q.nxt-q.una)) (some (q.nxt-q.una+z6 q r))=(q.written.drop (q.nxt-q.una).toNat).take (z6 q r).toNat:=by
    rw [Zi7 _ (by omega) (by omega)]
    congr 1
    omega
  simp only [cu]
  refine Prod.ext ?_ rfl
  unfold ZcZ Zc8 ZV
  by_cases c:q.nxt+z6 q r=q.beh
  · rw [if_pos (by omega),if_pos c]; rfl
  · rw [if_neg (by omega),if_neg c]; rfl
theorem Znd (w:WF q) (hd:Za6 q) (r:Int) (p0:Bool):zZ (qE a b f g { q with oa:=false,pr:=p0 }) r=(finS a b f g q,qE a b f g { q with nxt:=q.nxt+1,oa:=false,pr:=false }):=by
  have wf2:WF { q with oa:=false,pr:=p0 }:=⟨w.una,w.nxt,w.wr,w.wnd,w.most,w.come,w.byt⟩
  have nd:¬Zad { q with oa:=false,pr:=p0 }:=fun z=>by
    have h1:=z.2
    have h2:=hd.2
    simp only at h1
    omega
  unfold zZ
  rw [if_neg (by rw [wf2.newD,decide_eq_false nd]; decide)]
  unfold Zhm
  refine Prod.ext rfl ?_
  show ({ qE a b f g { q with oa:=false,pr:=false } with nxt:=Zl (Zl f q.nxt) 1 }:Zt)=_
  rw [Zap]
  rfl
theorem ZmH (c:CalmQ q t) (w:WF q) (hr:0<room q) (hd:Zad q):Zan (qE a b f g q) t=(some (Zc8 a b f g q (room q)),qE a b f g (Zbk q (room q) t)):=by
  have o:=w.off (a:=a) (b:=b) (f:=f) (g:=g)
  have ro:(qE a b f g q).wnd-ZU (qE a b f g q).nxt (qE a b f g q).una=room q:=by rw [o]; rfl
  rw [Zqe c.on (by rw [ro]; exact hr) (by rw [w.more,decide_eq_true hd]; rfl),ZkH w,ro]
  obtain ⟨s1,s2,s3,s4,s5,s6,s7,s8,s9,s10,s11,s12,s13⟩:=zk q t
  have wf':WF (sinceQ q t):=⟨by rw [s1,s2]; exact w.una,by rw [s1,s3]; exact w.nxt,by rw [s2,s3,s7]; exact w.wr,by rw [s9]; exact w.wnd,by rw [s6]; exact w.most,by rw [s8]; exact w.come,by rw [s7]; exact w.byt⟩
  have e0:({ qE a b f g (sinceQ q t) with owes_answer:=false }:Zt)=qE a b f g { sinceQ q t with oa:=false,pr:=(sinceQ q t).pr }:=rfl
  rw [e0,ZlK wf' (by unfold Zad; rw [s5,s1,s3]; exact hd) hr]
  have cc:z6 (sinceQ q t) (room q)=z6 q (room q):=by unfold z6 ZiU; rw [s1,s3,s6]
  have dd:Zc8 a b f g (sinceQ q t) (room q)=Zc8 a b f g q (room q):=by unfold Zc8; rw [cc,s1,s2,s3,s4,s7,s8]
  rw [dd,cc,s1]
  rfl
theorem ZrN (c:CalmQ q t) (w:WF q) (hr:0<room q) (hd:Za6 q):Zan (qE a b f g q) t=(some (finS a b f g q),qE a b f g (nextF q t)):=by
  have o:=w.off (a:=a) (b:=b) (f:=f) (g:=g)
  have ro:(qE a b f g q).wnd-ZU (qE a b f g q).nxt (qE a b f g q).una=room q:=by rw [o]; rfl
  rw [Zqe c.on (by rw [ro]; exact hr) (by rw [w.more,decide_eq_true hd]; simp),ZkH w,ro]
  obtain ⟨s1,s2,s3,s4,s5,s6,s7,s8,s9,s10,s11,s12,s13⟩:=zk q t
  have wf':WF (sinceQ q t):=⟨by rw [s1,s2]; exact w.una,by rw [s1,s3]; exact w.nxt,by rw [s2,s3,s7]; exact w.wr,by rw [s9]; exact w.wnd,by rw [s6]; exact w.most,by rw [s8]; exact w.come,by rw [s7]; exact w.byt⟩
  have e0:({ qE a b f g (sinceQ q t) with owes_answer:=false }:Zt)=qE a b f g { sinceQ q t with oa:=false,pr:=(sinceQ q t).pr }:=rfl
  rw [e0,Znd wf' (by unfold Za6; rw [s5,s1,s3]; exact hd)]
  have dd:finS a b f g (sinceQ q t)=finS a b f g q:=by unfold finS; rw [s1,s4,s8]
  rw [dd,s1]
  rfl
theorem ZmG (c:CalmQ q t) (w:WF q) (hn:¬(Zad q∨Za6 q)∨(¬q.nxt=q.una∧room q≤0)) (hp:q.pr=false):Zan (qE a b f g q) t=if q.oa=true then (some (ZhV a b f g q),qE a b f g { q with oa:=false }) else (none,qE a b f g q):=by
  have o:=w.off (a:=a) (b:=b) (f:=f) (g:=g)
  have hm:ZaK (qE a b f g q)=false∨(¬(qE a b f g q).nxt=(qE a b f g q).una∧(qE a b f g q).wnd-ZU (qE a b f g q).nxt (qE a b f g q).una≤0):=by
    rcases hn with h | ⟨h1,h2⟩
    · left
      rw [w.more,decide_eq_false fun z=>h (.inl z),decide_eq_false fun z=>h (.inr z)]; rfl
    · right
      exact ⟨fun z=>h1 (w.same.mp z),by rw [o]; exact h2⟩
  by_cases h:q.oa=true
  · rw [if_pos h,Ziw c.on hm hp h]; rfl
  · rw [if_neg h,Zlb c.on hm hp (by simpa [qE] using h)]
end
def Z7 (a b f g:Int) (t:Int):Nat→Q→List Seg×Q
  | 0,q=>([],q)
  | n+1,q=>
    if 0<room q∧Zad q then (Zc8 a b f g q (room q)::(Z7 a b f g t n (Zbk q (room q) t)).1,(Z7 a b f g t n (Zbk q (room q) t)).2)
    else if 0<room q∧Za6 q then (finS a b f g q::(Z7 a b f g t n (nextF q t)).1,(Z7 a b f g t n (nextF q t)).2)
    else if q.oa=true then ([ZhV a b f g q],{ q with oa:=false }) else ([],q)
section
variable {a b f g t:Int}
theorem WF.next {q:Q} (w:WF q) (hr:0<room q) (hd:Zad q):WF (Zbk q (room q) t):=by
  obtain ⟨c1,c2,c3,c4⟩:=ZcG w hd.2 hr
  obtain ⟨s1,s2,s3,s4,s5,s6,s7,s8,s9,s10,s11,s12,s13⟩:=zk q t
  have h1:=w.una
  have h2:=w.nxt
  refine ⟨?_,?_,?_,?_,?_,?_,?_⟩
  · show 0≤(sinceQ q t).una∧(sinceQ q t).una≤q.nxt+z6 q (room q); rw [s2]; omega
  · show q.nxt+z6 q (room q)≤(sinceQ q t).beh+1∧(sinceQ q t).beh<1000000; rw [s3]; omega
  · show (sinceQ q t).una≤(sinceQ q t).beh→((sinceQ q t).written.length:Int)=(sinceQ q t).beh-(sinceQ q t).una; rw [s2,s3,s7]; exact w.wr
  · show 0≤(sinceQ q t).wnd∧(sinceQ q t).wnd≤65535; rw [s9]; exact w.wnd
  · show 4≤(sinceQ q t).most; rw [s6]; exact w.most
  · show (sinceQ q t).come.length≤64; rw [s8]; exact w.come
  · show ∀z∈(sinceQ q t).written,_; rw [s7]; exact w.byt
theorem WF.nextF {q:Q} (w:WF q) (hd:Za6 q):WF (My.nextF q t):=by
  obtain ⟨s1,s2,s3,s4,s5,s6,s7,s8,s9,s10,s11,s12,s13⟩:=zk q t
  have h1:=w.una
  have h2:=w.nxt
  have h3:=hd.2
  refine ⟨?_,?_,?_,?_,?_,?_,?_⟩
  · show 0≤(sinceQ q t).una∧(sinceQ q t).una≤q.nxt+1; rw [s2]; omega
  · show q.nxt+1≤(sinceQ q t).beh+1∧(sinceQ q t).beh<1000000; rw [s3]; omega
  · show (sinceQ q t).una≤(sinceQ q t).beh→((sinceQ q t).written.length:Int)=(sinceQ q t).beh-(sinceQ q t).una; rw [s2,s3,s7]; exact w.wr
  · show 0≤(sinceQ q t).wnd∧(sinceQ q t).wnd≤65535; rw [s9]; exact w.wnd
  · show 4≤(sinceQ q t).most; rw [s6]; exact w.most
  · show (sinceQ q t).come.length≤64; rw [s8]; exact w.come
  · show ∀z∈(sinceQ q t).written,_; rw [s7]; exact w.byt
theorem Zhf (q:Q) (t:Int) (c:CalmQ q t):t-(sinceQ q t).since<(sinceQ q t).wait∧((sinceQ q t).st=.timeWait→t-(sinceQ q t).since<120000):=by
  unfold sinceQ
  by_cases h:q.nxt=q.una
  · rw [if_pos h]; simp only; exact ⟨by omega,fun _=>by omega⟩
  · rw [if_neg h]; exact ⟨c.due h,c.tw⟩
theorem CalmQ.next {q:Q} {r:Int} (c:CalmQ q t):CalmQ (Zbk q r t) t:=by
  obtain ⟨w1,w2⟩:=Zhf q t c
  obtain ⟨s1,s2,s3,s4,s5,_⟩:=zk q t
  exact ⟨by show (sinceQ q t).st∉_; rw [s5]; exact c.st,w2,fun _=>w1⟩
theorem CalmQ.nextF {q:Q} (c:CalmQ q t):CalmQ (My.nextF q t) t:=by
  obtain ⟨w1,w2⟩:=Zhf q t c
  obtain ⟨s1,s2,s3,s4,s5,_⟩:=zk q t
  exact ⟨by show (sinceQ q t).st∉_; rw [s5]; exact c.st,w2,fun _=>w1⟩
theorem ZmK {q:Q} {r:Int} (w:WF q) (hr:0<r) (hd:Zad q) (ha:0≤a∧a≤65535) (hb:0≤b∧b≤65535):(Zc8 a b f g q r).Ok:=by
  obtain ⟨c1,c2,c3,c4⟩:=ZcG w hd.2 hr
  have:=w.come
  refine Zhh ha hb (Zbp _ _) (Zbp _ _) (by split<;>omega) (by omega) (.inl rfl) ⟨fun z hz=>w.byt z (List.mem_of_mem_drop (List.mem_of_mem_take hz)),?_⟩
  rw [List.length_take]
  omega
theorem ZtU {q:Q} (w:WF q) (ha:0≤a∧a≤65535) (hb:0≤b∧b≤65535):(finS a b f g q).Ok:=by
  have:=w.come
  exact Zhh ha hb (Zbp _ _) (Zbp _ _) (by omega) (by omega) (.inl rfl) ZfG
theorem ZmX {q:Q} (w:WF q) (ha:0≤a∧a≤65535) (hb:0≤b∧b≤65535):(ZhV a b f g q).Ok:=by
  have:=w.come
  exact Zhh ha hb (Zbp _ _) (Zbp _ _) (by omega) (by omega) (.inl rfl) ZfG
theorem ZgZ (ha:0≤a∧a≤65535) (hb:0≤b∧b≤65535):∀(n:Nat) (q:Q),WF q→CalmQ q t→q.pr=false→(q.beh+1-q.nxt<n)→(¬q.nxt=q.una∨0<q.wnd∨¬(Zad q∨Za6 q))→Gives t (qE a b f g q) (Z7 a b f g t n q).1 (qE a b f g (Z7 a b f g t n q).2)
  | 0,q,w,_,_,hn,_=>by have:=w.nxt; omega
  | n+1,q,w,c,hp,hn,h0=>by
    unfold Z7
    by_cases h1:0<room q∧Zad q
    · obtain ⟨c1,c2,c3,c4⟩:=ZcG w h1.2.2 h1.1
      have hu:=w.una
      rw [if_pos h1]
      refine .cons (ZmH c w h1.1 h1.2) (ZmK w h1.1 h1.2 ha hb) (ZgZ ha hb n _ (w.next h1.1 h1.2) c.next rfl ?_ (.inl ?_))
      · show (sinceQ q t).beh+1-(q.nxt+z6 q (room q))<n
        rw [(zk q t).2.2.1]; omega
      · show ¬q.nxt+z6 q (room q)=(sinceQ q t).una
        rw [(zk q t).2.1]; omega
    · rw [if_neg h1]
      by_cases h2:0<room q∧Za6 q
      · have hu:=w.una
        rw [if_pos h2]
        refine .cons (ZrN c w h2.1 h2.2) (ZtU w ha hb) (ZgZ ha hb n _ (w.nextF h2.2) c.nextF rfl ?_ (.inl ?_))
        · show (sinceQ q t).beh+1-(q.nxt+1)<n
          rw [(zk q t).2.2.1]; omega
        · show ¬q.nxt+1=(sinceQ q t).una
          rw [(zk q t).2.1]; omega
      · rw [if_neg h2]
        have st:¬(Zad q∨Za6 q)∨(¬q.nxt=q.una∧room q≤0):=by
          by_cases hm:Zad q∨Za6 q
          · right
            have hr:room q≤0:=by
              rcases hm with hm | hm
              · exact Int.not_lt.mp fun z=>h1 ⟨z,hm⟩
              · exact Int.not_lt.mp fun z=>h2 ⟨z,hm⟩
            refine ⟨?_,hr⟩
            rcases h0 with h | h | h
            · exact h
            · intro z
              unfold room at hr
              omega
            · exact absurd hm h
          · exact .inl hm
        have gs:=ZmG (a:=a) (b:=b) (f:=f) (g:=g) c w st hp
        by_cases ho:q.oa=true
        · rw [if_pos ho] at gs ⊢
          refine .cons gs (ZmX w ha hb) (.nil ?_)
          have c':CalmQ { q with oa:=false } t:=⟨c.st,c.tw,c.due⟩
          have w':WF { q with oa:=false }:=⟨w.una,w.nxt,w.wr,w.wnd,w.most,w.come,w.byt⟩
          exact ZmG (a:=a) (b:=b) (f:=f) (g:=g) c' w' st hp
        · rw [if_neg ho] at gs ⊢
          exact .nil gs
end
end
end My
namespace My
open PySem L2 L2.MM
noncomputable section
def Zjg:List Seg→Int
  | []=>0
  | s::r=>s.data.length+s.flags % 2+Zjg r
structure Kept (q q':Q):Prop where
  st:q'.st=q.st
  una:q'.una=q.una
  beh:q'.beh=q.beh
  rcv:q'.rcv=q.rcv
  told:q'.told=q.told
  by_:q'.by_=q.by_
  wnd:q'.wnd=q.wnd
  most:q'.most=q.most
  written:q'.written=q.written
  come:q'.come=q.come
  fin:q'.fin=q.fin
  cl:q'.cl=q.cl
theorem Kept.refl (q:Q):Kept q q:=⟨rfl,rfl,rfl,rfl,rfl,rfl,rfl,rfl,rfl,rfl,rfl,rfl⟩
theorem Kept.trans {q r s:Q} (h:Kept q r) (k:Kept r s):Kept q s:=⟨k.st.trans h.st,k.una.trans h.una,k.beh.trans h.beh,k.rcv.trans h.rcv,k.told.trans h.told,k.by_.trans h.by_,k.wnd.trans h.wnd,k.most.trans h.most,k.written.trans h.written,k.come.trans h.come,k.fin.trans h.fin,k.cl.trans h.cl⟩
theorem Zht (q:Q) (t:Int):Kept q (sinceQ q t):=by
  unfold sinceQ
  split<;>exact ⟨rfl,rfl,rfl,rfl,rfl,rfl,rfl,rfl,rfl,rfl,rfl,rfl⟩
theorem Zc6 (q:Q) (r t:Int):Kept q (Zbk q r t):=
  have k:=Zht q t
  ⟨k.st,k.una,k.beh,k.rcv,k.told,k.by_,k.wnd,k.most,k.written,k.come,k.fin,k.cl⟩
theorem ZlV (q:Q) (t:Int):Kept q (nextF q t):=
  have k:=Zht q t
  ⟨k.st,k.una,k.beh,k.rcv,k.told,k.by_,k.wnd,k.most,k.written,k.come,k.fin,k.cl⟩
section
variable {a b f g t:Int}
theorem Zlk {q:Q} {r:Int} (w:WF q) (hr:0<r) (hd:Zad q):((Zc8 a b f g q r).data.length:Int)=z6 q r:=by
  obtain ⟨c1,c2,c3,c4⟩:=ZcG w hd.2 hr
  have h1:=w.una
  have h2:=hd.2
  have h3:=w.wr (by omega)
  show (((q.written.drop (q.nxt-q.una).toNat).take (z6 q r).toNat).length:Int)=_
  rw [List.length_take,List.length_drop]
  omega
theorem Zhx:∀(n:Nat) (q:Q),WF q→Kept q (Z7 a b f g t n q).2∧(Z7 a b f g t n q).2.nxt=q.nxt+Zjg (Z7 a b f g t n q).1∧WF (Z7 a b f g t n q).2∧((Z7 a b f g t n q).1.length:Int)≤(if 0<room q then room q else 0)+1
  | 0,q,w=>⟨Kept.refl q,by simp [Z7,Zjg],w,by simp [Z7]; split<;>omega⟩
  | n+1,q,w=>by
    unfold Z7
    by_cases h1:0<room q∧Zad q
    · obtain ⟨c1,c2,c3,c4⟩:=ZcG w h1.2.2 h1.1
      rw [if_pos h1]
      obtain ⟨k,a1,w1,l1⟩:=Zhx n (Zbk q (room q) t) (w.next h1.1 h1.2)
      have kd:=Zc6 q (room q) t
      refine ⟨kd.trans k,?_,w1,?_⟩
      · simp only
        rw [a1]
        show q.nxt+z6 q (room q)+Zjg _=q.nxt+(((Zc8 a b f g q (room q)).data.length:Int)+(Zc8 a b f g q (room q)).flags % 2+Zjg _)
        rw [Zlk w h1.1 h1.2]
        have:(Zc8 a b f g q (room q)).flags % 2=0:=by
          show (if q.nxt+z6 q (room q)=q.beh then 24 else 16:Int) % 2=0
          split<;>rfl
        omega
      · have rr:room (Zbk q (room q) t)=room q-z6 q (room q):=by
          show (Zbk q (room q) t).wnd-((Zbk q (room q) t).nxt-(Zbk q (room q) t).una)=_
          rw [kd.wnd,kd.una]
          show q.wnd-(q.nxt+z6 q (room q)-q.una)=q.wnd-(q.nxt-q.una)-z6 q (room q)
          omega
        rw [rr] at l1
        rw [if_pos h1.1]
        simp only [List.length_cons]
        split at l1<;>omega
    · rw [if_neg h1]
      by_cases h2:0<room q∧Za6 q
      · rw [if_pos h2]
        obtain ⟨k,a1,w1,l1⟩:=Zhx n (nextF q t) (w.nextF h2.2)
        have kd:=ZlV q t
        refine ⟨kd.trans k,?_,w1,?_⟩
        · simp only
          rw [a1]
          show q.nxt+1+Zjg _=q.nxt+(((finS a b f g q).data.length:Int)+(finS a b f g q).flags % 2+Zjg _)
          have e1:(finS a b f g q).data.length=0:=rfl
          have e2:(finS a b f g q).flags % 2=1:=rfl
          rw [e1,e2]
          omega
        · have rr:room (nextF q t)=room q-1:=by
            unfold room
            rw [kd.wnd,kd.una]
            show q.wnd-(q.nxt+1-q.una)=_
            omega
          rw [rr] at l1
          rw [if_pos h2.1]
          simp only [List.length_cons]
          split at l1<;>omega
      · rw [if_neg h2]
        split
        · refine ⟨⟨rfl,rfl,rfl,rfl,rfl,rfl,rfl,rfl,rfl,rfl,rfl,rfl⟩,?_,⟨w.una,w.nxt,w.wr,w.wnd,w.most,w.come,w.byt⟩,?_⟩
          · simp only [Zjg]
            have e1:(ZhV a b f g q).data.length=0:=rfl
            have e2:(ZhV a b f g q).flags % 2=0:=rfl
            rw [e1,e2]
            omega
          · simp only [List.length_cons,List.length_nil]
            split<;>omega
        · refine ⟨Kept.refl q,by simp [Zjg],w,?_⟩
          simp only [List.length_nil]
          split<;>omega
end
section
variable {a b f g t:Int}
end
end
end My
namespace My
open PySem L2 L2.MM
noncomputable section
section
variable {a b f g t:Int}
theorem Zgl:∀(n:Nat) (q:Q),WF q→(q.beh+1-q.nxt<n)→¬(0<room (Z7 a b f g t n q).2∧(Zad (Z7 a b f g t n q).2∨Za6 (Z7 a b f g t n q).2))
  | 0,q,w,hn=>by have:=w.nxt; omega
  | n+1,q,w,hn=>by
    unfold Z7
    by_cases h1:0<room q∧Zad q
    · obtain ⟨c1,c2,c3,c4⟩:=ZcG w h1.2.2 h1.1
      rw [if_pos h1]
      refine Zgl n _ (w.next h1.1 h1.2) ?_
      show (sinceQ q t).beh+1-(q.nxt+z6 q (room q))<n
      rw [(zk q t).2.2.1]; omega
    · rw [if_neg h1]
      by_cases h2:0<room q∧Za6 q
      · rw [if_pos h2]
        refine Zgl n _ (w.nextF h2.2) ?_
        show (sinceQ q t).beh+1-(q.nxt+1)<n
        rw [(zk q t).2.2.1]; omega
      · rw [if_neg h2]
        have key:¬(0<room q∧(Zad q∨Za6 q)):=fun z=>z.2.elim (fun y=>h1 ⟨z.1,y⟩) fun y=>h2 ⟨z.1,y⟩
        split<;>exact key
def probing (q:Q) (t:Int):Q:=if q.pr=true then q else { q with pr:=true,since:=t,wait:=1000,tries:=0 }
theorem ZgC {q:Q} (c:CalmQ q t) (w:WF q) (hn:q.nxt=q.una) (hw:q.wnd=0) (hm:Zad q∨Za6 q) (hd:q.pr=false∨t-q.since<q.wait):Zan (qE a b f g q) t=if q.oa=true then (some (ZhV a b f g (probing q t)),qE a b f g { probing q t with oa:=false }) else (none,qE a b f g (probing q t)):=by
  have o:=w.off (a:=a) (b:=b) (f:=f) (g:=g)
  have mo:ZaK (qE a b f g q)=true:=by
    rw [w.more]
    rcases hm with h | h
    · rw [decide_eq_true h]; rfl
    · rw [decide_eq_true h]; simp
  have a1:zg (qE a b f g q) t=(none,qE a b f g q):=by
    unfold zg
    rw [if_neg c.on.notSyn,if_pos (.inl (by rw [o]; show q.wnd-(q.nxt-q.una)≤0; omega))]
  have pb:(if (qE a b f g q).probes=true then qE a b f g q else Z0 { qE a b f g q with probes:=true } t)=qE a b f g (probing q t):=by
    unfold probing
    by_cases h:q.pr=true
    · rw [if_pos (show (qE a b f g q).probes=true from h),if_pos h]
    · rw [if_neg (show ¬(qE a b f g q).probes=true from h),if_neg h]; rfl
  have nd:Zc7 (qE a b f g (probing q t)) t=false:=by
    unfold Zc7 probing
    by_cases h:q.pr=true
    · rw [if_pos h]
      have:=hd.resolve_left (by rw [h]; decide)
      show decide (q.wait≤t-q.since)=false
      simp; omega
    · rw [if_neg h]
      show decide ((1000:Int)≤t-t)=false
      simp
  have a2:ze (qE a b f g q) t=(none,qE a b f g (probing q t)):=by
    unfold ze
    rw [if_neg (by rw [mo]; simp; exact ⟨w.same.mpr hn,hw⟩)]
    simp only [pb,nd]
    simp
  rw [c.on.go]
  unfold ZbH
  rw [a1]
  simp only [a2]
  have oo:(qE a b f g (probing q t)).owes_answer=q.oa:=by
    show (probing q t).oa=q.oa
    unfold probing
    split<;>rfl
  unfold zM
  rw [oo]
  by_cases h:q.oa=true
  · rw [if_pos h,if_pos h]; rfl
  · rw [if_neg h,if_neg h]
end
end
end My
namespace My
open PySem L2 L2.MM
noncomputable section
section
variable {a b f g t:Int} {q:Q}
structure Due (q:Q) (t:Int):Prop where
  st:q.st∉[State.closed,.listen,.synSent,.synCome,.timeWait]
  nx:¬q.nxt=q.una
  due:q.wait≤t-q.since
end
end
end My
namespace My
open PySem L2 L2.MM
noncomputable section
section
variable {a b f g t:Int} {q:Q}
theorem Zny {n W:Int} {q':Q} (hst:q.st∈[State.opn,.waitOne]) (go:goesOn (qE a b f g q) ⟨b,a,Zl g q.rcv,Zl f n,16,W,0,[]⟩ t=(true,qE a b f g q')) (h1:q'.st∈[State.opn,.waitOne]) (h2:q'.fin=none) (h3:q'.rcv=q.rcv) (h4:q'.come.length≤63) :
    comes (qE a b f g q) ⟨b,a,Zl g q.rcv,Zl f n,16,W,0,[]⟩ t=qE a b f g q':=by
  have hs:q.st=.opn∨q.st=.waitOne:=by simpa using hst
  have hs':q'.st=.opn∨q'.st=.waitOne:=by simpa using h1
  obtain ⟨s,hsg⟩:∃s:Seg,s=⟨b,a,Zl g q.rcv,Zl f n,16,W,0,[]⟩:=⟨_,rfl⟩
  have b4:bears s 4=false:=by rw [hsg]; simp
  have b2:bears s 2=false:=by rw [hsg]; simp
  have b16:bears s 16=true:=by rw [hsg]; simp
  have b1:bears s 1=false:=by rw [hsg]; simp
  have ls:Zk3 s=0:=by rw [hsg]; simp
  have nr:s.num=(qE a b f g q).rcv:=by rw [hsg]; rfl
  have ft:Zdk (qE a b f g q) s=true:=by
    unfold Zdk
    rw [ls,nr,ZpG]
    simp
  rw [←hsg] at go ⊢
  rw [ZmM (show (qE a b f g q).state∉_ by show q.st∉_; rcases hs with h | h<;>rw [h]<;>decide) ft b4 b2 b16,go]
  simp only [if_true]
  unfold ZaW
  have sh:(qE a b f g q').state=q'.st:=rfl
  have sda:s.data=[]:=by rw [hsg]
  have fn:(qE a b f g q').early_fin=none:=by show q'.fin.map _=none; rw [h2]; rfl
  have stm:=Zgu (e:=qE a b f g q') (s:=s) (by rw [sda]; simp) (by rw [nr]; show Zl g q.rcv=Zl g q'.rcv; rw [h3]) (Zbp _ _) rfl fn (by rw [sda,b1]; show q'.come.length+0+_≤64; simp; omega)
  rw [if_pos (by rw [sh]; rcases hs' with h | h<;>simp [h]),stm,b1,sda]
  have rr:Zl (qE a b f g q').rcv ((([]:List Int).length:Nat):Int)=(qE a b f g q').rcv:=by
    show Zl (Zl g q'.rcv) 0=Zl g q'.rcv
    rw [Zap]
    congr 1
    omega
  rw [rr]
  simp
  show ({ qE a b f g q' with early_fin:=none }:Zt)=_
  unfold qE at fn ⊢
  simp only at fn ⊢
  rw [fn]
theorem ZrV (w:WF q) (hn:q.nxt≤q.beh):ZaN (qE a b f g q) t=qE a b f g q:=by
  have hb:=w.nxt
  have hu:=w.una
  unfold ZaN
  rw [if_pos]
  left
  show zG (Zl f q.nxt) (Zl f q.beh)=false
  rw [Zhg (by omega) (by omega)]
  simp; omega
end
end
end My
namespace My
open PySem L2 L2.MM
noncomputable section
section
variable {a b f g t:Int} {q:Q}
abbrev S3:List State:=[.opn,.waitOne,.waitTwo]
theorem S3.cases {s:State} (h:s∈S3):s=.opn∨s=.waitOne∨s=.waitTwo:=by simpa using h
end
end
end My
namespace My
open PySem L2 L2.MM
noncomputable section
theorem ZfN (num:Int) (ys:List Int):∀(xs:List Int) (k:Nat) (e:Zt),(∀i:Nat,k≤i→i<k+xs.length→inWin e (Zl num i)=false)→zW e num k (xs++ys)=zW e num (k+xs.length) ys
  | [],k,e,_=>by simp
  | x::xs,k,e,h=>by
    have h0:=h k (Nat.le_refl _) (by simp)
    rw [List.cons_append,zW,if_neg (by rw [h0]; decide),ZfN num ys xs (k+1) e (fun i hi hj=>h i (by omega) (by simp; omega))]
    congr 1
    simp; omega
theorem Zh0 {e:Zt} {s:Seg} {xs ys:List Int} (hd:s.data=xs++ys) (hl:xs.length+ys.length≤16) (hr:e.rcv=Zl s.num xs.length) (he:e.early=[]) (hf:e.early_fin=none) (hw:e.come.length+ys.length≤64) (h1:bears s 1=false) :
    Zbg e s={ e with come:=e.come++ys,rcv:=Zl e.rcv ys.length,owes_answer:=e.owes_answer || decide (0<s.data.length),early_fin:=none }:=by
  have w:∀i:Nat,i<xs.length+ys.length→inWin e (Zl s.num i)=decide (xs.length≤i):=by
    intro i hi
    unfold inWin ZV
    rw [hr,Zbt (by omega)]
    by_cases c:xs.length≤i
    · rw [decide_eq_true (by omega),decide_eq_true (by omega),decide_eq_true c]; rfl
    · rw [decide_eq_false (by omega),decide_eq_false c]; rfl
  have k0:zW e s.num 0 s.data=zW e s.num xs.length ys:=by
    rw [hd,ZfN s.num ys xs 0 e (fun i _ hi=>by rw [w i (by omega),decide_eq_false (by omega)])]
    congr 1
    omega
  have k1:zW e s.num 0 s.data={ e with early:=Zdt s.num xs.length ys }:=by
    rw [k0,Zfm s.num ys xs.length e (by omega) (fun i h2 h3=>⟨by rw [w i h3,decide_eq_true h2],by rw [he]; rfl⟩),he]
    rfl
  have k2:z0 e s={ e with early:=Zdt s.num xs.length ys,owes_answer:=e.owes_answer || decide (0<s.data.length) }:=by
    unfold z0
    rw [k1]
    by_cases c:0<s.data.length
    · rw [if_pos c]; simp [c]
    · rw [if_neg c]; simp [c]
  obtain ⟨oa,hoa⟩:∃x,x=(e.owes_answer || decide (0<s.data.length)):=⟨_,rfl⟩
  rw [←hoa] at k2 ⊢
  have k3:Zbv (z0 e s) s={ e with early:=Zdt s.num xs.length ys,owes_answer:=oa }:=by
    rw [k2]
    unfold Zbv
    rw [if_pos h1]
  unfold Zbg Ze6
  rw [k3]
  rw [ZhA s.num ys xs.length 200 { e with early:=Zdt s.num xs.length ys,owes_answer:=oa } (by omega) (by omega) hr rfl (by
    intro i _ _
    show ¬e.early_fin=_
    rw [hf]
    simp)]
  unfold ZfM
  simp only
  rw [Zi8 (by unfold ZV; simp only; omega)]
  have rr:Zl s.num ((xs.length+ys.length:Nat):Int)=Zl e.rcv ys.length:=by
    rw [hr,Zap]
    congr 1
  rw [rr]
  simp [he,hf]
section
variable {a b f g t:Int} {q:Q}
theorem Znx {m n W:Int} {xs ys:List Int} {q':Q} (hst:q.st∈S3) (hm:m+xs.length=q.rcv) (hx:xs.length+ys.length≤16) (hy:0<ys.length) (hq:q.come.length+ys.length≤63) (go:goesOn (qE a b f g q) ⟨b,a,Zl g m,Zl f n,16,W,0,xs++ys⟩ t=(true,qE a b f g q')) (h1:q'.st∈S3) (h2:q'.fin=none) (h3:q'.rcv=q.rcv) (h4:q'.come.length+ys.length≤63) :
    comes (qE a b f g q) ⟨b,a,Zl g m,Zl f n,16,W,0,xs++ys⟩ t=qE a b f g { q' with come:=q'.come++ys,rcv:=q.rcv+ys.length,oa:=true }:=by
  have hs:=S3.cases hst
  have hs':=S3.cases h1
  obtain ⟨s,hsg⟩:∃s:Seg,s=⟨b,a,Zl g m,Zl f n,16,W,0,xs++ys⟩:=⟨_,rfl⟩
  have b4:bears s 4=false:=by rw [hsg]; simp
  have b2:bears s 2=false:=by rw [hsg]; simp
  have b16:bears s 16=true:=by rw [hsg]; simp
  have b1:bears s 1=false:=by rw [hsg]; simp
  have sn:s.num=Zl g m:=by rw [hsg]
  have rc:(qE a b f g q).rcv=Zl s.num xs.length:=by
    rw [sn,Zap,hm]; rfl
  have ls:Zk3 s=xs.length+ys.length:=by rw [hsg]; simp
  have ft:Zdk (qE a b f g q) s=true:=by
    unfold Zdk
    rw [ls,if_neg (by omega)]
    have:inWin (qE a b f g q) (Zl s.num ((xs.length:Int)+ys.length-1))=true:=by
      unfold inWin ZV
      rw [rc,Zbt (by omega)]
      show (decide (0≤_) && decide (_<64-(q.come.length:Int)))=true
      simp
      omega
    rw [this]
    simp
  rw [←hsg] at go ⊢
  rw [ZmM (show (qE a b f g q).state∉_ by show q.st∉_; rcases hs with h | h | h<;>rw [h]<;>decide) ft b4 b2 b16,go]
  simp only [if_true]
  unfold ZaW
  have sh:(qE a b f g q').state=q'.st:=rfl
  have sda:s.data=xs++ys:=by rw [hsg]
  have fn:(qE a b f g q').early_fin=none:=by show q'.fin.map _=none; rw [h2]; rfl
  have rc':(qE a b f g q').rcv=Zl s.num xs.length:=by rw [←rc]; show Zl g q'.rcv=Zl g q.rcv; rw [h3]
  have stm:=Zh0 (e:=qE a b f g q') (s:=s) sda (by omega) rc' rfl fn (by show q'.come.length+ys.length≤64; omega) b1
  rw [if_pos (by rw [sh]; rcases hs' with h | h | h<;>simp [h]),stm,sda]
  have rr:Zl (qE a b f g q').rcv (ys.length:Int)=Zl g (q.rcv+ys.length):=by
    show Zl (Zl g q'.rcv) _=_
    rw [Zap,h3]
  have dl:decide (0<(xs++ys).length)=true:=by simp; omega
  rw [rr,dl]
  simp only [reduceCtorEq,if_false,Bool.or_true]
  unfold qE
  simp [h2]
theorem Znz {m n W:Int} (hst:q.st∈S3) (hm:m<q.rcv∧-1000000<m∧q.rcv<1000000):comes (qE a b f g q) ⟨b,a,Zl g m,Zl f n,16,W,0,[]⟩ t=qE a b f g { q with oa:=true }:=by
  have hs:=S3.cases hst
  rw [Zqw (show (qE a b f g q).state∉_ by show q.st∉_; rcases hs with h | h | h<;>rw [h]<;>decide)]
  have ft:Zdk (qE a b f g q) ⟨b,a,Zl g m,Zl f n,16,W,0,[]⟩=false:=by
    unfold Zdk
    rw [if_pos (by simp)]
    show (decide (0≤ZU (Zl g m) (Zl g q.rcv)) && _)=false
    rw [Zbt (by omega),decide_eq_false (by omega)]
    rfl
  unfold Zac Zdz
  rw [ft,if_pos rfl]
  have st:(qE a b f g q).state=q.st:=rfl
  rw [if_neg (by simp),st,if_neg (by rcases hs with h | h | h<;>rw [h]<;>decide),if_neg (by rcases hs with h | h | h<;>rw [h]<;>simp)]
  rfl
end
end
end My
namespace PySem.W.Fast
def tw14949614256930976768:=0
def tw7380153160283111584:=0
def tw13287711804472887552:=0
def tw12752905084881395968:=0
def tw8220748563162700064:=0
def tw18248570350804974912:=0
def tw989609686871389536:=0
def tw11768172387651756416:=0
def tw2167450635937015168:=0
def tw3321217440438201792:=0
def tw10818551209066276544:=0
def tw15760740739845832448:=0
def tw9288176007317097216:=0
def tw10121045885356797824:=0
def tw6888654380607796128:=0
def tw7050838729187924993:=0
def tw9654173068352994433:=0
def tw2034270893489709185:=0
def tw9492657391947977985:=0
def tw7399926607058446593:=0
def tw214539484482215201:=0
def tw16139689834022444417:=0
def tw14221673167877848449:=0
def tw9946434403331848641:=0
def tw2022608251560901089:=0
def tw8044852583940277729:=0
def tw456754339453296129:=0
def tw4641766391999150657:=0
def tw6694966899390421665:=0
def tw1556683673679260321:=0
def tw6910817560597503745:=0
def tw2059144943223733025:=0
def tw16818972966225466241:=0
def tw11482406001965595521:=0
def tw17148312525537159073:=0
def tw5326380695076819873:=0
def tw13588407686220618689:=0
def tw10135409281905633314:=0
def tw12137574968979236898:=0
def tw13687764921670041666:=0
def tw10756278695223395458:=0
def tw8471126207370428642:=0
def tw15304205277910736226:=0
def tw9369908870089938466:=0
def tw18237855904023565890:=0
def tw2927764263672229474:=0
def tw12990350760186634882:=0
def tw903964141249839778:=0
def tw8438175044787136258:=0
def tw3051838509387522882:=0
def tw2120660478772470626:=0
def tw15751163980490438498:=0
def tw13716458137845672834:=0
def tw11997661182499564514:=0
def tw12618134479331623971:=0
def tw273743650853553283:=0
def tw15452464907769604227:=0
def tw2511667996449590563:=0
def tw7590302812501868995:=0
def tw10498703761615704515:=0
def tw17262179545838798371:=0
def tw10599938450477391491:=0
def tw1225716517085686403:=0
def tw3392346030919041699:=0
def tw10236997139796808355:=0
def tw17693791234254620515:=0
def tw2081278631552184163:=0
def tw4649392375120272259:=0
def tw10181470894120817571:=0
def tw14995959174327969828:=0
def tw15115886659205966884:=0
def tw1604151170486001796:=0
def tw10268305260159328388:=0
def tw6768735873906533508:=0
def tw18216233029503416452:=0
def tw16920158993143729316:=0
def tw1368794939735226532:=0
def tw3167239004017246372:=0
def tw12364278695389881572:=0
def tw1039717678326680836:=0
def tw507749498618335524:=0
def tw10369581154067992868:=0
def tw6885793931077182756:=0
def tw1747705930296269156:=0
def tw16153582521060833636:=0
def tw3129791617374932324:=0
def tw18124909953891231076:=0
def tw10683879341446504836:=0
def tw833046437784651172:=0
def tw3500037959059328420:=0
def tw10027817917386283428:=0
def tw4168848515201597892:=0
def tw16015658867076353476:=0
def tw2059412871796197860:=0
def tw12810951013694725604:=0
def tw11047124345491792420:=0
def tw354375249194373700:=0
def tw1701091015327738436:=0
def tw17653769830012821124:=0
def tw9580864323824404260:=0
def tw1685113338054317892:=0
def tw7075507683116840772:=0
def tw8533074111753715588:=0
def tw5973629443353846692:=0
def tw13633111774350365636:=0
def tw9142610578118231045:=0
def tw10321656881403291685:=0
def tw15874766852847244357:=0
def tw12502181458119898181:=0
def tw16796973951249560645:=0
def tw12094422391291721797:=0
def tw3062869119619973221:=0
def tw1626883608861242469:=0
def tw17540091869894061317:=0
def tw9390036686125369669:=0
def tw10291088342625659237:=0
def tw17431988444267499941:=0
def tw6655888678007461349:=0
def tw6618175814625102405:=0
def tw6115636779583758917:=0
def tw10341132553541348997:=0
def tw5058380642472767173:=0
def tw16257883875319368453:=0
def tw6464672248387327749:=0
def tw461260742629482309:=0
def tw3946398186299584325:=0
def tw16516158398872066917:=0
def tw16593148388148772709:=0
def tw3823548958535406501:=0
def tw1471349181327501253:=0
def tw7474214166913794021:=0
def tw689703266163188709:=0
def tw6829988565472134150:=0
def tw18391487519382486054:=0
def tw11184980131564329062:=0
def tw11885882982368876646:=0
def tw3924698788088288390:=0
def tw17419437553541545158:=0
def tw3389773370189449446:=0
def tw9686721430785510662:=0
def tw12684579590978471206:=0
def tw4121907824645392742:=0
def tw9902215385636829542:=0
def tw12232819384590150054:=0
def tw7248781398182370758:=0
def tw16262230191597015526:=0
def tw11828849044922441222:=0
def tw8011843237909678630:=0
def tw6979242934158790214:=0
def tw16260517237286310470:=0
def tw12724669757060331142:=0
def tw1377900811261999750:=0
def tw6822980471037649574:=0
def tw8783265134090303206:=0
def tw9306816153840622342:=0
def tw13905915191250903878:=0
def tw11357807442007091078:=0
def tw1874073683342185414:=0
def tw18395873333396828231:=0
def tw4372352360934969447:=0
def tw9106279625142070375:=0
def tw8926433858848744583:=0
def tw13704882293193936039:=0
def tw2728509198156242087:=0
def tw7458063183459951783:=0
def tw15682059498325555399:=0
def tw6886225861305203943:=0
def tw9801551721015393543:=0
def tw2762062933149901063:=0
def tw1147558153977978183:=0
def tw4857251891259545063:=0
def tw8685842392796167687:=0
def tw11019063324455711271:=0
def tw14050649472709897895:=0
def tw5422183975412307719:=0
def tw15191385534614664039:=0
def tw7711982681363036039:=0
def tw9479091348065975207:=0
def tw16897686240308793287:=0
def tw15787317319016864711:=0
def tw3071251436927219687:=0
def tw386072119567503368:=0
def tw9721301121316362376:=0
def tw7691573829895869608:=0
def tw16786596817065440520:=0
def tw7313785849775191304:=0
def tw11447767823444669736:=0
def tw2828072314265714984:=0
def tw15885258658724587848:=0
def tw7830581347629191528:=0
def tw17105259626783730120:=0
def tw17987487152063693288:=0
def tw5655073217145015848:=0
def tw11747341941581324840:=0
def tw17842375083857166888:=0
def tw1248231029557381672:=0
def tw17338020531031792360:=0
def tw3644190884947092200:=0
def tw14077468155536379752:=0
def tw900600612883052392:=0
def tw4072639277853795208:=0
def tw8952458397716101032:=0
def tw12283236255851243432:=0
def tw10303873320696742856:=0
def tw3584998427082193896:=0
def tw15145935591411613705:=0
def tw13294519982226362377:=0
def tw5647957319623955465:=0
def tw15574573597540506633:=0
def tw6445981734324187209:=0
def tw16299909989651416169:=0
def tw8274079732985117801:=0
def tw14804265022417881193:=0
def tw2576521840987502697:=0
def tw10678845639299009673:=0
def tw18198485496484832393:=0
def tw7916115073145245929:=0
def tw17492575356176489833:=0
def tw16570939730284565897:=0
def tw13266151126543168937:=0
def tw2254828883185763785:=0
def tw1074289722696968649:=0
def tw13724107558232009161:=0
def tw15757663270296763881:=0
def tw17559043031618132489:=0
def tw14950581280134608425:=0
def tw7816350193413452329:=0
def tw11011724019602247433:=0
def tw583481233728006921:=0
def tw14336840965421234953:=0
def tw4428710480830254889:=0
def tw9508050987921149769:=0
def tw3915332945002102665:=0
def tw11986507333312591849:=0
def tw8104315070425366538:=0
def tw12701821435978133674:=0
def tw3985330295621686506:=0
def tw12317227271049491754:=0
def tw3899809974766889258:=0
def tw4963636821636842858:=0
def tw12527222753837749610:=0
def tw5801678891825499530:=0
def tw16725082902530841002:=0
def tw4852556070059754986:=0
def tw5738974970129413610:=0
def tw1039252581995500074:=0
def tw3903605953007867434:=0
def tw13934966803588983370:=0
def tw17248404461489993322:=0
def tw13007963745619809930:=0
def tw9336248081570355850:=0
def tw9539438278441788074:=0
def tw6871676036743013098:=0
def tw16587991614206650090:=0
def tw15121934453204761322:=0
def tw586770899142948618:=0
def tw8081861857800237866:=0
def tw3144360362304726858:=0
def tw7754516508376413034:=0
def tw11122690605412883434:=0
def tw4843134011931650059:=0
def tw15363991593522819083:=0
def tw664501527399554091:=0
def tw12185284909948579915:=0
def tw5057704147801500747:=0
def tw2153467062071914571:=0
def tw17426416739217389675:=0
def tw3325569269027160363:=0
def tw203213835539518827:=0
def tw15614733383620872555:=0
def tw12722460109672213867:=0
def tw6218795932596283883:=0
def tw1655670738189966891:=0
def tw3566188398556364363:=0
def tw4575070298667639371:=0
def tw3322408146578436715:=0
def tw4650536246508786379:=0
def tw15196096989932752619:=0
def tw18308683701347802859:=0
def tw5752216992439692011:=0
def tw9476403297334644523:=0
def tw16026981826512106315:=0
def tw10960722249499183979:=0
def tw4762636764228645739:=0
def tw5541206149132336043:=0
def tw6003285064762296299:=0
def tw5758934822810622955:=0
def tw4489504448579153899:=0
def tw16032020080264933355:=0
def tw5744664374677121036:=0
def tw18416834693966460940:=0
def tw12223628330626254892:=0
def tw3749872886445691052:=0
def tw10973211918569128140:=0
def tw13548594709949172940:=0
def tw9930651772418381036:=0
def tw12913144843563138316:=0
def tw16507634152798096748:=0
def tw2924339826894862732:=0
def tw10486878838146904492:=0
def tw6083893302625934796:=0
def tw3659517172153943532:=0
def tw15680595339899337196:=0
def tw13850570282593714700:=0
def tw14695266443519892012:=0
def tw16902978181396721196:=0
def tw15199883937961709132:=0
def tw5736057691518147148:=0
def tw4503667951487532716:=0
def tw13708750235345020684:=0
def tw7959383410499325740:=0
def tw10904163037027127148:=0
def tw6765713303570036620:=0
def tw13376204323282779052:=0
def tw800580299250076749:=0
def tw15940374207093916813:=0
def tw5251848459175186573:=0
def tw14896125536385365165:=0
def tw18364666918830678253:=0
def tw2296046986998960397:=0
def tw855730284183543053:=0
def tw9152601039636190509:=0
def tw4147046605552604493:=0
def tw12187715124628622701:=0
def tw17859341748221885965:=0
def tw14931405301621829165:=0
def tw16922330762916495949:=0
def tw17095826840211028653:=0
def tw13444765159521811149:=0
def tw6311414369398395661:=0
def tw5956278962979828493:=0
def tw15653027005902308141:=0
def tw7861112576469045069:=0
def tw398366131516899213:=0
def tw14244789570223217581:=0
def tw10512480479663104941:=0
def tw184283526431308749:=0
def tw5039618039786559469:=0
def tw727925178917163022:=0
def tw11466848845094516782:=0
def tw4079142087182236782:=0
def tw13685852025254533230:=0
def tw7212419549784084654:=0
def tw1701664163876226222:=0
def tw1339042297755011278:=0
def tw10504100925689251054:=0
def tw2485610330886796526:=0
def tw9317857294846359790:=0
def tw59762191200787726:=0
def tw1262716247328039278:=0
def tw2904538777926781358:=0
def tw7888392593466300878:=0
def tw11146242896252924494:=0
def tw2398341349747463790:=0
def tw4020892729252290158:=0
def tw2542383166227014350:=0
def tw10930014018948743950:=0
def tw14011128979454659406:=0
def tw17560255952466874190:=0
def tw10896182296505606030:=0
def tw8986846344999304174:=0
def tw5132598375728230447:=0
def tw1312740941484486735:=0
def tw6165086825190778991:=0
def tw424148927909308591:=0
def tw3387868868176915663:=0
def tw3840368498755762447:=0
def tw7547503260435320111:=0
def tw8444666946277359951:=0
def tw10536031960885518831:=0
def tw9762795485151090255:=0
def tw10652571324845777487:=0
def tw9104833510087848527:=0
def tw8938374057648355951:=0
def tw16543210904004760207:=0
def tw13599262656001832591:=0
def tw9069901170412637903:=0
def tw8123781559398291151:=0
def tw5820258881563738863:=0
def tw5189832069213537039:=0
def tw985505490642328431:=0
def tw14877158273244455791:=0
def tw11796928217183636367:=0
def tw12911247862310409135:=0
def tw1637038128865675247:=0
def tw12860559914590037040:=0
def tw10555260747166812304:=0
def tw16361839413561387152:=0
def tw17522871198845469872:=0
def tw286419373304199344:=0
def tw12259076409183920336:=0
def tw18204417055579941136:=0
def tw4380428414356411664:=0
def tw13989482216142035216:=0
def tw15967193208567737744:=0
def tw8965144331685162416:=0
def tw6216696064072405488:=0
def tw10838685700723871248:=0
def tw8748350439029279280:=0
def tw11913976650435123792:=0
def tw1965022652181493392:=0
def tw5383007790119244432:=0
def tw13638986448003066512:=0
def tw12862024080487897808:=0
def tw12081001685520021200:=0
def tw11966346274976090928:=0
def tw11730008881154246480:=0
def tw7741518735423393616:=0
def tw17488321601839599536:=0
def tw5324439072936609776:=0
def tw3542931302753627120:=0
def tw12979577990928052241:=0
def tw11032237307709288529:=0
def tw15204346243726536977:=0
def tw5209285225316914481:=0
def tw5962947329834293585:=0
def tw8166578543448186193:=0
def tw11002082866590503281:=0
def tw3049343126266103313:=0
def tw16894597326732064337:=0
def tw16676850047373310577:=0
def tw12906745944205570737:=0
def tw16118025689261887153:=0
def tw8937557727586116305:=0
def tw2524467676744862481:=0
def tw13632332501751738193:=0
def tw14696952251379044209:=0
def tw16446509201680964529:=0
def tw15414691400411173809:=0
def tw13358771874251459602:=0
def tw5224059699625912338:=0
def tw422156210879646834:=0
def tw4372114295974483058:=0
def tw6095199435505453234:=0
def tw13698764422836843730:=0
def tw11437724553921446226:=0
def tw15548660207607564626:=0
def tw10325686642598895090:=0
def tw8746992607695968786:=0
def tw9380300896082656786:=0
def tw2168636313061175986:=0
def tw11944704206254713554:=0
def tw12987715954833095378:=0
def tw17258233249218967282:=0
def tw18420034186963247922:=0
def tw18245305752917694290:=0
def tw9421447935284772690:=0
def tw8879658132472621970:=0
def tw17099156177342920594:=0
def tw6700789973312012274:=0
def tw3563595793507527699:=0
def tw10197284815879370771:=0
def tw16937689180417229875:=0
def tw17111874916194522163:=0
def tw13069648177588074547:=0
def tw12617750318104842323:=0
def tw7183976925567370355:=0
def tw14435973192689020019:=0
def tw5264530793630708947:=0
def tw12320460363618835763:=0
def tw13674581773878436179:=0
def tw12449239327107118419:=0
def tw13054832217052834163:=0
def tw4631119879141099027:=0
def tw6363833441437392403:=0
def tw13739462809380980275:=0
def tw4008037595327304339:=0
def tw9126518431431485107:=0
def tw16106023242725663475:=0
def tw3567211921167862547:=0
def tw1556057645135275859:=0
def tw5284797764133557107:=0
def tw11722020257343412115:=0
def tw8602653613527217043:=0
def tw9979867408100835219:=0
def tw16159476326466141139:=0
def tw1072656929199093780:=0
def tw17860538018350472436:=0
def tw18016830364582672628:=0
def tw7443394980858263796:=0
def tw11568947609511954708:=0
def tw3786345435107719444:=0
def tw2890772176009342292:=0
def tw5933737930082477396:=0
def tw6471637653177338356:=0
def tw13371914541749582324:=0
def tw16770217159611893268:=0
def tw12796970332216317460:=0
def tw14940441287943830100:=0
def tw14907913797896453748:=0
def tw9776553804883087028:=0
def tw8190646507199461044:=0
def tw9484918840213978868:=0
def tw3519905194423184148:=0
def tw5757986379484692308:=0
def tw929456253712573300:=0
def tw597553950783336308:=0
def tw17330686901831339956:=0
def tw2185577495506804692:=0
def tw4922214016239258645:=0
def tw17297529663238146133:=0
def tw1095763578013491285:=0
def tw17088392573965863029:=0
def tw13080220070913881301:=0
def tw6884713496050094325:=0
def tw11560693474182519029:=0
def tw9849519474623462677:=0
def tw4985672442848823573:=0
def tw9101217724074683701:=0
def tw13235190540917685621:=0
def tw6846827829370387861:=0
def tw12214205091297068469:=0
def tw5821385821603510741:=0
def tw7367471411255439893:=0
def tw15255030779361326741:=0
def tw706031908663131797:=0
def tw11800560949493069493:=0
def tw4336935582194926293:=0
def tw4093779332938846965:=0
def tw14198035591313990485:=0
def tw12940142142590430133:=0
def tw890106146021801110:=0
def tw5101741240721602742:=0
def tw9668258863987564790:=0
def tw4394478727522354518:=0
def tw9156425543247638870:=0
def tw10051802557469042038:=0
def tw7944561607325070710:=0
def tw18258270955167891830:=0
def tw12175503537841926582:=0
def tw9475406053248896534:=0
def tw14661476430962009718:=0
def tw9623027702863699670:=0
def tw10726992562587809494:=0
def tw15984314621787425494:=0
def tw13057463750982603510:=0
def tw15843838379657477974:=0
def tw2770135748020250582:=0
def tw1585356900645356534:=0
def tw16297665771730511927:=0
def tw8832685366164289719:=0
def tw6085799808599940343:=0
def tw10692903033303109975:=0
def tw9529215386713787831:=0
def tw15414232346055909815:=0
def tw10364921248758671863:=0
def tw10053350534385981943:=0
def tw12251965056297211511:=0
def tw8127651234215198359:=0
def tw11327963907600473783:=0
def tw14824891463232162519:=0
def tw891484135059578583:=0
def tw13643668444341102359:=0
def tw17698172118544350135:=0
def tw16678855477342954520:=0
def tw10940704270297376792:=0
def tw15056004314316030040:=0
def tw10845069861553445176:=0
def tw2406720131401146776:=0
def tw17299998671538450904:=0
def tw11221038825483644408:=0
def tw11411307288556937752:=0
def tw14082602613927987832:=0
def tw16364925100555490936:=0
def tw3643642076083689144:=0
def tw15756445442802025208:=0
def tw16372689908219462392:=0
def tw8855246765805869880:=0
def tw13905932092629556088:=0
def tw9675092184929425272:=0
def tw691352562078611448:=0
def tw17392033992291849241:=0
def tw527387451553609753:=0
def tw7018351273298769977:=0
def tw12096706147336017977:=0
def tw2576712141941409977:=0
def tw1565644965223762137:=0
def tw1447133470754921689:=0
def tw7016771010418642265:=0
def tw3104310277098381657:=0
def tw9740365691952061785:=0
def tw2401300221859560793:=0
def tw3302685517922083225:=0
def tw18393214887025490329:=0
def tw3349079830321811897:=0
def tw16312747994267363865:=0
def tw1375328144640375321:=0
def tw12795821731121468985:=0
def tw5039488171277560377:=0
def tw722523825868097145:=0
def tw6060614465361462937:=0
def tw6546535950914688697:=0
def tw4742150104439077561:=0
def tw16379378745067231929:=0
def tw2978972239333994201:=0
def tw8792245923322828537:=0
def tw7752999978376602489:=0
def tw16858820640075222937:=0
def tw11033758503465784249:=0
def tw4888937631797531609:=0
def tw14926717254923446265:=0
def tw2107678745226773530:=0
def tw8803249231400472602:=0
def tw177174984112406618:=0
def tw14882327470065616026:=0
def tw5697742285918574842:=0
def tw15203320440687041786:=0
def tw4844410857316453690:=0
def tw11293715112778223930:=0
def tw1724184116212034906:=0
def tw15555875317187868090:=0
def tw847934231456175578:=0
def tw16178863168428802554:=0
def tw4651205731575398906:=0
def tw18022419227796356730:=0
def tw5155049127291735674:=0
def tw13244158385023356666:=0
def tw1086487080228426490:=0
def tw1840561294820091674:=0
def tw14419725562155264794:=0
def tw1833848896359511898:=0
def tw10391681141683027834:=0
def tw135853289323885466:=0
def tw17605032882857969594:=0
def tw15786493412469495738:=0
def tw16479081276301112282:=0
def tw8455351861603771419:=0
def tw3297525562388325435:=0
def tw11921753187099587675:=0
def tw17431452837405542491:=0
def tw5862133756789251163:=0
def tw18010759757510126715:=0
def tw3430625772736260251:=0
def tw17855122687320683739:=0
def tw7107611479763741979:=0
def tw11073224143346301211:=0
def tw7586117428151695739:=0
def tw14818881058560971195:=0
def tw10405588531505335803:=0
def tw9337289224726624795:=0
def tw917286651537011259:=0
def tw14517195333846419035:=0
def tw8884193343024384603:=0
def tw283276433993720539:=0
def tw10924104528495284987:=0
def tw8503095040651248379:=0
def tw3899049020984291067:=0
def tw12241543578048258843:=0
def tw3121402842763656987:=0
def tw9682928742626145115:=0
def tw16964514958178837339:=0
def tw442590083449469915:=0
def tw17699261214259431452:=0
def tw16260125928577309820:=0
def tw566620924238191740:=0
def tw13591904025869008028:=0
def tw16756284569066589404:=0
def tw11418050063734963420:=0
def tw6175936518123015484:=0
def tw1194040733601690940:=0
def tw7522909240260514140:=0
def tw16977224680542004604:=0
def tw10335385059722192252:=0
def tw11070065468237629884:=0
def tw9271139970741120508:=0
def tw17018858086458468892:=0
def tw14864110266889776700:=0
def tw2041164230628847164:=0
def tw17038310892036238972:=0
def tw8957980913591504540:=0
def tw12544670880134060764:=0
def tw8698244680702453500:=0
def tw2589342828618837756:=0
def tw1760675717221358428:=0
def tw5348041906502753116:=0
def tw10833069758640616284:=0
def tw9167265678897942524:=0
def tw3978850288528383996:=0
def tw8324746837346453597:=0
def tw18186812058960662621:=0
def tw7509867830656114845:=0
def tw7052924957705522397:=0
def tw6704143544262382813:=0
def tw16991110881625171389:=0
def tw13870327592199551421:=0
def tw10822336098221839837:=0
def tw9166785620847453693:=0
def tw12223796355318680157:=0
def tw1519006296795672157:=0
def tw1593416613683819101:=0
def tw13462414491638016701:=0
def tw7152726948474608317:=0
def tw304222652078903005:=0
def tw8080429591720468221:=0
def tw14046584706756591357:=0
def tw5334202361760539421:=0
def tw5287145322008771389:=0
def tw5349503773079891805:=0
def tw14741784192243630973:=0
def tw18217445026932182909:=0
def tw10082966931900101597:=0
def tw5048065059850182653:=0
def tw10937847231933119582:=0
def tw537256046902939806:=0
def tw1049754525172074782:=0
def tw10025435759372344606:=0
def tw12065683453044568382:=0
def tw2080165463085321598:=0
def tw17809925701297540510:=0
def tw10978611490258689438:=0
def tw3102257528399900286:=0
def tw3941334823519771326:=0
def tw11219403346197787358:=0
def tw16804058131272584990:=0
def tw12518803198865346366:=0
def tw15664813596478381886:=0
def tw9253723122644567902:=0
def tw17788057860038249342:=0
def tw16703137928621001694:=0
def tw17311162091567151102:=0
def tw10344589393851364383:=0
def tw11257687644566197311:=0
def tw5586110118023868511:=0
def tw10718009103054169215:=0
def tw124443936871746815:=0
def tw15899977215774497023:=0
def tw6690756506798083359:=0
def tw11131123579707835711:=0
def tw7142047319828240767:=0
def tw17352249134992104831:=0
def tw17214403903869051359:=0
def tw10799999249071924703:=0
def tw2290934395218519519:=0
def tw1973430367303277055:=0
def tw2381508538780912127:=0
def tw12314845771494091295:=0
def tw9337328681162231423:=0
def tw11270777629564320447:=0
def tw14829157291100000991:=0
def tw560155673339802367:=0
def tw2541166855993511711:=0
def tw17970475161139404575:=0
def tw6242730016784771871:=0
def tw5064467564100917055:=0
def tw17821079279854158751:=0
def tw2773521076492567487:=0
def tw11508951996835600351:=0
def tw9027818316028920831:=0
def tw17282199913369632476:=0
end PySem.W.Fast
namespace My
open PySem L2 L2.MM
noncomputable section
def Zei:SM:=(mIf (mOr (ZeE (zT (Zd 6)) (ZG (mOp neM (mOp ixM (Zd 5) (mC (.int 2))) (mCB ZbP (Zc (mOp ixM (Zd 0) (mC (.int 2))) (Zc (Zd 2) Zk)))))) (ZG (mOp neM (Zd 6) (mCB Zer (Zc (mSl (Zd 1) (Zbm (Zd 2)) (Zbm (mOp ZL (Zd 2) (mCB Zde (Zc (Zd 6) Zk))))) Zk))))) (ZK (ZrH (mC (.int 1)))) ZN)
def Zeh:SM:=(mIf (ZeE (zT (Zd 6)) (ZG (mOp gtM (mOp Ze9 (Zd 2) (Zd 3)) (Zd 4)))) (ZK (ZrH (mC (.int 1)))) ZN)
def ZhP:SM:=(Zd5 (mIn (mCB Ze2 (Zc (mOp ixM (Zd 0) (mC (.int 0))) (Zc (mC (.int 10)) Zk)))) (gNm 5) (Zq (ZM 6 (mOp ixM (Zd 5) (mC (.int 7))))
    (Zq Zei
    (Zq (ZM 2 (mOp ZL (Zd 2) (mCB Zde (Zc (Zd 6) Zk))))
    Zeh))))
def Zlu:SM:=(Zq ZhP
  (ZK (Zd 2)))
def l_sent:GM:=ZP 5 7 Zlu
def Zgq:SM:=(mIf (ZG (mOp ltM (Zd 7) (mCB ZiV (Zc (mC (.int 64)) (Zc (mOp ZL (Zd 6) (Zd 1)) Zk))))) (ZK (mC (.bl false))) ZN)
def Zco:SM:=(mIf (ZeE (ZG (mOp eqM (mOp ZaZ (mCB Za9 (Zc (Zd 0) (Zc (mOp ZL (mC (.int 36)) (Zd 11)) Zk))) (mC (.int 3))) (mC (.int 0)))) (ZeE (ZG (mOp ltM (Zd 10) (mC (.int 30)))) (ZG (mOp ltM (mOp Ze9 (Zd 10) (Zd 12)) (mC (.int 12)))))) (ZM 13 (mOp ZL (mOp ZL (mOp Ze9 (Zd 10) (Zd 12)) (mC (.int 1))) (mOp ZaZ (mCB Za9 (Zc (Zd 0) (Zc (mOp ZL (mC (.int 44)) (Zd 11)) Zk))) (mC (.int 3))))) ZN)
def ZcV:SM:=(mIf (mOr (ZG (mOp gtM (Zd 14) (Zd 6))) (mOr (ZG (mOp gtM (Zd 12) (Zd 8))) (ZeE (ZG (mOp eqM (Zd 12) (Zd 8))) (ZG (mOp geM (Zd 14) (Zd 9)))))) (Zq (ZM 1 (Zd 15))
        (Zq (ZM 8 (Zd 12))
        (ZM 9 (Zd 14)))) ZN)
def Za7:SM:=(mIf (ZeE (zT (Zd 18)) (ZG (mOp geM (Zd 14) (Zd 6)))) (Zq ZcV
      (ZM 6 (mCB ZlQ (Zc (Zd 6) (Zc (Zd 14) Zk))))) ZN)
def ZiG:SM:=(Zd5 (ZcN (Zc (mC (.int 8)) Zk)) (gNm 11) (Zq (ZM 7 (mCB l_sent (Zc (Zd 2) (Zc (Zd 5) (Zc (Zd 7) (Zc (Zd 6) (Zc (Zd 1) Zk)))))))
    (Zq Zgq
    (Zq (ZM 12 (mOp ixM (Zcl (Zc (Zd 10) (Zc (mC (.int 0)) (Zc (Zd 8) (Zc (Zd 10) (Zc (mOp ZaZ (mCB Za9 (Zc (Zd 0) (Zc (mOp ZL (mC (.int 20)) (Zd 11)) Zk))) (mOp ZL (Zd 10) (mC (.int 1)))) Zk)))))) (mOp ZaZ (mCB Za9 (Zc (Zd 0) (Zc (mOp ZL (mC (.int 28)) (Zd 11)) Zk))) (mC (.int 5)))))
    (Zq (ZM 13 (mC (.int 0)))
    (Zq Zco
    (Zq (ZM 14 (mOp ixM (Zcl (Zc (Zd 6) (Zc (mOp ZaZ (mCB Za9 (Zc (Zd 0) (Zc (mOp ZL (mC (.int 12)) (Zd 11)) Zk))) (mOp ZL (Zd 7) (mC (.int 1)))) Zk))) (mOp ZaZ (mCB Za9 (Zc (Zd 0) (Zc (mOp ZL (mC (.int 11)) (Zd 11)) Zk))) (mC (.int 2)))))
    (Zq (ZM 15 (mOp ZaZ (mCB Za9 (Zc (Zd 0) (Zc (mOp ZL (mC (.int 52)) (Zd 11)) Zk))) (mC (.int 41))))
    (Zq (ZM 16 (Zbe (Zc (mCB ZbP (Zc (mOp ixM (Zd 2) (mC (.int 3))) (Zc (Zd 12) Zk))) (Zc (mCB ZbP (Zc (mOp ixM (Zd 2) (mC (.int 2))) (Zc (Zd 14) Zk))) Zk))))
    (Zq (ZM 17 (mCB ZcU (Zc (Zd 4) (Zc (mOp ixM (Zd 16) (mC (.int 0))) (Zc (mOp ixM (Zd 16) (mC (.int 1))) (Zc (mC (.int 16)) (Zc (Zd 15) (Zc (mOp Zcc (Zcl (Zc (mC (.int 5)) Zk)) (Zd 13)) Zk))))))))
    (Zq (zC (mCB zY (Zc (Zd 3) (Zc (mCB Zcq (Zc (Zd 17) Zk)) (Zc (mC (.int 10)) Zk)))))
    (Zq (ZM 18 (Zk0 (mOp geM (Zd 12) (Zd 10)) (Zc5 ltM ltM (Zd 12) (Zd 10) (mOp ZL (Zd 12) (Zd 13)))))
    (Zq (ZM 10 (mCB ZlQ (Zc (Zd 10) (Zc (mOp ZL (Zd 12) (Zd 13)) Zk))))
    Za7)))))))))))))
def ZmV:SM:=(Zq (ZM 1 (mOp ZaZ (mCB Za9 (Zc (Zd 0) (Zc (mC (.int 10)) Zk))) (mC (.int 21))))
  (Zq (ZM 2 (mCB ZdJ (Zc (Zd 0) (Zc (mC (.int 0)) (Zc (Zd 1) (Zc (mC (.int 16)) Zk))))))
  (Zq (ZM 3 (mOp ixM (Zd 2) (mC (.int 0))))
  (Zq (ZM 4 (mOp ixM (Zd 2) (mC (.int 1))))
  (Zq (ZM 5 (ZeD (ZcN (Zc (mC (.int 64)) Zk)) [0] (mOp ZaZ (mCB Za9 (Zc (Zd 1) (Zc (mOp ZL (mC (.int 11)) (Zd 0)) Zk))) (mC (.int 256)))))
  (Zq (zC (mCB ZdY (Zc (Zd 3) (Zc (Zd 5) Zk))))
  (Zq (ZM 6 (mC (.int 0)))
  (Zq (ZM 7 (mC (.int 0)))
  (Zq (ZM 8 (mC (.int 0)))
  (Zq (ZM 9 (mC (.int 0)))
  (Zq (ZM 10 (mC (.int 0)))
  (Zq ZiG
  (ZK (mC (.bl true)))))))))))))))
def ZmD:GM:=ZP 1 19 ZmV
theorem ZrE {n:Nat} {F:Nat→Int} (h:∀i,0≤F i∧F i≤255):∀z∈(List.range n).map F,0≤z∧z≤255:=by
  intro z hz
  obtain ⟨i,_,rfl⟩:=List.mem_map.mp hz
  exact h i
abbrev Zce (a b f g:Int):D:=.tup [.ref 0,.tup [.int a,.int b],.int (Zl f 1),.int (Zl g 1)]
section
variable {a b f g t:Int}
theorem ZlX {n:Nat} {q:Q} (h:room q≤0) (ho:q.oa=false):(Z7 a b f g t n q).1=[]:=by
  cases n with
  | zero=>rfl
  | succ n=>
    unfold Z7
    rw [if_neg (by omega),if_neg (by omega),if_neg (by rw [ho]; decide)]
theorem Zix {n:Nat} {q:Q} (h:q.beh<q.nxt) (ho:q.oa=false):(Z7 a b f g t n q).1=[]:=by
  cases n with
  | zero=>rfl
  | succ n=>
    unfold Z7
    rw [if_neg (by intro z; have:=z.2.2; omega),if_neg (by intro z; have:=z.2.2; omega),if_neg (by rw [ho]; decide)]
theorem Zqf {n:Nat} {q:Q} (h:q.nxt=q.beh) (ho:q.oa=false):(Z7 a b f g t n q).1.length≤1:=by
  cases n with
  | zero=>simp [Z7]
  | succ n=>
    unfold Z7
    rw [if_neg (by intro z; have:=z.2.2; omega)]
    by_cases h2:0<room q∧Za6 q
    · rw [if_pos h2]
      simp only [List.length_cons]
      rw [Zix (by show (sinceQ q t).beh<q.nxt+1; rw [(zk q t).2.2.1]; omega) rfl]
      simp
    · rw [if_neg h2,if_neg (by rw [ho]; decide)]
      simp
theorem Zle:∀(n:Nat) (q:Q),WF q→4*((Z7 a b f g t n q).1.length:Int)≤q.beh+1-q.nxt+8
  | 0,q,w=>by have:=w.nxt; simp [Z7]; omega
  | n+1,q,w=>by
    have hw:=w.nxt
    unfold Z7
    by_cases h1:0<room q∧Zad q
    · obtain ⟨c1,c2,c3,c4⟩:=ZcG w h1.2.2 h1.1
      have kd:=Zc6 q (room q) t
      rw [if_pos h1]
      simp only [List.length_cons]
      by_cases c:4≤z6 q (room q)
      · have ih:=Zle n (Zbk q (room q) t) (w.next h1.1 h1.2)
        rw [kd.beh] at ih
        have:(Zbk q (room q) t).nxt=q.nxt+z6 q (room q):=rfl
        rw [this] at ih
        omega
      · have cs:z6 q (room q)=q.beh-q.nxt∨z6 q (room q)=room q:=by
          have hm:=w.most
          unfold z6 mn3 ZiU at c ⊢
          split at c<;>split at c<;>split at c<;>simp_all<;>omega
        rcases cs with e | e
        · have:=Zqf (a:=a) (b:=b) (f:=f) (g:=g) (t:=t) (n:=n) (q:=Zbk q (room q) t) (by rw [kd.beh]; show q.nxt+z6 q (room q)=q.beh; omega) rfl
          omega
        · have:=ZlX (a:=a) (b:=b) (f:=f) (g:=g) (t:=t) (n:=n) (q:=Zbk q (room q) t) (by
            show (Zbk q (room q) t).wnd-((Zbk q (room q) t).nxt-(Zbk q (room q) t).una)≤0
            rw [kd.wnd,kd.una]
            show q.wnd-(q.nxt+z6 q (room q)-q.una)≤0
            rw [e]; unfold room; omega) rfl
          rw [this]
          simp
          omega
    · rw [if_neg h1]
      by_cases h2:0<room q∧Za6 q
      · have h3:=h2.2.2
        rw [if_pos h2]
        simp only [List.length_cons]
        rw [Zix (by show (sinceQ q t).beh<q.nxt+1; rw [(zk q t).2.2.1]; omega) rfl]
        simp
        omega
      · rw [if_neg h2]
        split
        · simp; omega
        · simp; omega
theorem Zld:∀(n:Nat) (q:Q),WF q→q.st=.opn→q.nxt≤q.beh→(Z7 a b f g t n q).2.nxt≤q.beh
  | 0,q,w,hs,hn=>hn
  | n+1,q,w,hs,hn=>by
    unfold Z7
    by_cases h1:0<room q∧Zad q
    · obtain ⟨c1,c2,c3,c4⟩:=ZcG w h1.2.2 h1.1
      have k:=Zc6 q (room q) t
      rw [if_pos h1]
      have:=Zld n (Zbk q (room q) t) (w.next h1.1 h1.2) (k.st.trans hs) (by rw [k.beh]; show q.nxt+z6 q (room q)≤q.beh; omega)
      rw [k.beh] at this
      exact this
    · rw [if_neg h1,if_neg (by intro z; have:=z.2.1; rw [hs] at this; simp at this)]
      split<;>exact hn
end
inductive Run (f u W:Int) (data:List Int):Int→List Seg→Int→Prop
  | nil {s:Int}:Run f u W data s [] s
  | cons {s s':Int} {x:Seg} {r:List Seg} (h1:x.data=[]∨(x.num=Zl f (1+s)∧s+x.data.length-u≤W)) (h2:x.data=(data.drop s.toNat).take x.data.length) (h3:0≤s) (h4:x.data.length≤16) (hr:Run f u W data (s+x.data.length) r s'):Run f u W data s (x::r) s'
section
variable {a b f g t:Int}
theorem Zgk:∀(n:Nat) (q:Q),(0≤q.since∧q.since≤10)∧q.wait=1000→(0≤(Z7 a b f g 10 n q).2.since∧(Z7 a b f g 10 n q).2.since≤10)∧(Z7 a b f g 10 n q).2.wait=1000
  | 0,q,h=>h
  | n+1,q,h=>by
    have hs:(0≤(sinceQ q 10).since∧(sinceQ q 10).since≤10)∧(sinceQ q 10).wait=1000:=by
      unfold sinceQ
      split
      · exact ⟨by simp,rfl⟩
      · exact h
    unfold Z7
    split
    · exact Zgk n _ hs
    · split
      · exact Zgk n _ hs
      · split<;>exact h
theorem ZfQ:∀(n:Nat) (q:Q),q.pr=false→(Z7 a b f g t n q).2.pr=false
  | 0,q,h=>h
  | n+1,q,h=>by
    unfold Z7
    split
    · exact ZfQ n _ rfl
    · split
      · exact ZfQ n _ rfl
      · split<;>exact h
theorem ZrO {n:Nat} {q:Q} (h:q.pr=false∨(0<room q∧Zad q)):(Z7 a b f g t (n+1) q).2.pr=false:=by
  rcases h with h | h
  · exact ZfQ _ _ h
  · unfold Z7
    rw [if_pos h]
    exact ZfQ n _ rfl
theorem Zi4:∀(n:Nat) (q:Q),WF q→(q.beh+1-q.nxt<n)→(Z7 a b f g t n q).2.oa=false
  | 0,q,w,hn=>by have:=w.nxt; omega
  | n+1,q,w,hn=>by
    unfold Z7
    by_cases h1:0<room q∧Zad q
    · obtain ⟨c1,c2,c3,c4⟩:=ZcG w h1.2.2 h1.1
      rw [if_pos h1]
      refine Zi4 n _ (w.next h1.1 h1.2) ?_
      show (sinceQ q t).beh+1-(q.nxt+z6 q (room q))<n
      rw [(zk q t).2.2.1]; omega
    · rw [if_neg h1]
      by_cases h2:0<room q∧Za6 q
      · rw [if_pos h2]
        refine Zi4 n _ (w.nextF h2.2) ?_
        show (sinceQ q t).beh+1-(q.nxt+1)<n
        rw [(zk q t).2.2.1]; omega
      · rw [if_neg h2]
        split
        · rfl
        · rename_i h; simpa using h
theorem Zlc {u W:Int} {data:List Int}:∀(n:Nat) (q:Q) (s:Int),WF q→q.st=.opn→q.una=1+u→q.nxt=1+s→q.beh=1+data.length→q.written=data.drop u.toNat→q.wnd=W→0≤u→u≤s→Run f u W data s (Z7 a b f g t n q).1 ((Z7 a b f g t n q).2.nxt-1)
  | 0,q,s,w,hs,hu,hn,hb,hw,hW,h0,h1=>by
    have:(Z7 a b f g t 0 q).2.nxt-1=s:=by show q.nxt-1=s; omega
    rw [this]
    exact .nil
  | n+1,q,s,w,hs,hu,hn,hb,hw,hW,h0,h1=>by
    unfold Z7
    by_cases c:0<room q∧Zad q
    · obtain ⟨c1,c2,c3,c4⟩:=ZcG w c.2.2 c.1
      have k:=Zc6 q (room q) t
      have dl:=Zlk (a:=a) (b:=b) (f:=f) (g:=g) w c.1 c.2
      have ro:room q=W-(s-u):=by unfold room; rw [hW,hn,hu]; omega
      rw [if_pos c]
      have ih:=Zlc (u:=u) (W:=W) (data:=data) n (Zbk q (room q) t) (s+(Zc8 a b f g q (room q)).data.length) (w.next c.1 c.2) (k.st.trans hs) (k.una.trans hu) (by rw [dl]; show q.nxt+z6 q (room q)=_; omega) (k.beh.trans hb) (k.written.trans hw) (k.wnd.trans hW) h0 (by omega)
      refine .cons (.inr ⟨?_,by omega⟩) ?_ (by omega) (by omega) ih
      · show Zl f q.nxt=_; rw [hn]
      · have e:(Zc8 a b f g q (room q)).data.length=(z6 q (room q)).toNat:=by omega
        rw [e]
        show (q.written.drop (q.nxt-q.una).toNat).take (z6 q (room q)).toNat=_
        rw [hw,hn,hu,List.drop_drop]
        congr 2
        omega
    · rw [if_neg c,if_neg (by intro z; have:=z.2.1; rw [hs] at this; simp at this)]
      split
      · have:({ q with oa:=false }:Q).nxt-1=s+((ZhV a b f g q).data.length:Int):=by show q.nxt-1=s+((0:Nat):Int); omega
        simp only
        rw [show q.nxt-1=s+((ZhV a b f g q).data.length:Int) from this]
        exact .cons (.inl rfl) (by show []=List.take 0 _; rfl) (by omega) (by show 0≤16; omega) .nil
      · have:q.nxt-1=s:=by omega
        simp only
        rw [this]
        exact .nil
end
structure R19 (data:List Int) (q:Q) (u sent W told by' came:Int):Prop where
  wf:WF q
  st:q.st=.opn
  una:q.una=1+u
  nxt:q.nxt=1+sent
  beh:q.beh=65
  wr:q.written=data.drop u.toNat
  wnd:q.wnd=W
  most:q.most=16
  come:(q.come.length:Int)=came
  rcv:q.rcv=1+came
  toldE:q.told=1+told
  byE:q.by_=1+by'
  fin:q.fin=none
  since:(0≤q.since∧q.since≤10)∧q.wait=1000
  pr:q.pr=true→u=sent∧sent<64
  uQ:0≤u∧u≤sent∧sent≤64
  WQ:0≤W∧W≤40
  toldQ:0≤told∧told≤came
  byQ:0≤by'∧by'≤u
  cmQ:0≤came∧came≤32
  len:data.length=64
section
variable {a b f g u sent W told by' came:Int} {data:List Int} {q:Q} {ns:List Int} {B:Sto}
theorem R19.calm (r:R19 data q u sent W told by' came):CalmQ q 10:=⟨by rw [r.st]; decide,fun z=>(by rw [r.st] at z; cases z),fun _=>(by have:=r.since; rw [this.2]; omega)⟩
theorem R19.moreF (r:R19 data q u sent W told by' came):¬Za6 q:=fun h=>by have:=h.1; rw [r.st] at this; simp at this
theorem R19.moreD (r:R19 data q u sent W told by' came):Zad q↔sent<64:=⟨fun h=>by have:=h.2; rw [r.nxt,r.beh] at this; omega,fun h=>⟨by rw [r.st]; simp,by rw [r.nxt,r.beh]; omega⟩⟩
theorem R19.room (r:R19 data q u sent W told by' came):room q=W-(sent-u):=by unfold My.room; rw [r.wnd,r.nxt,r.una]; omega
theorem R19.given (r:R19 data q u sent W told by' came) (ha:0≤a∧a≤65535) (hb:0≤b∧b≤65535):∃segs q' sent',Gives 10 (qE a b f g q) segs (qE a b f g q')∧segs.length<40∧Run f u W data sent segs sent'∧R19 data q' u sent' W told by' came∧q'.oa=false∧¬sent'<(if u+W<64 then u+W else 64):=by
  have w:=r.wf
  have hu:=r.uQ
  have hW:=r.WQ
  have hl:=r.len
  have ro:=r.room
  by_cases cA:W=0∧u=sent∧sent<64
  · obtain ⟨c1,c2,c3⟩:=cA
    have nu:q.nxt=q.una:=by rw [r.nxt,r.una]; omega
    have hm:Zad q∨Za6 q:=.inl (r.moreD.mpr c3)
    have w0:q.wnd=0:=by rw [r.wnd]; exact c1
    have g1:=ZgC (a:=a) (b:=b) (f:=f) (g:=g) (t:=10) r.calm w nu w0 hm (.inr (by have:=r.since; rw [this.2]; omega))
    have pk:Kept q (probing q 10)∧(probing q 10).nxt=q.nxt∧(probing q 10).oa=q.oa∧(probing q 10).pr=true∧((0≤(probing q 10).since∧(probing q 10).since≤10)∧(probing q 10).wait=1000):=by
      unfold probing
      split
      · rename_i h
        exact ⟨Kept.refl q,rfl,rfl,h,r.since⟩
      · exact ⟨⟨rfl,rfl,rfl,rfl,rfl,rfl,rfl,rfl,rfl,rfl,rfl,rfl⟩,rfl,rfl,rfl,by simp,rfl⟩
    obtain ⟨k,k1,k2,k3,k4⟩:=pk
    obtain ⟨p,hp⟩:∃p,p=probing q 10:=⟨_,rfl⟩
    rw [←hp] at g1 k k1 k2 k3 k4
    have wp:WF { p with oa:=false }:=⟨by show 0≤p.una∧p.una≤p.nxt; rw [k.una,k1]; exact w.una,by show p.nxt≤p.beh+1∧p.beh<1000000; rw [k1,k.beh]; exact w.nxt,by show p.una≤p.beh→(p.written.length:Int)=p.beh-p.una; rw [k.una,k.beh,k.written]; exact w.wr,by show 0≤p.wnd∧p.wnd≤65535; rw [k.wnd]; exact w.wnd,by show 4≤p.most; rw [k.most]; exact w.most,by show p.come.length≤64; rw [k.come]; exact w.come,by show ∀z∈p.written,_; rw [k.written]; exact w.byt⟩
    have R':R19 data { p with oa:=false } u sent W told by' came:=⟨wp,k.st.trans r.st,k.una.trans r.una,k1.trans r.nxt,k.beh.trans r.beh,k.written.trans r.wr,k.wnd.trans r.wnd,k.most.trans r.most,by show (p.come.length:Int)=came; rw [k.come]; exact r.come,k.rcv.trans r.rcv,k.told.trans r.toldE,k.by_.trans r.byE,k.fin.trans r.fin,k4,fun _=>⟨c2,c3⟩,r.uQ,r.WQ,r.toldQ,r.byQ,r.cmQ,r.len⟩
    have g2:=ZgC (a:=a) (b:=b) (f:=f) (g:=g) (t:=10) R'.calm wp (by show p.nxt=p.una; rw [k1,k.una]; exact nu) (by show p.wnd=0; rw [k.wnd]; exact w0) (.inl (R'.moreD.mpr c3)) (.inr (by have:=k4; show (10:Int)-p.since<p.wait; rw [this.2]; omega))
    rw [if_neg (by simp),show probing { p with oa:=false } 10={ p with oa:=false } by unfold probing; rw [if_pos k3]] at g2
    have fin:¬sent<(if u+W<64 then u+W else 64):=by split<;>omega
    by_cases c:q.oa=true
    · rw [if_pos c] at g1
      refine ⟨[ZhV a b f g p],_,sent,.cons g1 ?_ (.nil g2),by simp,?_,R',rfl,fin⟩
      · have wp':WF p:=⟨wp.una,wp.nxt,wp.wr,wp.wnd,wp.most,wp.come,wp.byt⟩
        exact ZmX wp' ha hb
      · have e:Run f u W data (sent+((ZhV a b f g p).data.length:Int)) [] sent:=by
          have:sent+((ZhV a b f g p).data.length:Int)=sent:=by show sent+((0:Nat):Int)=sent; omega
          rw [this]
          exact .nil
        exact .cons (.inl rfl) (by show []=List.take 0 _; rfl) (by omega) (by show 0≤16; omega) e
    · rw [if_neg c] at g1
      have c':q.oa=false:=by simpa using c
      have e:({ p with oa:=false }:Q)=p:=by
        rw [c'] at k2
        obtain ⟨⟩:=p
        simp only at k2
        subst k2
        rfl
      rw [e] at R'
      exact ⟨[],p,sent,.nil g1,by simp,.nil,R',by rw [k2,c'],fin⟩
  · have prd:q.pr=false∨(0<My.room q∧Zad q):=by
      cases h:q.pr
      · exact .inl rfl
      · right
        have:=r.pr h
        refine ⟨by rw [ro]; omega,r.moreD.mpr this.2⟩
    have fuel:q.beh+1-q.nxt<(80:Nat):=by rw [r.beh,r.nxt]; omega
    have h0:¬q.nxt=q.una∨0<q.wnd∨¬(Zad q∨Za6 q):=by
      by_cases h1:u=sent
      · by_cases h2:sent<64
        · right; left
          rw [r.wnd]; omega
        · right; right
          rintro (z | z)
          · exact h2 (r.moreD.mp z)
          · exact r.moreF z
      · left; rw [r.nxt,r.una]; omega
    have gv:Gives 10 (qE a b f g q) (Z7 a b f g 10 80 q).1 (qE a b f g (Z7 a b f g 10 80 q).2):=by
      by_cases c:0<My.room q∧Zad q
      · obtain ⟨c1,c2,c3,c4⟩:=ZcG w c.2.2 c.1
        have g1:=ZmH (a:=a) (b:=b) (f:=f) (g:=g) r.calm w c.1 c.2
        have k:=Zc6 q (My.room q) 10
        have hun:=w.una
        have gr:=ZgZ (t:=10) (a:=a) (b:=b) (f:=f) (g:=g) ha hb 79 (Zbk q (My.room q) 10) (w.next c.1 c.2) r.calm.next rfl (by rw [k.beh]; show q.beh+1-(q.nxt+z6 q (My.room q))<(79:Nat); omega) (.inl (by rw [k.una]; show ¬q.nxt+z6 q (My.room q)=q.una; omega))
        have e:Z7 a b f g 10 80 q=(Zc8 a b f g q (My.room q)::(Z7 a b f g 10 79 (Zbk q (My.room q) 10)).1,(Z7 a b f g 10 79 (Zbk q (My.room q) 10)).2):=by
          rw [Z7,if_pos c]
        rw [e]
        exact .cons g1 (ZmK w c.1 c.2 ha hb) gr
      · exact ZgZ (t:=10) (a:=a) (b:=b) (f:=f) (g:=g) ha hb 80 q w r.calm (prd.resolve_right c) fuel h0
    obtain ⟨kp,adv,wf',_⟩:=Zhx (a:=a) (b:=b) (f:=f) (g:=g) (t:=10) 80 q w
    have dn:=Zgl (a:=a) (b:=b) (f:=f) (g:=g) (t:=10) 80 q w fuel
    have ln:=Zle (a:=a) (b:=b) (f:=f) (g:=g) (t:=10) 80 q w
    have op:=Zld (a:=a) (b:=b) (f:=f) (g:=g) (t:=10) 80 q w r.st (by rw [r.nxt,r.beh]; omega)
    have tm:=Zgk (a:=a) (b:=b) (f:=f) (g:=g) 80 q r.since
    have pr0:=ZrO (a:=a) (b:=b) (f:=f) (g:=g) (t:=10) (n:=79) prd
    have oa0:=Zi4 (a:=a) (b:=b) (f:=f) (g:=g) (t:=10) 80 q w fuel
    have rn:=Zlc (a:=a) (b:=b) (f:=f) (g:=g) (t:=10) (u:=u) (W:=W) (data:=data) 80 q sent w r.st r.una r.nxt (by rw [r.beh,hl]; rfl) r.wr r.wnd hu.1 hu.2.1
    obtain ⟨q',hq'⟩:∃x,x=(Z7 a b f g 10 80 q).2:=⟨_,rfl⟩
    rw [←hq'] at gv kp adv wf' dn op tm pr0 oa0 rn
    rw [r.beh] at ln op
    rw [r.nxt] at ln
    have hx:=wf'.una
    rw [kp.una,r.una] at hx
    refine ⟨_,q',q'.nxt-1,gv,by omega,rn,⟨wf',kp.st.trans r.st,kp.una.trans r.una,by omega,kp.beh.trans r.beh,kp.written.trans r.wr,kp.wnd.trans r.wnd,kp.most.trans r.most,by rw [kp.come]; exact r.come,kp.rcv.trans r.rcv,kp.told.trans r.toldE,kp.by_.trans r.byE,kp.fin.trans r.fin,tm,fun z=>(by rw [pr0] at z; cases z),⟨hu.1,by omega,by omega⟩,r.WQ,r.toldQ,r.byQ,r.cmQ,r.len⟩,oa0,?_⟩
    intro z
    apply dn
    refine ⟨?_,.inl ⟨by rw [kp.st,r.st]; simp,?_⟩⟩
    · show 0<q'.wnd-(q'.nxt-q'.una)
      rw [kp.wnd,r.wnd,kp.una,r.una]
      split at z<;>omega
    · rw [kp.beh,r.beh]
      split at z<;>omega
end
section
variable {a b f g u sent W told by' came:Int} {data:List Int} {q:Q} {ns:List Int} {B:Sto}
def Zbu (u told by' num ans:Int):Prop:=u<ans∨told<num∨(num=told∧by'≤ans)
instance (u told by' num ans:Int):Decidable (Zbu u told by' num ans):=by unfold Zbu; infer_instance
theorem R19.goes (r:R19 data q u sent W told by' came) {num ans new:Int} {x:List Int} (hnum:0≤num∧num≤came) (hans:0≤ans∧ans≤sent) (hnew:0≤new∧new≤40) :
    ∃q1,goesOn (qE a b f g q) ⟨b,a,Zl g (1+num),Zl f (1+ans),16,new,0,x⟩ 10=(true,qE a b f g q1)∧q1.oa=q.oa∧
      (if u≤ans then (if Zbu u told by' num ans then R19 data q1 (if u<ans then ans else u) sent new num ans came else R19 data q1 u sent W told by' came) else R19 data q1 u sent W told by' came):=by
  have w:=r.wf
  have hun:=w.una
  have hbn:=w.nxt
  have hu:=r.uQ
  have hc:=r.cmQ
  have ht:=r.toldQ
  have hby:=r.byQ
  have hl:=r.len
  have hW:=r.WQ
  have sh:(qE a b f g q).state=.opn:=r.st
  have ns:¬(qE a b f g q).state=.synCome:=by rw [sh]; decide
  have p1:zG (Zl f (1+ans)) (Zl f q.nxt)=false:=by rw [r.nxt,Zhg (by omega) (by omega)]; simp; omega
  have ed:∀p:Q,WF p→p.nxt=q.nxt→p.beh=q.beh→ZaN (qE a b f g p) 10=qE a b f g p:=fun p wp h1 h2=>ZrV wp (by rw [h1,h2,r.nxt,r.beh]; omega)
  have out:∀p:Q,WF p→p.nxt=q.nxt→p.beh=q.beh→p.st=.opn→Z5 (qE a b f g q) ⟨b,a,Zl g (1+num),Zl f (1+ans),16,new,0,x⟩ 10=qE a b f g p→goesOn (qE a b f g q) ⟨b,a,Zl g (1+num),Zl f (1+ans),16,new,0,x⟩ 10=(true,qE a b f g p):=by
    intro p wp h1 h2 h3 ha
    unfold goesOn
    rw [if_neg ns,if_neg (by show ¬zG (Zl f (1+ans)) (Zl f q.nxt)=true; rw [p1]; decide),ha,ed p wp h1 h2]
    have:(qE a b f g p).state=.opn:=h3
    rw [this]
    rfl
  by_cases c1:u<ans
  ·
    obtain ⟨q1,hq1⟩:∃x:Q,x={ q with una:=1+ans,written:=q.written.drop (1+ans-q.una).toNat,by_:=1+ans,told:=1+num,wnd:=new,since:=if 1+ans=q.nxt then q.since else 10,wait:=if 1+ans=q.nxt then q.wait else 1000,tries:=if q.wnd=0∨new=0 then 0 else (if 1+ans=q.nxt then q.tries else 0) }:=⟨_,rfl⟩
    have dd:q.written.drop (1+ans-q.una).toNat=data.drop ans.toNat:=by
      rw [r.wr,r.una,List.drop_drop]
      congr 1
      omega
    have w1:WF q1:=by
      rw [hq1]
      refine ⟨?_,w.nxt,?_,?_,w.most,w.come,?_⟩
      · show 0≤1+ans∧1+ans≤q.nxt; rw [r.nxt]; omega
      · intro _
        show ((q.written.drop (1+ans-q.una).toNat).length:Int)=q.beh-(1+ans)
        rw [dd,List.length_drop,r.beh]
        omega
      · show 0≤new∧new≤65535; omega
      · intro z hz
        exact w.byt z (List.mem_of_mem_drop hz)
    have ha:Z5 (qE a b f g q) ⟨b,a,Zl g (1+num),Zl f (1+ans),16,new,0,x⟩ 10=qE a b f g q1:=by
      have pu:zG (Zl f (1+ans)) (Zl f q.una)=true:=by rw [r.una,Zhg (by omega) (by omega)]; simp; omega
      have ou:ZU (Zl f (1+ans)) (Zl f q.una)=1+ans-q.una:=Zbt (by rw [r.una]; omega)
      have ae:Zl f (1+ans)=Zl f q.nxt↔1+ans=q.nxt:=ZdE (by rw [r.nxt]; omega)
      have ho:Zba (qE a b f g q) ⟨b,a,Zl g (1+num),Zl f (1+ans),16,new,0,x⟩ 10=qE a b f g { q with una:=1+ans,written:=q.written.drop (1+ans-q.una).toNat,since:=if 1+ans=q.nxt then q.since else 10,wait:=if 1+ans=q.nxt then q.wait else 1000,tries:=if 1+ans=q.nxt then q.tries else 0 }:=by
        unfold Zba
        rw [if_pos (by show zG (Zl f (1+ans)) (Zl f q.una)=true; exact pu)]
        show (if Zl f (1+ans)=Zl f q.nxt then ({ qE a b f g q with written:=q.written.drop (ZU (Zl f (1+ans)) (Zl f q.una)).toNat,una:=Zl f (1+ans) }:Zt) else Z0 { qE a b f g q with written:=q.written.drop (ZU (Zl f (1+ans)) (Zl f q.una)).toNat,una:=Zl f (1+ans) } 10)=_
        rw [ou]
        by_cases c:1+ans=q.nxt
        · rw [if_pos (ae.mpr c),if_pos c,if_pos c,if_pos c]; rfl
        · rw [if_neg fun z=>c (ae.mp z),if_neg c,if_neg c,if_neg c]; rfl
      unfold Z5
      simp only [ho]
      rw [if_neg (by show ¬zG (Zl f (1+ans)) (Zl f (1+ans))=true; rw [ZdG]; decide)]
      have pu':zG (Seg.mk b a (Zl g (1+num)) (Zl f (1+ans)) 16 new 0 x).ans (qE a b f g q).una=true:=pu
      rw [pu']
      simp only [Bool.true_or,if_true]
      by_cases c:q.wnd=0∨new=0
      · rw [if_pos (by show q.wnd=0∨new=0; exact c),hq1,if_pos c]; rfl
      · rw [if_neg (by show ¬(q.wnd=0∨new=0); exact c),hq1,if_neg c]; rfl
    refine ⟨q1,out q1 w1 (by rw [hq1]) (by rw [hq1]) (by rw [hq1]; exact r.st) ha,by rw [hq1],?_⟩
    rw [if_pos (by omega),if_pos (show Zbu u told by' num ans from .inl c1),if_pos c1]
    have hsin:=r.since
    refine ⟨w1,by rw [hq1]; exact r.st,by rw [hq1],by rw [hq1]; exact r.nxt,by rw [hq1]; exact r.beh,by rw [hq1]; exact dd,by rw [hq1],by rw [hq1]; exact r.most,by rw [hq1]; exact r.come,by rw [hq1]; exact r.rcv,by rw [hq1],by rw [hq1],by rw [hq1]; exact r.fin,?_,?_,by omega,by omega,by omega,by omega,r.cmQ,r.len⟩
    · rw [hq1]
      show (0≤(if 1+ans=q.nxt then q.since else 10)∧(if 1+ans=q.nxt then q.since else 10)≤10)∧(if 1+ans=q.nxt then q.wait else 1000)=1000
      split
      · exact hsin
      · exact ⟨by omega,rfl⟩
    · intro z
      rw [hq1] at z
      have:=r.pr z
      omega
  · by_cases c2:ans=u
    · have e2:Zl f (1+ans)=Zl f q.una:=by rw [r.una,c2]
      have ho:Zba (qE a b f g q) ⟨b,a,Zl g (1+num),Zl f (1+ans),16,new,0,x⟩ 10=qE a b f g q:=by
        unfold Zba
        rw [if_neg (by show ¬zG (Zl f (1+ans)) (Zl f q.una)=true; rw [e2,ZdG]; decide)]
      have pu:zG (Seg.mk b a (Zl g (1+num)) (Zl f (1+ans)) 16 new 0 x).ans (qE a b f g q).una=false:=by
        show zG (Zl f (1+ans)) (Zl f q.una)=false
        rw [e2,ZdG]
      have nw:isNewer (qE a b f g q) ⟨b,a,Zl g (1+num),Zl f (1+ans),16,new,0,x⟩=decide (Zbu u told by' num ans):=by
        unfold isNewer
        show (if Zl g (1+num)=Zl g q.told then !zG (Zl f q.by_) (Zl f (1+ans)) else zG (Zl g (1+num)) (Zl g q.told))=_
        rw [r.toldE,r.byE,Zhg (by omega) (by omega),Zhg (by omega) (by omega)]
        by_cases c:num=told
        · rw [if_pos (by rw [c]),Bool.eq_iff_iff]
          simp only [Bool.not_eq_true',decide_eq_false_iff_not,decide_eq_true_eq]
          unfold Zbu
          omega
        · rw [if_neg (by rw [ZdE (by omega)]; omega),Bool.eq_iff_iff,decide_eq_true_iff,decide_eq_true_iff]
          unfold Zbu
          omega
      by_cases c3:Zbu u told by' num ans
      · obtain ⟨q1,hq1⟩:∃x:Q,x={ q with by_:=1+ans,told:=1+num,wnd:=new,tries:=if q.wnd=0∨new=0 then 0 else q.tries }:=⟨_,rfl⟩
        have w1:WF q1:=by
          rw [hq1]
          exact ⟨w.una,w.nxt,w.wr,by show 0≤new∧new≤65535; omega,w.most,w.come,w.byt⟩
        have ha:Z5 (qE a b f g q) ⟨b,a,Zl g (1+num),Zl f (1+ans),16,new,0,x⟩ 10=qE a b f g q1:=by
          unfold Z5
          simp only [ho]
          rw [if_neg (by show ¬zG (Zl f q.una) (Zl f (1+ans))=true; rw [e2,ZdG]; decide),pu,nw,decide_eq_true c3]
          simp only [Bool.false_or,if_true]
          by_cases c:q.wnd=0∨new=0
          · rw [if_pos (by show q.wnd=0∨new=0; exact c),hq1,if_pos c]; rfl
          · rw [if_neg (by show ¬(q.wnd=0∨new=0); exact c),hq1,if_neg c]; rfl
        refine ⟨q1,out q1 w1 (by rw [hq1]) (by rw [hq1]) (by rw [hq1]; exact r.st) ha,by rw [hq1],?_⟩
        rw [if_pos (by omega),if_pos c3,if_neg c1]
        exact ⟨w1,by rw [hq1]; exact r.st,by rw [hq1]; exact r.una,by rw [hq1]; exact r.nxt,by rw [hq1]; exact r.beh,by rw [hq1]; exact r.wr,by rw [hq1],by rw [hq1]; exact r.most,by rw [hq1]; exact r.come,by rw [hq1]; exact r.rcv,by rw [hq1],by rw [hq1],by rw [hq1]; exact r.fin,by rw [hq1]; exact r.since,by rw [hq1]; exact r.pr,r.uQ,by omega,by omega,by omega,r.cmQ,r.len⟩
      · obtain ⟨q1,hq1⟩:∃x:Q,x={ q with tries:=if q.wnd=0 then 0 else q.tries }:=⟨_,rfl⟩
        have w1:WF q1:=by
          rw [hq1]
          exact ⟨w.una,w.nxt,w.wr,w.wnd,w.most,w.come,w.byt⟩
        have ha:Z5 (qE a b f g q) ⟨b,a,Zl g (1+num),Zl f (1+ans),16,new,0,x⟩ 10=qE a b f g q1:=by
          unfold Z5
          simp only [ho]
          rw [if_neg (by show ¬zG (Zl f q.una) (Zl f (1+ans))=true; rw [e2,ZdG]; decide),pu,nw,decide_eq_false c3]
          simp only [Bool.false_or,Bool.false_eq_true,if_false,or_self]
          by_cases c:q.wnd=0
          · rw [if_pos (by show q.wnd=0; exact c),hq1,if_pos c]; rfl
          · rw [if_neg (by show ¬q.wnd=0; exact c),hq1,if_neg c]
        refine ⟨q1,out q1 w1 (by rw [hq1]) (by rw [hq1]) (by rw [hq1]; exact r.st) ha,by rw [hq1],?_⟩
        rw [if_pos (by omega),if_neg c3]
        exact ⟨w1,by rw [hq1]; exact r.st,by rw [hq1]; exact r.una,by rw [hq1]; exact r.nxt,by rw [hq1]; exact r.beh,by rw [hq1]; exact r.wr,by rw [hq1]; exact r.wnd,by rw [hq1]; exact r.most,by rw [hq1]; exact r.come,by rw [hq1]; exact r.rcv,by rw [hq1]; exact r.toldE,by rw [hq1]; exact r.byE,by rw [hq1]; exact r.fin,by rw [hq1]; exact r.since,by rw [hq1]; exact r.pr,r.uQ,r.WQ,r.toldQ,r.byQ,r.cmQ,r.len⟩
    · have p2:zG (Zl f (1+ans)) (Zl f q.una)=false:=by rw [r.una,Zhg (by omega) (by omega)]; simp; omega
      have p3:zG (Zl f q.una) (Zl f (1+ans))=true:=by rw [r.una,Zhg (by omega) (by omega)]; simp; omega
      have ho:Zba (qE a b f g q) ⟨b,a,Zl g (1+num),Zl f (1+ans),16,new,0,x⟩ 10=qE a b f g q:=by
        unfold Zba
        rw [if_neg (by show ¬zG (Zl f (1+ans)) (Zl f q.una)=true; rw [p2]; decide)]
      have ha:Z5 (qE a b f g q) ⟨b,a,Zl g (1+num),Zl f (1+ans),16,new,0,x⟩ 10=qE a b f g q:=by
        unfold Z5
        simp only [ho]
        rw [if_pos (by show zG (Zl f q.una) (Zl f (1+ans))=true; exact p3)]
      refine ⟨q,out q w rfl rfl r.st ha,rfl,?_⟩
      rw [if_neg (by omega)]
      exact r
end
abbrev Zsn:SM:=(Zq (ZM 6 (mOp ixM (Zd 5) (mC (.int 7))))
    (Zq Zei
    (Zq (ZM 2 (mOp ZL (Zd 2) (mCB Zde (Zc (Zd 6) Zk))))
    Zeh)))
abbrev lawB19:SM:=(Zq (ZM 7 (mCB l_sent (Zc (Zd 2) (Zc (Zd 5) (Zc (Zd 7) (Zc (Zd 6) (Zc (Zd 1) Zk)))))))
    (Zq Zgq
    (Zq (ZM 12 (mOp ixM (Zcl (Zc (Zd 10) (Zc (mC (.int 0)) (Zc (Zd 8) (Zc (Zd 10) (Zc (mOp ZaZ (mCB Za9 (Zc (Zd 0) (Zc (mOp ZL (mC (.int 20)) (Zd 11)) Zk))) (mOp ZL (Zd 10) (mC (.int 1)))) Zk)))))) (mOp ZaZ (mCB Za9 (Zc (Zd 0) (Zc (mOp ZL (mC (.int 28)) (Zd 11)) Zk))) (mC (.int 5)))))
    (Zq (ZM 13 (mC (.int 0)))
    (Zq Zco
    (Zq (ZM 14 (mOp ixM (Zcl (Zc (Zd 6) (Zc (mOp ZaZ (mCB Za9 (Zc (Zd 0) (Zc (mOp ZL (mC (.int 12)) (Zd 11)) Zk))) (mOp ZL (Zd 7) (mC (.int 1)))) Zk))) (mOp ZaZ (mCB Za9 (Zc (Zd 0) (Zc (mOp ZL (mC (.int 11)) (Zd 11)) Zk))) (mC (.int 2)))))
    (Zq (ZM 15 (mOp ZaZ (mCB Za9 (Zc (Zd 0) (Zc (mOp ZL (mC (.int 52)) (Zd 11)) Zk))) (mC (.int 41))))
    (Zq (ZM 16 (Zbe (Zc (mCB ZbP (Zc (mOp ixM (Zd 2) (mC (.int 3))) (Zc (Zd 12) Zk))) (Zc (mCB ZbP (Zc (mOp ixM (Zd 2) (mC (.int 2))) (Zc (Zd 14) Zk))) Zk))))
    (Zq (ZM 17 (mCB ZcU (Zc (Zd 4) (Zc (mOp ixM (Zd 16) (mC (.int 0))) (Zc (mOp ixM (Zd 16) (mC (.int 1))) (Zc (mC (.int 16)) (Zc (Zd 15) (Zc (mOp Zcc (Zcl (Zc (mC (.int 5)) Zk)) (Zd 13)) Zk))))))))
    (Zq (zC (mCB zY (Zc (Zd 3) (Zc (mCB Zcq (Zc (Zd 17) Zk)) (Zc (mC (.int 10)) Zk)))))
    (Zq (ZM 18 (Zk0 (mOp geM (Zd 12) (Zd 10)) (Zc5 ltM ltM (Zd 12) (Zd 10) (mOp ZL (Zd 12) (Zd 13)))))
    (Zq (ZM 10 (mCB ZlQ (Zc (Zd 10) (Zc (mOp ZL (Zd 12) (Zd 13)) Zk))))
    Za7))))))))))))
section
variable {a b f g u sent W told by' came:Int} {data:List Int} {q:Q} {ns:List Int} {B:Sto}
theorem ZpQ (xs:List Int) (θ:Sto):neM (itp xs) (itp xs) θ=.ok (.bl false) θ:=by
  have p:pl 9 (look θ (itp xs))=true:=by
    show pl 9 (.tup (xs.map D.int))=true
    simp only [pl]
    exact Zrp 8 xs
  have n:noB (look θ (itp xs))=true:=by
    show noB (.tup (xs.map D.int))=true
    simp only [noB]
    exact ZpP xs
  rw [Zhn (Zd8 p p n n)]
  simp
theorem Zm8 {s:Int} {x:Seg} {x6:Sl} {θ:Sto} (h1:x.data=[]∨(x.num=Zl f (1+s)∧s+x.data.length-u≤W)) (h2:x.data=(data.drop s.toNat).take x.data.length) (h3:0≤s) :
    Zsn [.val (Zce a b f g),.val (il data),.val (.int s),.val (.int u),.val (.int W),.val x.d,x6] θ=.ok (.nx,[.val (Zce a b f g),.val (il data),.val (.int (s+x.data.length)),.val (.int u),.val (.int W),.val x.d,.val (itp x.data)]) θ:=by
  have m2:∀θ:Sto,ixM (Zce a b f g) (.int 2) θ=.ok (.int (Zl f 1)) θ:=fun θ=>rfl
  obtain ⟨md,hmd⟩:∃x,x=Zce a b f g:=⟨_,rfl⟩
  rw [←hmd]
  simp only [←hmd] at m2
  have sl:∀θ:Sto,Zet θ (il data) (some s) (some (s+x.data.length))=some (il x.data):=by
    intro θ
    rw [Zk9,Zi7 _ (by omega) (by omega)]
    congr 2
    rw [h2]
    congr 1
    rw [←h2]
    omega
  have pn:Zl (Zl f 1) s=Zl f (1+s):=Zap _ _ _
  by_cases c:x.data=[]
  · have tr:∀θ:Sto,Zfu θ (itp x.data)=some false:=fun θ=>by rw [c]; rfl
    simp [Zei,tr,sl,Zeh,ZpQ]
  · obtain ⟨n1,n2⟩:=h1.resolve_left c
    have tr:∀θ:Sto,Zfu θ (itp x.data)=some true:=fun θ=>by
      cases hx:x.data with
      | nil=>exact absurd hx c
      | cons y ys=>rfl
    have gt':¬W<s+x.data.length-u:=by omega
    simp [Zei,tr,sl,m2,pn,n1,Zeh,gt',ZpQ]
theorem R19.sentL (r:R19 data q u sent W told by' came) (hl:0+3<B.length) (ha:0≤a∧a≤65535) (hb:0≤b∧b≤65535) :
    ∃q' sent',l_sent [Zce a b f g,il data,.int sent,.int u,.int W] (upE B 0 (qE a b f g q))=.ok (.int sent') (upE B 0 (qE a b f g q'))∧R19 data q' u sent' W told by' came∧¬sent'<(if u+W<64 then u+W else 64):=by
  obtain ⟨segs,q',sent',gv,gl,rn,r',oa',fin⟩:=r.given (a:=a) (b:=b) (f:=f) (g:=g) ha hb
  have tg:=Zq3 (θ:=B) (l:=0) hl gv gl
  refine ⟨q',sent',?_,r',fin⟩
  have m0:∀θ:Sto,ixM (Zce a b f g) (.int 0) θ=.ok (.ref 0) θ:=fun θ=>rfl
  have loop:=Zqg (F:=Seg.d) (fE:=mCB Ze2 (Zc (mOp ixM (Zd 0) (mC (.int 0))) (Zc (mC (.int 10)) Zk))) (body:=Zsn) (k:=5) (ρ:=[.val (Zce a b f g),.val (il data),.val (.int sent),.val (.int u),.val (.int W),.no,.no]) (θ0:=upE B 0 (qE a b f g q)) (θ:=upE B 0 (qE a b f g q'))
    (fun rr ρ θ=>∃s x5 x6,Run f u W data s rr sent'∧ρ=[.val (Zce a b f g),.val (il data),.val (.int s),.val (.int u),.val (.int W),x5,x6]∧θ=upE B 0 (qE a b f g q')) (fun _=>False) segs (by
      obtain ⟨md,hmd⟩:∃x,x=Zce a b f g:=⟨_,rfl⟩
      rw [←hmd]
      simp only [←hmd] at m0
      simp [m0,tg]) ⟨sent,_,_,rn,rfl,rfl⟩
    (by
      rintro x rr ρ θ ⟨s,x5,x6,run,rfl,rfl⟩
      left
      cases run with
      | cons h1 h2 h3 h4 hr=>exact ⟨_,_,Zm8 (a:=a) (b:=b) (g:=g) (x6:=x6) h1 h2 h3,_,_,_,hr,rfl,rfl⟩)
    (by rintro i ρ θ ⟨s,x5,x6,_,rfl,rfl⟩; simp)
  rcases loop with ⟨ρ',θ',hlp,s,x5,x6,run,rfl,rfl⟩ | ⟨_,_,_,_,hF⟩
  · cases run
    have hlp':ZhP [.val (Zce a b f g),.val (il data),.val (.int sent),.val (.int u),.val (.int W),.no,.no] (upE B 0 (qE a b f g q))=_:=hlp
    simp [l_sent,Zlu,hlp']
  · exact hF.elim
def Zb3 (num size came:Int):Prop:=came≤num∨(num<came∧came<num+size)
instance (num size came:Int):Decidable (Zb3 num size came):=by unfold Zb3; infer_instance
theorem R19.hear (r:R19 data q u sent W told by' came) {num ans new size:Int} (hnum:0≤num∧num≤came) (hans:0≤ans∧ans≤sent) (hnew:0≤new∧new≤40) (hs:size=0∨(came<30∧came-num<12∧came-num+1≤size∧size≤came-num+3)) :
    ∃q',comes (qE a b f g q) ⟨b,a,Zl g (1+num),Zl f (1+ans),16,new,0,List.replicate size.toNat 5⟩ 10=qE a b f g q'∧
      (if Zb3 num size came∧u≤ans then (if Zbu u told by' num ans then R19 data q' (if u<ans then ans else u) sent new num ans (if came<num+size then num+size else came) else R19 data q' u sent W told by' (if came<num+size then num+size else came)) else R19 data q' u sent W told by' (if came<num+size then num+size else came)):=by
  have w:=r.wf
  have hc:=r.cmQ
  have s3:q.st∈S3:=by rw [r.st]; simp
  have hcl:=r.come
  rcases hs with h0 | ⟨h1,h2,h3,h4⟩
  · subst h0
    have e0:List.replicate (0:Int).toNat (5:Int)=[]:=rfl
    rw [e0]
    by_cases c:num=came
    · obtain ⟨q1,go,oa1,R1⟩:=r.goes (a:=a) (b:=b) (f:=f) (g:=g) (x:=[]) hnum hans hnew
      have ff:q1.st=.opn∧q1.fin=none∧q1.rcv=q.rcv∧q1.come.length=q.come.length:=by
        have hq:=r.rcv
        split at R1
        · split at R1
          · exact ⟨R1.st,R1.fin,by rw [R1.rcv,hq],by have:=R1.come; omega⟩
          · exact ⟨R1.st,R1.fin,by rw [R1.rcv,hq],by have:=R1.come; omega⟩
        · exact ⟨R1.st,R1.fin,by rw [R1.rcv,hq],by have:=R1.come; omega⟩
      obtain ⟨f1,f2,f3,f4⟩:=ff
      have e1:Zl g (1+num)=Zl g q.rcv:=by rw [r.rcv,c]
      rw [e1] at go ⊢
      have cm:=Zny (a:=a) (b:=b) (f:=f) (g:=g) (t:=10) (q:=q) (n:=1+ans) (W:=new) (q':=q1) (by rw [r.st]; simp) go (by rw [f1]; simp) f2 f3 (by omega)
      refine ⟨q1,cm,?_⟩
      have ft:Zb3 num 0 came:=.inl (by omega)
      have ce:(if came<num+0 then num+0 else came)=came:=by rw [if_neg (by omega)]
      rw [ce]
      by_cases ca:u≤ans
      · rw [if_pos ca] at R1
        rw [if_pos ⟨ft,ca⟩]
        exact R1
      · rw [if_neg ca] at R1
        rw [if_neg fun z=>ca z.2]
        exact R1
    · have cm:=Znz (a:=a) (b:=b) (f:=f) (g:=g) (t:=10) (q:=q) (m:=1+num) (n:=1+ans) (W:=new) s3 (by rw [r.rcv]; omega)
      refine ⟨_,cm,?_⟩
      have ft:¬Zb3 num 0 came:=by unfold Zb3; omega
      have ce:(if came<num+0 then num+0 else came)=came:=by rw [if_neg (by omega)]
      rw [ce,if_neg fun z=>ft z.1]
      exact ⟨⟨w.una,w.nxt,w.wr,w.wnd,w.most,w.come,w.byt⟩,r.st,r.una,r.nxt,r.beh,r.wr,r.wnd,r.most,r.come,r.rcv,r.toldE,r.byE,r.fin,r.since,r.pr,r.uQ,r.WQ,r.toldQ,r.byQ,r.cmQ,r.len⟩
  · have e0:List.replicate size.toNat (5:Int)=List.replicate (came-num).toNat 5++List.replicate (num+size-came).toNat 5:=by
      rw [List.replicate_append_replicate]
      congr 1
      omega
    rw [e0]
    obtain ⟨q1,go,oa1,R1⟩:=r.goes (a:=a) (b:=b) (f:=f) (g:=g) (x:=List.replicate (came-num).toNat 5++List.replicate (num+size-came).toNat 5) hnum hans hnew
    have ff:q1.st=.opn∧q1.fin=none∧q1.rcv=q.rcv∧(q1.come.length:Int)=came:=by
      have hq:=r.rcv
      split at R1
      · split at R1
        · exact ⟨R1.st,R1.fin,by rw [R1.rcv,hq],R1.come⟩
        · exact ⟨R1.st,R1.fin,by rw [R1.rcv,hq],R1.come⟩
      · exact ⟨R1.st,R1.fin,by rw [R1.rcv,hq],R1.come⟩
    obtain ⟨f1,f2,f3,f4⟩:=ff
    have cm:=Znx (a:=a) (b:=b) (f:=f) (g:=g) (t:=10) (q:=q) (m:=1+num) (n:=1+ans) (W:=new) (xs:=List.replicate (came-num).toNat 5) (ys:=List.replicate (num+size-came).toNat 5) (q':=q1) s3 (by rw [r.rcv]; simp; omega) (by simp; omega) (by simp; omega) (by simp; omega) go (by rw [f1]; simp) f2 f3 (by simp; omega)
    refine ⟨_,cm,?_⟩
    have ft:Zb3 num size came:=by unfold Zb3; omega
    have ce:(if came<num+size then num+size else came)=num+size:=by rw [if_pos (by omega)]
    rw [ce]
    have lift:∀{u' W' told'' by''},R19 data q1 u' sent W' told'' by'' came→R19 data { q1 with come:=q1.come++List.replicate (num+size-came).toNat 5,rcv:=q.rcv+((List.replicate (num+size-came).toNat (5:Int)).length:Nat),oa:=true } u' sent W' told'' by'' (num+size):=by
      intro u' W' told'' by'' R
      have w1:=R.wf
      refine ⟨⟨w1.una,w1.nxt,w1.wr,w1.wnd,w1.most,?_,w1.byt⟩,R.st,R.una,R.nxt,R.beh,R.wr,R.wnd,R.most,?_,?_,R.toldE,R.byE,R.fin,R.since,R.pr,R.uQ,R.WQ,?_,R.byQ,?_,R.len⟩
      · show (q1.come++List.replicate (num+size-came).toNat 5).length≤64
        simp
        omega
      · show (((q1.come++List.replicate (num+size-came).toNat 5).length:Nat):Int)=num+size
        simp
        omega
      · show q.rcv+((List.replicate (num+size-came).toNat (5:Int)).length:Nat)=1+(num+size)
        rw [r.rcv]
        simp
        omega
      · have:=R.toldQ; omega
      · omega
    by_cases ca:u≤ans
    · rw [if_pos ca] at R1
      rw [if_pos ⟨ft,ca⟩]
      by_cases cn:Zbu u told by' num ans
      · rw [if_pos cn] at R1 ⊢
        exact lift R1
      · rw [if_neg cn] at R1 ⊢
        exact lift R1
    · rw [if_neg ca] at R1
      rw [if_neg fun z=>ca z.2]
      exact lift R1
end
section
variable {a b f g u sent W told by' came:Int} {data:List Int} {q:Q} {ns:List Int} {B:Sto}
def ZdV (ns:List Int) (a b f g:Int) (data:List Int) (W u sent told by' came:Int) (x11 x12 x13 x14 x15 x16 x17 x18:Sl):List Sl:=[.val (.scr ns),.val (.int W),.val (Zce a b f g),.val (.ref 0),.val (.tup [.int a,.int b]),.val (il data),.val (.int u),.val (.int sent),.val (.int told),.val (.int by'),.val (.int came),x11,x12,x13,x14,x15,x16,x17,x18]
theorem ZyL (k:Int) (h:0≤k∧k≤100) (θ:Sto):Zcc (il [5]) (.int k) θ=.ok (il (List.replicate k.toNat 5)) θ:=by
  show Zcc (.lst [.int 5]) (.int k) θ=_
  rw [ZpR,if_pos (by simp [BIG]; omega)]
  congr 1
  unfold il
  congr 1
  induction k.toNat with
  | zero=>rfl
  | succ n ih=>rw [List.replicate_succ,List.replicate_succ,List.flatten_cons,ih]; rfl
theorem Zta (r:R19 data q u sent W told by' came) (hl:0+3<B.length) (ha:0≤a∧a≤65535) (hb:0≤b∧b≤65535) {i:Nat} {x12 x13 x14 x15 x16 x17 x18:Sl} :
    ∃q' W' u' sent' told' by'' came' y12 y13 y14 y15 y16 y17 y18,lawB19 (ZdV ns a b f g data W u sent told by' came (.val (.int (i:Int))) x12 x13 x14 x15 x16 x17 x18) (upE B 0 (qE a b f g q))=.ok (.nx,ZdV ns a b f g data W' u' sent' told' by'' came' (.val (.int (i:Int))) y12 y13 y14 y15 y16 y17 y18) (upE B 0 (qE a b f g q'))∧R19 data q' u' sent' W' told' by'' came':=by
  obtain ⟨q1,sent1,ls,r1,fin⟩:=r.sentL (a:=a) (b:=b) (f:=f) (g:=g) hl ha hb
  have hu:=r1.uQ
  have hc:=r1.cmQ
  have ht:=r1.toldQ
  have hby:=r1.byQ
  obtain ⟨num,hnum⟩:∃x,x=gt [came,0,told,came,mix ns (20+(i:Int)) % (came+1)] (mix ns (28+(i:Int)) % 5).toNat:=⟨_,rfl⟩
  have np1:0<came+1:=by omega
  have np2:0<sent1+1:=by omega
  have rnum:0≤num∧num≤came:=by
    rw [hnum]
    have e1:=Int.emod_nonneg (mix ns (20+(i:Int))) (show came+1≠0 by omega)
    have e2:=Int.emod_lt_of_pos (mix ns (20+(i:Int))) np1
    exact Znm (P:=fun n=>0≤gt [came,0,told,came,mix ns (20+(i:Int)) % (came+1)] n∧gt [came,0,told,came,mix ns (20+(i:Int)) % (came+1)] n≤came) (by omega) (by simp [gt]; omega) (by simp [gt]; omega) (by simp [gt]; omega) (by simp [gt]; omega) (by simp [gt]; omega)
  have inum:=fun θ=>ZbQ (a:=[came,0,told,came,mix ns (20+(i:Int)) % (came+1)]) (i:=mix ns (28+(i:Int)) % 5) (θ:=θ) (by omega) (by simp; omega)
  simp only [←hnum] at inum
  obtain ⟨size,hsize⟩:∃x:Int,x=if mix ns (36+(i:Int)) % 3=0∧came<30∧came-num<12 then came-num+1+mix ns (44+(i:Int)) % 3 else 0:=⟨_,rfl⟩
  have rsize:size=0∨(came<30∧came-num<12∧came-num+1≤size∧size≤came-num+3):=by
    rw [hsize]
    split
    · rename_i h
      right
      exact ⟨h.2.1,h.2.2,by omega,by omega⟩
    · exact .inl rfl
  have rs2:0≤size∧size≤16:=by omega
  have L2:∀(x1 x2 x3 x4 x5 x6 x7 x8 x9 x14 x15 x16 x17 x18:Sl) θ,Zco [.val (.scr ns),x1,x2,x3,x4,x5,x6,x7,x8,x9,.val (.int came),.val (.int (i:Int)),.val (.int num),.val (.int 0),x14,x15,x16,x17,x18] θ=.ok (.nx,[.val (.scr ns),x1,x2,x3,x4,x5,x6,x7,x8,x9,.val (.int came),.val (.int (i:Int)),.val (.int num),.val (.int size),x14,x15,x16,x17,x18]) θ:=by
    intros
    rw [hsize]
    by_cases c1:mix ns (36+(i:Int)) % 3=0
    · by_cases c2:came<30
      · by_cases c3:came-num<12
        · rw [if_pos ⟨c1,c2,c3⟩]
          simp [Zco,c1,c2,c3]
        · rw [if_neg fun z=>c3 z.2.2]
          simp [Zco,c1,c2,c3]
      · rw [if_neg fun z=>c2 z.2.1]
        simp [Zco,c1,c2]
    · rw [if_neg fun z=>c1 z.1]
      simp [Zco,c1]
  obtain ⟨ans,hans⟩:∃x,x=gt [u,mix ns (12+(i:Int)) % (sent1+1)] (mix ns (11+(i:Int)) % 2).toNat:=⟨_,rfl⟩
  have rans:0≤ans∧ans≤sent1:=by
    rw [hans]
    have e1:=Int.emod_nonneg (mix ns (12+(i:Int))) (show sent1+1≠0 by omega)
    have e2:=Int.emod_lt_of_pos (mix ns (12+(i:Int))) np2
    have h:(mix ns (11+(i:Int)) % 2).toNat<2:=by omega
    match (mix ns (11+(i:Int)) % 2).toNat,h with
    | 0,_=>simp [gt]; omega
    | 1,_=>simp [gt]; omega
  have ians:=fun θ=>ZbQ (a:=[u,mix ns (12+(i:Int)) % (sent1+1)]) (i:=mix ns (11+(i:Int)) % 2) (θ:=θ) (by omega) (by simp; omega)
  simp only [←hans] at ians
  obtain ⟨new,hnew⟩:∃x,x=mix ns (52+(i:Int)) % 41:=⟨_,rfl⟩
  have rnew:0≤new∧new≤40:=by omega
  obtain ⟨q2,cm,R2⟩:=r1.hear (a:=a) (b:=b) (f:=f) (g:=g) rnum rans rnew rsize
  have ks:(Seg.mk b a (Zl g (1+num)) (Zl f (1+ans)) 16 new 0 (List.replicate size.toNat 5)).Ok:=Zhh hb ha (Zbp _ _) (Zbp _ _) (by omega) (by omega) (.inl rfl) ⟨fun z hz=>by have:=List.eq_of_mem_replicate hz; omega,by simp; omega⟩
  have bs:=fun θ=>Zha ks θ
  have ar:=ZdT (θ:=B) (l:=0) (e:=qE a b f g q1) (now:=10) hl (by show q1.come.length≤64; have:=r1.come; omega) ks (by simp [Zfd,qE]) (by simp [qE])
  rw [cm] at ar
  have p1:Zl (Zl f 1) ans=Zl f (1+ans):=Zap _ _ _
  have p2:Zl (Zl g 1) num=Zl g (1+num):=Zap _ _ _
  have m5:=fun θ=>ZyL size (by omega) θ
  obtain ⟨came2,hcame2⟩:∃x,x=if came<num+size then num+size else came:=⟨_,rfl⟩
  rw [←hcame2] at R2
  have m2:∀θ:Sto,ixM (Zce a b f g) (.int 2) θ=.ok (.int (Zl f 1)) θ:=fun θ=>rfl
  have m3:∀θ:Sto,ixM (Zce a b f g) (.int 3) θ=.ok (.int (Zl g 1)) θ:=fun θ=>rfl
  obtain ⟨md,hmd⟩:∃x,x=Zce a b f g:=⟨_,rfl⟩
  obtain ⟨W',u',told',by'',L4,R3⟩:∃W' u' told' by'',(∀(x0 x2 x3 x4 x5 x7 x10 x11 x13 x16 x17:Sl) θ,Za7 [x0,.val (.int W),x2,x3,x4,x5,.val (.int u),x7,.val (.int told),.val (.int by'),x10,x11,.val (.int num),x13,.val (.int ans),.val (.int new),x16,x17,.val (.bl (decide (Zb3 num size came)))] θ=.ok (.nx,[x0,.val (.int W'),x2,x3,x4,x5,.val (.int u'),x7,.val (.int told'),.val (.int by''),x10,x11,.val (.int num),x13,.val (.int ans),.val (.int new),x16,x17,.val (.bl (decide (Zb3 num size came)))]) θ)∧R19 data q2 u' sent1 W' told' by'' came2:=by
    by_cases c1:Zb3 num size came
    · by_cases c2:u≤ans
      · rw [if_pos ⟨c1,c2⟩] at R2
        have um:(if u<ans then ans else u)=ans:=by split<;>omega
        by_cases c3:Zbu u told by' num ans
        · rw [if_pos c3,um] at R2
          refine ⟨new,ans,num,ans,?_,R2⟩
          intros
          unfold Zbu at c3
          by_cases d1:u<ans
          · simp [Za7,c1,c2,ZcV,d1]
          · have du:u=ans:=by omega
            by_cases d2:told<num
            · subst du
              simp [Za7,c1,ZcV,d2]
            · obtain ⟨d3,d4⟩:=(c3.resolve_left d1).resolve_left d2
              subst du d3
              simp [Za7,c1,ZcV,d4]
        · rw [if_neg c3] at R2
          refine ⟨W,u,told,by',?_,R2⟩
          intros
          unfold Zbu at c3
          have d1:¬u<ans:=fun z=>c3 (.inl z)
          have d2:¬told<num:=fun z=>c3 (.inr (.inl z))
          by_cases d3:num=told
          · have d4:¬by'≤ans:=fun z=>c3 (.inr (.inr ⟨d3,z⟩))
            simp [Za7,c1,c2,ZcV,d1,d3,d4]
          · simp [Za7,c1,c2,ZcV,d1,d2,d3]
      · rw [if_neg fun z=>c2 z.2] at R2
        refine ⟨W,u,told,by',?_,R2⟩
        intros
        simp [Za7,c1,c2]
    · rw [if_neg fun z=>c1 z.1] at R2
      refine ⟨W,u,told,by',?_,R2⟩
      intros
      simp [Za7,c1]
  unfold ZdV
  rw [←hmd] at ls ⊢
  simp only [←hmd] at m2 m3
  have f18:(decide (came≤num) || (decide (num<came) && decide (came<num+size)))=decide (Zb3 num size came):=by
    rw [Bool.eq_iff_iff,decide_eq_true_iff]
    unfold Zb3
    simp
  obtain ⟨sg,hsg⟩:∃x,x=(Seg.mk b a (Zl g (1+num)) (Zl f (1+ans)) 16 new 0 (List.replicate size.toNat 5)).d:=⟨_,rfl⟩
  refine ⟨q2,W',u',sent1,told',by'',came2,.val (.int num),.val (.int size),.val (.int ans),.val (.int new),.val (.tup [.int (Zl g (1+num)),.int (Zl f (1+ans))]),.val sg,.val (.bl (decide (Zb3 num size came))),?_,R3⟩
  rw [hsg]
  simp [ls,Zgq,fin,np1,inum,L2,np2,ians,←hnew,m2,m3,p1,p2,m5,ZlB,bs,ar,f18,←hcame2,L4]
theorem law_true (ns:List Int) (hn:ns.length≤63):∃θ',ZmD [.scr ns] []=.ok (.bl true) θ':=by
  obtain ⟨a,ha⟩:∃x,x=mix ns 0 % 65536:=⟨_,rfl⟩
  obtain ⟨b,hb⟩:∃x,x=mix ns 1 % 65536:=⟨_,rfl⟩
  obtain ⟨f,hf⟩:∃x,x=Zbw (mix ns 2):=⟨_,rfl⟩
  obtain ⟨g,hg⟩:∃x,x=Zbw (mix ns 3):=⟨_,rfl⟩
  obtain ⟨W,hW⟩:∃x,x=mix ns 10 % 21:=⟨_,rfl⟩
  have ra:0≤a∧a≤65535:=by omega
  have rb:0≤b∧b≤65535:=by omega
  have lo:=Zm1 (ns:=ns) (base:=0) (W:=W) (m:=16) [] (by omega) (.inr (by omega))
  simp only [Int.zero_add,←ha,←hb,←hf,←hg,List.length_nil,List.nil_append] at lo
  have eo:Zdh a b f g W 16 0=qE a b f g (qO W 16 0):=by simp [Zdh,qE,qO,newEnd]
  rw [eo] at lo
  obtain ⟨B,hB⟩:∃y,y=cells 0 (qE a b f g (qO W 16 0)):=⟨_,rfl⟩
  have hl:0+3<B.length:=by rw [hB]; simp [cells]
  have up:B=upE B 0 (qE a b f g (qO W 16 0)):=by rw [hB]; exact Zqx _
  rw [←hB,up] at lo
  obtain ⟨data,hdat⟩:∃x,x=(List.range (64:Int).toNat).map fun (k:Nat)=>mix ns (11+(k:Int)) % 256:=⟨_,rfl⟩
  have rd:(∀z∈data,0≤z∧z≤255)∧data.length=64:=by rw [hdat]; exact ⟨ZrE fun i=>by omega,by simp⟩
  have cd:=fun ρ (h0:ρ[0]?=some (Sl.val (D.scr ns))) θ=>Zqv (nE:=mC (.int 64)) (src:=[0]) (elt:=mOp ZaZ (mCB Za9 (Zc (Zd 1) (Zc (mOp ZL (mC (.int 11)) (Zd 0)) Zk))) (mC (.int 256))) (ρ:=ρ) (θ:=θ) (j:=64) (fun k=>mix ns (11+(k:Int)) % 256) (by simp) (by omega) (by omega) (by intro i hi; simp [h0])
  simp only [←hdat] at cd
  have wr:=ZqV (θ:=B) (l:=0) (e:=qE a b f g (qO W 16 0)) hl (by simp [qE,qO]) data
  have cw:ZeJ (qE a b f g (qO W 16 0))=true:=by simp [ZeJ,qE,qO]
  have wo:Zh6 (qE a b f g (qO W 16 0)) data=data:=by
    unfold Zh6
    exact Zi8 (by simp [qE,qO]; omega)
  obtain ⟨q1,hq1⟩:∃x:Q,x={ qO W 16 0 with written:=data,beh:=1+data.length }:=⟨_,rfl⟩
  have we:ZiJ (qE a b f g (qO W 16 0)) data=qE a b f g q1:=by
    unfold ZiJ
    rw [cw,wo,hq1]
    simp [qE,qO,Zap]
  rw [we,cw,wo] at wr
  simp only [if_true] at wr
  have R0:R19 data q1 0 0 W 0 0 0:=by
    rw [hq1]
    exact ⟨⟨by simp [qO],by simp [qO]; omega,by simp [qO]; omega,by simp [qO]; omega,by simp [qO],by simp [qO],rd.1⟩,rfl,rfl,rfl,by show (1:Int)+data.length=65; omega,rfl,rfl,rfl,rfl,rfl,rfl,rfl,rfl,by simp [qO],by simp [qO],by omega,by omega,by omega,by omega,by omega,rd.2⟩
  have loop:=ZrT (nE:=mC (.int 8)) (body:=lawB19) (k:=11) (ρ:=ZdV ns a b f g data W 0 0 0 0 0 .no .no .no .no .no .no .no .no) (θ:=upE B 0 (qE a b f g q1)) (j:=8)
    (fun _ ρ θ=>∃q W u sent told by' came x11 x12 x13 x14 x15 x16 x17 x18,R19 data q u sent W told by' came∧ρ=ZdV ns a b f g data W u sent told by' came x11 x12 x13 x14 x15 x16 x17 x18∧θ=upE B 0 (qE a b f g q)) (fun _=>False) (by simp) (by omega) (by omega) ⟨q1,W,0,0,0,0,0,_,_,_,_,_,_,_,_,R0,rfl,rfl⟩
    (by
      rintro i ρ θ hi ⟨q,W,u,sent,told,by',came,x11,x12,x13,x14,x15,x16,x17,x18,r,rfl,rfl⟩
      obtain ⟨q',W',u',sent',told',by'',came',y12,y13,y14,y15,y16,y17,y18,h,r'⟩:=Zta (a:=a) (b:=b) (f:=f) (g:=g) (ns:=ns) (B:=B) (i:=i) (x12:=x12) (x13:=x13) (x14:=x14) (x15:=x15) (x16:=x16) (x17:=x17) (x18:=x18) r hl ra rb
      exact .inl ⟨_,_,h,q',W',u',sent',told',by'',came',_,y12,y13,y14,y15,y16,y17,y18,r',rfl,rfl⟩)
    (by rintro i ρ θ ⟨q,W,u,sent,told,by',came,x11,x12,x13,x14,x15,x16,x17,x18,r,rfl,rfl⟩; simp [ZdV])
  have m0:∀θ:Sto,ixM (Zce a b f g) (.int 0) θ=.ok (.ref 0) θ:=fun θ=>rfl
  have m1:∀θ:Sto,ixM (Zce a b f g) (.int 1) θ=.ok (.tup [.int a,.int b]) θ:=fun θ=>rfl
  have lo':ZdJ [.scr ns,.int 0,.int W,.int 16] []=.ok (Zce a b f g) (upE B 0 (qE a b f g (qO W 16 0))):=lo
  obtain ⟨md,hmd⟩:∃x,x=Zce a b f g:=⟨_,rfl⟩
  have hb5:ZiG=Zd5 (ZcN (Zc (mC (.int 8)) Zk)) (gNm 11) lawB19:=rfl
  rw [←hb5] at loop
  rcases loop with ⟨ρ',θ',hlp,_⟩ | ⟨_,_,_,_,hF⟩
  · unfold ZdV at hlp
    rw [←hmd] at lo' hlp
    simp only [←hmd] at m0 m1
    refine ⟨θ',?_⟩
    simp [ZmD,ZmV,←hW,lo',m0,m1,cd,wr,hlp]
  · exact hF.elim
end
end
def top (i:Nat):Stmt:=PySem.Challenge.pw_wirestream_k19_windows_told.main.body.getD i (.Pass ⟨0,0,0,0⟩)
abbrev zs0:Stmt:=ZmF (top 2) 0
abbrev zs1:Stmt:=top 3
abbrev zs2:Stmt:=top 4
abbrev zs3:Stmt:=top 5
abbrev zs4:Stmt:=top 9
abbrev zs5:Stmt:=top 10
abbrev zs6:Stmt:=top 11
abbrev zs7:Stmt:=ZmF (top 30) 0
abbrev zs8:Stmt:=top 31
abbrev zs9:Stmt:=top 32
abbrev Zkw:Stmt:=top 33
abbrev Zkv:Stmt:=top 40
abbrev Zku:Stmt:=top 41
abbrev Zkt:Stmt:=top 62
abbrev Zks:Stmt:=top 63
abbrev Zkr:Stmt:=top 64
abbrev Zkq:Stmt:=top 65
abbrev Zkp:Stmt:=top 66
abbrev Zko:Stmt:=top 67
abbrev Zkn:Stmt:=top 68
abbrev Zkm:Stmt:=top 69
abbrev Zkl:Stmt:=top 70
abbrev Zkk:Stmt:=top 71
abbrev Zkj:Stmt:=top 72
abbrev Zki:Stmt:=top 73
abbrev Zkh:Stmt:=top 74
abbrev Zkg:Stmt:=top 75
abbrev Zkf:Stmt:=top 76
abbrev Zke:Stmt:=top 81
abbrev Zkd:Stmt:=top 82
abbrev Zkc:Stmt:=top 83
abbrev Zkb:Stmt:=top 84
abbrev Zka:Stmt:=top 85
abbrev Zj9:Stmt:=top 86
abbrev Zj8:Stmt:=top 87
abbrev Zj7:Stmt:=top 88
abbrev Zj6:Stmt:=top 89
abbrev Zj5:Stmt:=top 90
abbrev Zj4:Stmt:=top 91
abbrev Zj3:Stmt:=top 92
abbrev Zj2:Stmt:=top 93
abbrev Zj1:Stmt:=top 94
abbrev Zj0:Stmt:=top 95
abbrev ZjZ:Stmt:=top 96
abbrev ZjY:Stmt:=top 97
abbrev ZjX:Stmt:=top 98
abbrev ZjW:Stmt:=top 99
abbrev ZjV:Stmt:=top 101
abbrev ZjU:Stmt:=top 102
abbrev ZjT:Stmt:=top 103
abbrev ZjS:Stmt:=top 104
abbrev ZjR:Stmt:=top 105
abbrev ZjQ:Stmt:=top 106
abbrev ZjP:Stmt:=top 107
abbrev ZjO:Stmt:=top 108
abbrev ZjN:Stmt:=top 109
abbrev ZjM:Stmt:=top 111
abbrev ZjL:Stmt:=top 112
abbrev ZjK:Stmt:=top 113
abbrev ZjJ:Stmt:=top 114
abbrev ZjI:Stmt:=top 115
abbrev ZjH:Stmt:=top 116
abbrev ZjG:Stmt:=top 117
abbrev ZjF:Stmt:=top 118
abbrev ZjE:Stmt:=top 119
abbrev ZjD:Stmt:=top 120
abbrev ZjC:Stmt:=top 121
abbrev ZjB:Stmt:=top 122
abbrev ZjA:Stmt:=top 123
abbrev Zjz:Stmt:=top 124
abbrev Zjy:Stmt:=top 125
abbrev Zjx:Stmt:=top 126
abbrev Zjw:Stmt:=top 127
abbrev Zjv:Stmt:=top 128
abbrev Zju:Stmt:=top 130
abbrev Zjt:Stmt:=top 131
abbrev Zjs:Stmt:=top 133
abbrev Zjr:Stmt:=top 134
abbrev Zjq:Stmt:=top 137
abbrev Zjp:Stmt:=top 138
abbrev Zjo:Stmt:=top 139
abbrev ZhW:Stmt:=top 140
abbrev Zjn:Stmt:=top 141
abbrev Zjm:Stmt:=top 142
abbrev Zjl:Stmt:=top 143
abbrev Zjk:Stmt:=top 144
abbrev Zjj:Stmt:=top 145
abbrev Zji:Stmt:=top 146
abbrev Zjh:Stmt:=top 147
abbrev ZgM:Stmt:=top 148
abbrev zP0:List Str:=["self"]
theorem zc0:Zp ["self"] zP0 (Zg zs0):=⟨rfl,rfl,rfl,by decide +kernel,rfl,by decide +kernel,by decide +kernel⟩
abbrev zP1:List Str:=["pile"]
theorem zc1:Zp ["pile"] zP1 (Zg zs1):=⟨rfl,rfl,rfl,by decide +kernel,rfl,by decide +kernel,by decide +kernel⟩
abbrev zP2:List Str:=["pile","row"]
theorem zc2:Zp ["pile","row","laid"] zP2 (Zg zs2):=⟨rfl,rfl,rfl,by decide +kernel,rfl,by decide +kernel,by decide +kernel⟩
abbrev zP3:List Str:=["pile","many"]
theorem zc3:Zp ["pile","many","size","taken"] zP3 (Zg zs3):=⟨rfl,rfl,rfl,by decide +kernel,rfl,by decide +kernel,by decide +kernel⟩
abbrev zP4:List Str:=["number","step"]
theorem zc4:Zp ["number","step"] zP4 (Zg zs4):=⟨rfl,rfl,rfl,by decide +kernel,rfl,by decide +kernel,by decide +kernel⟩
abbrev zP5:List Str:=["number","base"]
theorem zc5:Zp ["number","base"] zP5 (Zg zs5):=⟨rfl,rfl,rfl,by decide +kernel,rfl,by decide +kernel,by decide +kernel⟩
abbrev zP6:List Str:=["number","base"]
theorem zc6:Zp ["number","base"] zP6 (Zg zs6):=⟨rfl,rfl,rfl,by decide +kernel,rfl,by decide +kernel,by decide +kernel⟩
abbrev zP7:List Str:=["self","ours","theirs","first","active"]
theorem zc7:Zp ["self","ours","theirs","first","active"] zP7 (Zg zs7):=⟨rfl,rfl,rfl,by decide +kernel,rfl,by decide +kernel,by decide +kernel⟩
abbrev zP8:List Str:=["end","now"]
theorem zc8:Zp ["end","now"] zP8 (Zg zs8):=⟨rfl,rfl,rfl,by decide +kernel,rfl,by decide +kernel,by decide +kernel⟩
abbrev zP9:List Str:=["end"]
theorem zc9:Zp ["end"] zP9 (Zg zs9):=⟨rfl,rfl,rfl,by decide +kernel,rfl,by decide +kernel,by decide +kernel⟩
abbrev ZoY:List Str:=["end"]
theorem zc10:Zp ["end"] ZoY (Zg Zkw):=⟨rfl,rfl,rfl,by decide +kernel,rfl,by decide +kernel,by decide +kernel⟩
abbrev ZoX:List Str:=["row"]
theorem zc11:Zp ["row","total"] ZoX (Zg Zkv):=⟨rfl,rfl,rfl,by decide +kernel,rfl,by decide +kernel,by decide +kernel⟩
abbrev ZoW:List Str:=["row"]
theorem zc12:Zp ["row"] ZoW (Zg Zku):=⟨rfl,rfl,rfl,by decide +kernel,rfl,by decide +kernel,by decide +kernel⟩
abbrev ZoV:List Str:=["segment"]
theorem zc13:Zp ["segment","flags"] ZoV (Zg Zkt):=⟨rfl,rfl,rfl,by decide +kernel,rfl,by decide +kernel,by decide +kernel⟩
abbrev ZoU:List Str:=["flags","flag"]
theorem zc14:Zp ["flags","flag"] ZoU (Zg Zks):=⟨rfl,rfl,rfl,by decide +kernel,rfl,by decide +kernel,by decide +kernel⟩
abbrev ZoT:List Str:=["segment","flag"]
theorem zc15:Zp ["segment","flag"] ZoT (Zg Zkr):=⟨rfl,rfl,rfl,by decide +kernel,rfl,by decide +kernel,by decide +kernel⟩
abbrev ZoS:List Str:=["segment"]
theorem zc16:Zp ["segment","ahead","behind"] ZoS (Zg Zkq):=⟨rfl,rfl,rfl,by decide +kernel,rfl,by decide +kernel,by decide +kernel⟩
abbrev ZoR:List Str:=["segment"]
theorem zc17:Zp ["segment","ports","numbers","head"] ZoR (Zg Zkp):=⟨rfl,rfl,rfl,by decide +kernel,rfl,by decide +kernel,by decide +kernel⟩
abbrev ZoQ:List Str:=["head"]
theorem zc18:Zp ["head"] ZoQ (Zg Zko):=⟨rfl,rfl,rfl,by decide +kernel,rfl,by decide +kernel,by decide +kernel⟩
abbrev ZoP:List Str:=["most"]
theorem zc19:Zp ["most"] ZoP (Zg Zkn):=⟨rfl,rfl,rfl,by decide +kernel,rfl,by decide +kernel,by decide +kernel⟩
abbrev ZoO:List Str:=["number"]
theorem zc20:Zp ["number"] ZoO (Zg Zkm):=⟨rfl,rfl,rfl,by decide +kernel,rfl,by decide +kernel,by decide +kernel⟩
abbrev ZoN:List Str:=["number"]
theorem zc21:Zp ["number"] ZoN (Zg Zkl):=⟨rfl,rfl,rfl,by decide +kernel,rfl,by decide +kernel,by decide +kernel⟩
abbrev ZoM:List Str:=["row"]
theorem zc22:Zp ["row"] ZoM (Zg Zkk):=⟨rfl,rfl,rfl,by decide +kernel,rfl,by decide +kernel,by decide +kernel⟩
abbrev ZoL:List Str:=["row"]
theorem zc23:Zp ["row"] ZoL (Zg Zkj):=⟨rfl,rfl,rfl,by decide +kernel,rfl,by decide +kernel,by decide +kernel⟩
abbrev ZoK:List Str:=["row"]
theorem zc24:Zp ["row"] ZoK (Zg Zki):=⟨rfl,rfl,rfl,by decide +kernel,rfl,by decide +kernel,by decide +kernel⟩
abbrev ZoJ:List Str:=["row"]
theorem zc25:Zp ["row","head","most","ports","numbers"] ZoJ (Zg Zkh):=⟨rfl,rfl,rfl,by decide +kernel,rfl,by decide +kernel,by decide +kernel⟩
abbrev ZoI:List Str:=["row","place"]
theorem zc26:Zp ["row","place"] ZoI (Zg Zkg):=⟨rfl,rfl,rfl,by decide +kernel,rfl,by decide +kernel,by decide +kernel⟩
abbrev ZoH:List Str:=["row","place"]
theorem zc27:Zp ["row","place"] ZoH (Zg Zkf):=⟨rfl,rfl,rfl,by decide +kernel,rfl,by decide +kernel,by decide +kernel⟩
abbrev ZoG:List Str:=["end","now"]
theorem zc28:Zp ["end","now","segment"] ZoG (Zg Zke):=⟨rfl,rfl,rfl,by decide +kernel,rfl,by decide +kernel,by decide +kernel⟩
abbrev ZoF:List Str:=["end","now"]
theorem zc29:Zp ["end","now","segment"] ZoF (Zg Zkd):=⟨rfl,rfl,rfl,by decide +kernel,rfl,by decide +kernel,by decide +kernel⟩
abbrev ZoE:List Str:=["end"]
theorem zc30:Zp ["end","segment"] ZoE (Zg Zkc):=⟨rfl,rfl,rfl,by decide +kernel,rfl,by decide +kernel,by decide +kernel⟩
abbrev ZoD:List Str:=["end","now"]
theorem zc31:Zp ["end","now"] ZoD (Zg Zkb):=⟨rfl,rfl,rfl,by decide +kernel,rfl,by decide +kernel,by decide +kernel⟩
abbrev ZoC:List Str:=["end","now"]
theorem zc32:Zp ["end","now","data"] ZoC (Zg Zka):=⟨rfl,rfl,rfl,by decide +kernel,rfl,by decide +kernel,by decide +kernel⟩
abbrev ZoB:List Str:=["end"]
theorem zc33:Zp ["end"] ZoB (Zg Zj9):=⟨rfl,rfl,rfl,by decide +kernel,rfl,by decide +kernel,by decide +kernel⟩
abbrev ZoA:List Str:=["end"]
theorem zc34:Zp ["end"] ZoA (Zg Zj8):=⟨rfl,rfl,rfl,by decide +kernel,rfl,by decide +kernel,by decide +kernel⟩
abbrev Zoz:List Str:=["end","number","flags","data"]
theorem zc35:Zp ["end","number","flags","data"] Zoz (Zg Zj7):=⟨rfl,rfl,rfl,by decide +kernel,rfl,by decide +kernel,by decide +kernel⟩
abbrev Zoy:List Str:=["end","now"]
theorem zc36:Zp ["end","now","room"] Zoy (Zg Zj6):=⟨rfl,rfl,rfl,by decide +kernel,rfl,by decide +kernel,by decide +kernel⟩
abbrev Zox:List Str:=["end","now"]
theorem zc37:Zp ["end","now"] Zox (Zg Zj5):=⟨rfl,rfl,rfl,by decide +kernel,rfl,by decide +kernel,by decide +kernel⟩
abbrev Zow:List Str:=["end"]
theorem zc38:Zp ["end"] Zow (Zg Zj4):=⟨rfl,rfl,rfl,by decide +kernel,rfl,by decide +kernel,by decide +kernel⟩
abbrev Zov:List Str:=["end"]
theorem zc39:Zp ["end"] Zov (Zg Zj3):=⟨rfl,rfl,rfl,by decide +kernel,rfl,by decide +kernel,by decide +kernel⟩
abbrev Zou:List Str:=["end"]
theorem zc40:Zp ["end"] Zou (Zg Zj2):=⟨rfl,rfl,rfl,by decide +kernel,rfl,by decide +kernel,by decide +kernel⟩
abbrev Zot:List Str:=["end"]
theorem zc41:Zp ["end"] Zot (Zg Zj1):=⟨rfl,rfl,rfl,by decide +kernel,rfl,by decide +kernel,by decide +kernel⟩
abbrev Zos:List Str:=["end","room"]
theorem zc42:Zp ["end","room"] Zos (Zg Zj0):=⟨rfl,rfl,rfl,by decide +kernel,rfl,by decide +kernel,by decide +kernel⟩
abbrev Zor:List Str:=["end","room"]
theorem zc43:Zp ["end","room","number","many","place"] Zor (Zg ZjZ):=⟨rfl,rfl,rfl,by decide +kernel,rfl,by decide +kernel,by decide +kernel⟩
abbrev Zoq:List Str:=["end"]
theorem zc44:Zp ["end","number"] Zoq (Zg ZjY):=⟨rfl,rfl,rfl,by decide +kernel,rfl,by decide +kernel,by decide +kernel⟩
abbrev Zop:List Str:=["end","now"]
theorem ZxZ:Zp ["end","now"] Zop (Zg ZjX):=⟨rfl,rfl,rfl,by decide +kernel,rfl,by decide +kernel,by decide +kernel⟩
abbrev Zoo:List Str:=["end"]
theorem ZxY:Zp ["end"] Zoo (Zg ZjW):=⟨rfl,rfl,rfl,by decide +kernel,rfl,by decide +kernel,by decide +kernel⟩
abbrev Zon:List Str:=["segment"]
theorem zc47:Zp ["segment","ports"] Zon (Zg ZjV):=⟨rfl,rfl,rfl,by decide +kernel,rfl,by decide +kernel,by decide +kernel⟩
abbrev Zom:List Str:=["end","segment"]
theorem ZxX:Zp ["end","segment"] Zom (Zg ZjU):=⟨rfl,rfl,rfl,by decide +kernel,rfl,by decide +kernel,by decide +kernel⟩
abbrev Zol:List Str:=["end","segment"]
theorem ZxW:Zp ["end","segment"] Zol (Zg ZjT):=⟨rfl,rfl,rfl,by decide +kernel,rfl,by decide +kernel,by decide +kernel⟩
abbrev Zok:List Str:=["end","segment"]
theorem ZxV:Zp ["end","segment"] Zok (Zg ZjS):=⟨rfl,rfl,rfl,by decide +kernel,rfl,by decide +kernel,by decide +kernel⟩
abbrev Zoj:List Str:=["end","segment"]
theorem ZxU:Zp ["end","segment"] Zoj (Zg ZjR):=⟨rfl,rfl,rfl,by decide +kernel,rfl,by decide +kernel,by decide +kernel⟩
abbrev Zoi:List Str:=["end","segment","now"]
theorem ZxT:Zp ["end","segment","now"] Zoi (Zg ZjQ):=⟨rfl,rfl,rfl,by decide +kernel,rfl,by decide +kernel,by decide +kernel⟩
abbrev Zoh:List Str:=["end","segment"]
theorem ZxS:Zp ["end","segment"] Zoh (Zg ZjP):=⟨rfl,rfl,rfl,by decide +kernel,rfl,by decide +kernel,by decide +kernel⟩
abbrev Zog:List Str:=["end","segment"]
theorem ZxR:Zp ["end","segment"] Zog (Zg ZjO):=⟨rfl,rfl,rfl,by decide +kernel,rfl,by decide +kernel,by decide +kernel⟩
abbrev Zof:List Str:=["end","segment","now"]
theorem ZxQ:Zp ["end","segment","now"] Zof (Zg ZjN):=⟨rfl,rfl,rfl,by decide +kernel,rfl,by decide +kernel,by decide +kernel⟩
abbrev Zoe:List Str:=["end","row","now"]
theorem zc56:Zp ["end","row","now","segment"] Zoe (Zg ZjM):=⟨rfl,rfl,rfl,by decide +kernel,rfl,by decide +kernel,by decide +kernel⟩
abbrev Zod:List Str:=["end","segment"]
theorem ZxP:Zp ["end","segment"] Zod (Zg ZjL):=⟨rfl,rfl,rfl,by decide +kernel,rfl,by decide +kernel,by decide +kernel⟩
abbrev Zoc:List Str:=["end","segment","now"]
theorem ZxO:Zp ["end","segment","now"] Zoc (Zg ZjK):=⟨rfl,rfl,rfl,by decide +kernel,rfl,by decide +kernel,by decide +kernel⟩
abbrev Zob:List Str:=["end","segment"]
theorem zc59:Zp ["end","segment","size","last"] Zob (Zg ZjJ):=⟨rfl,rfl,rfl,by decide +kernel,rfl,by decide +kernel,by decide +kernel⟩
abbrev Zoa:List Str:=["end","number"]
theorem ZxN:Zp ["end","number"] Zoa (Zg ZjI):=⟨rfl,rfl,rfl,by decide +kernel,rfl,by decide +kernel,by decide +kernel⟩
abbrev Zn9:List Str:=["end","segment","now"]
theorem ZxM:Zp ["end","segment","now"] Zn9 (Zg ZjH):=⟨rfl,rfl,rfl,by decide +kernel,rfl,by decide +kernel,by decide +kernel⟩
abbrev Zn8:List Str:=["end","segment"]
theorem ZxL:Zp ["end","segment"] Zn8 (Zg ZjG):=⟨rfl,rfl,rfl,by decide +kernel,rfl,by decide +kernel,by decide +kernel⟩
abbrev Zn7:List Str:=["end","segment","now"]
theorem ZxK:Zp ["end","segment","now"] Zn7 (Zg ZjF):=⟨rfl,rfl,rfl,by decide +kernel,rfl,by decide +kernel,by decide +kernel⟩
abbrev Zn6:List Str:=["end","segment"]
theorem ZxJ:Zp ["end","segment"] Zn6 (Zg ZjE):=⟨rfl,rfl,rfl,by decide +kernel,rfl,by decide +kernel,by decide +kernel⟩
abbrev Zn5:List Str:=["end","segment"]
theorem ZxI:Zp ["end","segment"] Zn5 (Zg ZjD):=⟨rfl,rfl,rfl,by decide +kernel,rfl,by decide +kernel,by decide +kernel⟩
abbrev Zn4:List Str:=["end","segment","now"]
theorem zc66:Zp ["end","segment","now","answer","has_gone_on","was_shut"] Zn4 (Zg ZjC):=⟨rfl,rfl,rfl,by decide +kernel,rfl,by decide +kernel,by decide +kernel⟩
abbrev Zn3:List Str:=["end","segment"]
theorem ZxH:Zp ["end","segment"] Zn3 (Zg ZjB):=⟨rfl,rfl,rfl,by decide +kernel,rfl,by decide +kernel,by decide +kernel⟩
abbrev Zn2:List Str:=["end","now"]
theorem ZxG:Zp ["end","now"] Zn2 (Zg ZjA):=⟨rfl,rfl,rfl,by decide +kernel,rfl,by decide +kernel,by decide +kernel⟩
abbrev Zn1:List Str:=["end","segment","now"]
theorem ZxF:Zp ["end","segment","now"] Zn1 (Zg Zjz):=⟨rfl,rfl,rfl,by decide +kernel,rfl,by decide +kernel,by decide +kernel⟩
abbrev Zn0:List Str:=["end","segment"]
theorem zc70:Zp ["end","segment","place","byte","number"] Zn0 (Zg Zjy):=⟨rfl,rfl,rfl,by decide +kernel,rfl,by decide +kernel,by decide +kernel⟩
abbrev ZnZ:List Str:=["end","segment"]
theorem zc71:Zp ["end","segment","number"] ZnZ (Zg Zjx):=⟨rfl,rfl,rfl,by decide +kernel,rfl,by decide +kernel,by decide +kernel⟩
abbrev ZnY:List Str:=["end"]
theorem zc72:Zp ["end","row"] ZnY (Zg Zjw):=⟨rfl,rfl,rfl,by decide +kernel,rfl,by decide +kernel,by decide +kernel⟩
abbrev ZnX:List Str:=["end","now"]
theorem ZxE:Zp ["end","now"] ZnX (Zg Zjv):=⟨rfl,rfl,rfl,by decide +kernel,rfl,by decide +kernel,by decide +kernel⟩
abbrev ZnW:List Str:=["ours","theirs","first","active"]
theorem ZxD:Zp ["ours","theirs","first","active"] ZnW (Zg Zju):=⟨rfl,rfl,rfl,by decide +kernel,rfl,by decide +kernel,by decide +kernel⟩
abbrev ZnV:List Str:=["end","row"]
theorem zc75:Zp ["end","row","taken"] ZnV (Zg Zjt):=⟨rfl,rfl,rfl,by decide +kernel,rfl,by decide +kernel,by decide +kernel⟩
abbrev ZnU:List Str:=["_law_script","_law_k"]
theorem ZxC:Zp ["_law_script","_law_k"] ZnU (Zg Zjs):=⟨rfl,rfl,rfl,by decide +kernel,rfl,by decide +kernel,by decide +kernel⟩
abbrev ZnT:List Str:=["_law_script","_law_k"]
theorem zc77:Zp ["_law_script","_law_k","_law_number"] ZnT (Zg Zjr):=⟨rfl,rfl,rfl,by decide +kernel,rfl,by decide +kernel,by decide +kernel⟩
abbrev ZnS:List Str:=["_law_number"]
theorem ZxB:Zp ["_law_number"] ZnS (Zg Zjq):=⟨rfl,rfl,rfl,by decide +kernel,rfl,by decide +kernel,by decide +kernel⟩
abbrev ZnR:List Str:=["_law_row"]
theorem zc79:Zp ["_law_row","_law_total","_law_k"] ZnR (Zg Zjp):=⟨rfl,rfl,rfl,by decide +kernel,rfl,by decide +kernel,by decide +kernel⟩
abbrev ZnQ:List Str:=["_law_segment_here"]
theorem zc80:Zp ["_law_segment_here","_law_row","_law_number"] ZnQ (Zg Zjo):=⟨rfl,rfl,rfl,by decide +kernel,rfl,by decide +kernel,by decide +kernel⟩
abbrev ZnP:List Str:=["_law_row"]
theorem zc81:Zp ["_law_row","_law_head","_law_most","_law_words","_law_found"] ZnP (Zg ZhW):=⟨rfl,rfl,rfl,by decide +kernel,rfl,by decide +kernel,by decide +kernel⟩
abbrev ZnO:List Str:=["_law_byte_here"]
theorem ZxA:Zp ["_law_byte_here"] ZnO (Zg Zjn):=⟨rfl,rfl,rfl,by decide +kernel,rfl,by decide +kernel,by decide +kernel⟩
abbrev ZnN:List Str:=["_law_number","_law_step"]
theorem Zxz:Zp ["_law_number","_law_step"] ZnN (Zg Zjm):=⟨rfl,rfl,rfl,by decide +kernel,rfl,by decide +kernel,by decide +kernel⟩
abbrev ZnM:List Str:=["_law_number"]
theorem Zxy:Zp ["_law_number"] ZnM (Zg Zjl):=⟨rfl,rfl,rfl,by decide +kernel,rfl,by decide +kernel,by decide +kernel⟩
abbrev ZnL:List Str:=["_law_talk","_law_number","_law_answer","_law_flags","_law_window","_law_data"]
theorem Zxx:Zp ["_law_talk","_law_number","_law_answer","_law_flags","_law_window","_law_data"] ZnL (Zg Zjk):=⟨rfl,rfl,rfl,by decide +kernel,rfl,by decide +kernel,by decide +kernel⟩
abbrev ZnK:List Str:=["_law_end","_law_now"]
theorem zc86:Zp ["_law_end","_law_now","_law_found","_law_k","_law_row"] ZnK (Zg Zjj):=⟨rfl,rfl,rfl,by decide +kernel,rfl,by decide +kernel,by decide +kernel⟩
abbrev ZnJ:List Str:=["_law_script","_law_base","_law_window","_law_most"]
theorem zc87:Zp ["_law_script","_law_base","_law_window","_law_most","_law_talk","_law_mine","_law_theirs","_law_end"] ZnJ (Zg Zji):=⟨rfl,rfl,rfl,by decide +kernel,rfl,by decide +kernel,by decide +kernel⟩
abbrev ZnI:List Str:=["_law_made_here","_law_data","_law_sent_here","_law_una","_law_window"]
theorem zc88:Zp ["_law_made_here","_law_data","_law_sent_here","_law_una","_law_window","_law_segment_here","_law_part"] ZnI (Zg Zjh):=⟨rfl,rfl,rfl,by decide +kernel,rfl,by decide +kernel,by decide +kernel⟩
abbrev ZnH:List Str:=["_law_script"]
theorem zc89:Zp ["_law_script","_law_window","_law_made_here","_law_end","_law_talk","_law_data","_law_una","_law_sent_here","_law_told","_law_told_by","_law_came","_law_k","_law_number","_law_size","_law_answer","_law_new","_law_places","_law_segment_here","_law_fits_here"] ZnH (Zg ZgM):=⟨rfl,rfl,rfl,by decide +kernel,rfl,by decide +kernel,by decide +kernel⟩
structure Glb (K:PySem.W.Frag) (mg:Str→Option Value):Prop where
  zc0:∃t,mg "ACK"=some (.int 16 t)
  zc1:∃t,mg "ANSWER"=some (.int 3 t)
  zc2:∃t,mg "CLOSED"=some (.str "closed" t)
  zc3:∃t,mg "CLOSE_WAIT"=some (.str "close wait" t)
  zc4:∃t,mg "CLOSING"=some (.str "closing" t)
  zc5:∃t,mg "DATA"=some (.int 7 t)
  zc6:∃t,mg "FIN"=some (.int 1 t)
  zc7:∃t,mg "FIRST_WAIT"=some (.int 1000 t)
  zc8:∃t,mg "FLAGS"=some (.int 4 t)
  zc9:∃t,mg "GOAL"=some (.int 1 t)
  zc10:∃t,mg "GREATEST_DATA"=some (.int 16 t)
  zc11:∃t,mg "GREATEST_FLAGS"=some (.int 31 t)
  zc12:∃t,mg "GREATEST_WORD"=some (.int 65535 t)
  zc13:∃t,mg "HALF_ROUND"=some (.int 2147483648 t)
  zc14:∃t,mg "LAST_ACK"=some (.str "last ack" t)
  zc15:∃t,mg "LAST_WAIT"=some (.int 120000 t)
  zc16:∃t,mg "LEAST_MOST"=some (.int 4 t)
  zc17:∃t,mg "LISTEN"=some (.str "listen" t)
  zc18:∃t,mg "LONGEST_WAIT"=some (.int 16000 t)
  zc19:∃t,mg "LONG_HEAD"=some (.int 24 t)
  zc20:∃t,mg "MOST"=some (.int 6 t)
  zc21:∃t,mg "MOST_TRIES"=some (.int 6 t)
  zc22:∃t,mg "MOST_UNTOLD"=some (.int 12 t)
  zc23:∃t,mg "NO_ERROR"=some (.str "" t)
  zc24:∃t,mg "NUMBER"=some (.int 2 t)
  zc25:∃t,mg "OPEN"=some (.str "open" t)
  zc26:∃t,mg "PSH"=some (.int 8 t)
  zc27:∃t,mg "REFUSED"=some (.str "refused" t)
  zc28:∃t,mg "RESET"=some (.str "reset" t)
  zc29:∃t,mg "RIGHT_SUM"=some (.int 65535 t)
  zc30:∃t,mg "ROOM"=some (.int 64 t)
  zc31:∃t,mg "ROUND"=some (.int 4294967296 t)
  zc32:∃t,mg "RST"=some (.int 4 t)
  zc33:∃t,mg "SHORT_HEAD"=some (.int 20 t)
  zc34:∃t,mg "SOURCE"=some (.int 0 t)
  zc35:∃t,mg "SYN"=some (.int 2 t)
  zc36:∃t,mg "SYN_COME"=some (.str "syn come" t)
  zc37:∃t,mg "SYN_SENT"=some (.str "syn sent" t)
  zc38:∃t,mg "TIME"=some (.str "time" t)
  zc39:∃t,mg "TIME_WAIT"=some (.str "time wait" t)
  zc40:∃t,mg "WAIT_ONE"=some (.str "wait one" t)
  zc41:∃t,mg "WAIT_TWO"=some (.str "wait two" t)
  zc42:∃t,mg "WINDOW"=some (.int 5 t)
  zc43:∃t,mg "WORDS"=some (.int 65536 t)
  b_all:mg "all"=none
  b_bool:mg "bool"=none
  b_enumerate:mg "enumerate"=none
  b_int:mg "int"=none
  b_isinstance:mg "isinstance"=none
  b_len:mg "len"=none
  b_list:mg "list"=none
  b_max:mg "max"=none
  b_min:mg "min"=none
  b_range:mg "range"=none
  b_sum:mg "sum"=none
  b_tuple:mg "tuple"=none
  k_End:Cls K (z8 mg "End")
  k_Pile:Cls K (z8 mg "Pile")
  zn0:NoAttr K (z8 mg "End") "behind"
  zn1:NoAttr K (z8 mg "End") "come"
  zn2:NoAttr K (z8 mg "End") "early"
  zn3:NoAttr K (z8 mg "End") "early_fin"
  zn4:NoAttr K (z8 mg "End") "error"
  zn5:NoAttr K (z8 mg "End") "first"
  zn6:NoAttr K (z8 mg "End") "has_closed"
  zn7:NoAttr K (z8 mg "End") "most"
  zn8:NoAttr K (z8 mg "End") "nxt"
  zn9:NoAttr K (z8 mg "End") "ours"
  zn10:NoAttr K (z8 mg "End") "owed_reset"
  zn11:NoAttr K (z8 mg "End") "owes_answer"
  zn12:NoAttr K (z8 mg "End") "owes_syn"
  zn13:NoAttr K (z8 mg "End") "probes"
  zn14:NoAttr K (z8 mg "End") "rcv"
  zn15:NoAttr K (z8 mg "End") "since"
  zn16:NoAttr K (z8 mg "End") "state"
  zn17:NoAttr K (z8 mg "End") "theirs"
  zn18:NoAttr K (z8 mg "End") "told"
  zn19:NoAttr K (z8 mg "End") "told_by"
  zn20:NoAttr K (z8 mg "End") "tries"
  zn21:NoAttr K (z8 mg "End") "una"
  zn22:NoAttr K (z8 mg "End") "wait"
  zn23:NoAttr K (z8 mg "End") "wnd"
  zn24:NoAttr K (z8 mg "End") "written"
  zn25:NoAttr K (z8 mg "Pile") "row"
section
variable {P:Program} {w:World} {K:PySem.W.Frag} {mg:Str→Option Value} {base:Heap}
theorem zo0 (D:Mk0 K mg "Pile" "Pile.__init__" zs0 zP0) (g:Glb K mg) :MMk P w K mg base 1 "Pile" ZbU:=
  mk0 D zc0 1 1 rfl rfl fun f cdv A outer s H E hr=>(Zj (Zw (Zu ⟨g.k_Pile,g.zn25⟩) (Za 0) (ZaF Zf)))
theorem zo1 (D:Def0 K mg "room" zs1 zP1) (g:Glb K mg) :MDef P w K mg base 1 "room" ZdZ:=
  ZX D zc1 1 1 rfl rfl fun f cdv A outer s H E hr=>(Zj (Zv (Zs Zdi (Zm g.zc30) (ZY Zdm g.b_len PySem.boot_len (Zb (Zo (Zu ⟨g.k_Pile,g.zn25⟩) (Za 0)) Zf)))))
theorem zo2 (D:Def0 K mg "lay" zs2 zP2) (g:Glb K mg) (zd1:MDef P w K mg base 1 "room" ZdZ):MDef P w K mg base 2 "lay" ZfB:=
  ZX D zc2 2 3 rfl rfl fun f cdv A outer s H E hr=>(Ze (Zz 2 zc2.nd (Za3 (Za 1) Zb2 (z7 (Zi zd1 hr (by decide) (Zb (Za 0) Zf)))))
  (Ze (Zw (Zu ⟨g.k_Pile,g.zn25⟩) (Za 0) (Zs ZJ (Zo (Zu ⟨g.k_Pile,g.zn25⟩) (Za 0)) (Za 2)))
  (Zj (Zv (ZY Zdm g.b_len PySem.boot_len (Zb (Za 2) Zf))))))
theorem zo3 (D:Def0 K mg "take" zs3 zP3) (g:Glb K mg) :MDef P w K mg base 1 "take" Zfi:=
  ZX D zc3 2 4 rfl rfl fun f cdv A outer s H E hr=>(Ze (Zz 2 zc3.nd (ZY ZqB g.b_max PyProof.Rows.boot_max (Zb (Za 1) (Zb Zh Zf))))
  (Ze (Zz 3 zc3.nd (Za3 (Zo (Zu ⟨g.k_Pile,g.zn25⟩) (Za 0)) Zb2 (z7 (Za 2))))
  (Ze (Zw (Zu ⟨g.k_Pile,g.zn25⟩) (Za 0) (Za3 (Zo (Zu ⟨g.k_Pile,g.zn25⟩) (Za 0)) (z7 (Za 2)) Zb2))
  (Zj (Zv (Za 3))))))
theorem zo4 (D:Def0 K mg "plus" zs4 zP4) (g:Glb K mg) :MDef P w K mg base 1 "plus" zq:=
  ZX D zc4 2 2 rfl rfl fun f cdv A outer s H E hr=>(Zj (Zv (Zs Zaq (Zs ZJ (Za 0) (Za 1)) (Zm g.zc31))))
theorem zo5 (D:Def0 K mg "offset" zs5 zP5) (g:Glb K mg) :MDef P w K mg base 1 "offset" zB:=
  ZX D zc5 2 2 rfl rfl fun f cdv A outer s H E hr=>(Zj (Zv (Zs Zdi (Zs Zaq (Zs ZJ (Zs Zdi (Za 0) (Za 1)) (Zm g.zc13)) (Zm g.zc31)) (Zm g.zc13))))
theorem zo6 (D:Def0 K mg "past" zs6 zP6) (g:Glb K mg) (zd5:MDef P w K mg base 1 "offset" zB):MDef P w K mg base 2 "past" Zcg:=
  ZX D zc6 2 2 rfl rfl fun f cdv A outer s H E hr=>(Zj (Zv (zQ Zgb (Zi zd5 hr (by decide) (Zb (Za 0) (Zb (Za 1) Zf))) Zh)))
theorem zo7 (D:Mk0 K mg "End" "End.__init__" zs7 zP7) (g:Glb K mg) (zd0:MMk P w K mg base 1 "Pile" ZbU) (zd4:MDef P w K mg base 1 "plus" zq):MMk P w K mg base 3 "End" Zck:=
  mk0 D zc7 5 5 rfl rfl fun f cdv A outer s H E hr=>(Ze (Zw (Zu ⟨g.k_End,g.zn9⟩) (Za 0) (Za 1))
  (Ze (Zw (Zu ⟨g.k_End,g.zn17⟩) (Za 0) (Za 2))
  (Ze (Zw (Zu ⟨g.k_End,g.zn16⟩) (Za 0) (ZcE (ZD (Za 4)) (ZE g.zc37) (ZE g.zc17)))
  (Ze (Zw (Zu ⟨g.k_End,g.zn4⟩) (Za 0) (ZE g.zc23))
  (Ze (Zw (Zu ⟨g.k_End,g.zn5⟩) (Za 0) (Za 3))
  (Ze (Zw (Zu ⟨g.k_End,g.zn21⟩) (Za 0) (Za 3))
  (Ze (Zw (Zu ⟨g.k_End,g.zn8⟩) (Za 0) (Za 3))
  (Ze (Zw (Zu ⟨g.k_End,g.zn14⟩) (Za 0) Zh)
  (Ze (Zw (Zu ⟨g.k_End,g.zn23⟩) (Za 0) Zh)
  (Ze (Zw (Zu ⟨g.k_End,g.zn18⟩) (Za 0) Zh)
  (Ze (Zw (Zu ⟨g.k_End,g.zn19⟩) (Za 0) Zh)
  (Ze (Zw (Zu ⟨g.k_End,g.zn7⟩) (Za 0) (Zm g.zc22))
  (Ze (Zw (Zu ⟨g.k_End,g.zn24⟩) (Za 0) (ZkZ zd0 hr (by decide)))
  (Ze (Zw (Zu ⟨g.k_End,g.zn1⟩) (Za 0) (ZkZ zd0 hr (by decide)))
  (Ze (Zw (Zu ⟨g.k_End,g.zn2⟩) (Za 0) Zp0)
  (Ze (Zw (Zu ⟨g.k_End,g.zn3⟩) (Za 0) ZaM)
  (Ze (Zw (Zu ⟨g.k_End,g.zn6⟩) (Za 0) ZaI)
  (Ze (Zw (Zu ⟨g.k_End,g.zn0⟩) (Za 0) (Zi zd4 hr (by decide) (Zb (Za 3) (Zb Zh Zf))))
  (Ze (Zw (Zu ⟨g.k_End,g.zn10⟩) (Za 0) ZaM)
  (Ze (Zw (Zu ⟨g.k_End,g.zn12⟩) (Za 0) ZaI)
  (Ze (Zw (Zu ⟨g.k_End,g.zn11⟩) (Za 0) ZaI)
  (Ze (Zw (Zu ⟨g.k_End,g.zn13⟩) (Za 0) ZaI)
  (Ze (Zw (Zu ⟨g.k_End,g.zn15⟩) (Za 0) Zh)
  (Ze (Zw (Zu ⟨g.k_End,g.zn22⟩) (Za 0) (Zm g.zc7))
  (Zj (Zw (Zu ⟨g.k_End,g.zn20⟩) (Za 0) Zh))))))))))))))))))))))))))
theorem zo8 (D:Def0 K mg "start_timer" zs8 zP8) (g:Glb K mg) :MDef P w K mg base 1 "start_timer" za:=
  ZX D zc8 2 2 rfl rfl fun f cdv A outer s H E hr=>(Ze (Zw (Zu ⟨g.k_End,g.zn15⟩) (Za 0) (Za 1))
  (Ze (Zw (Zu ⟨g.k_End,g.zn22⟩) (Za 0) (Zm g.zc7))
  (Zj (Zw (Zu ⟨g.k_End,g.zn20⟩) (Za 0) Zh))))
theorem zo9 (D:Def0 K mg "our_window" zs9 zP9) (g:Glb K mg) (zd1:MDef P w K mg base 1 "room" ZdZ):MDef P w K mg base 2 "our_window" ZaY:=
  ZX D zc9 1 1 rfl rfl fun f cdv A outer s H E hr=>(Zj (Zv (Zi zd1 hr (by decide) (Zb (Zo (Zu ⟨g.k_End,g.zn1⟩) (Za 0)) Zf))))
theorem Zxw (D:Def0 K mg "has_sent_fin" Zkw ZoY) (g:Glb K mg) (zd6:MDef P w K mg base 2 "past" Zcg):MDef P w K mg base 3 "has_sent_fin" Zbi:=
  ZX D zc10 1 1 rfl rfl fun f cdv A outer s H E hr=>(Zj (Zv (Zi zd6 hr (by decide) (Zb (Zo (Zu ⟨g.k_End,g.zn8⟩) (Za 0)) (Zb (Zo (Zu ⟨g.k_End,g.zn0⟩) (Za 0)) Zf)))))
theorem Zxv (D:Def0 K mg "folded" Zkv ZoX) (g:Glb K mg) :MDef P w K mg base 1 "folded" Zc3:=
  ZX D zc11 1 2 rfl rfl fun f cdv A outer s H E hr=>(Ze (Zz 1 zc11.nd (Zs ZJ (Zs Zcv Zh (ZY ZsE g.b_sum PyProof.Rows.boot_sum (Zb (Ziq (Za 0) Zb2 Zb2 (z7 Zh)) Zf))) (ZY ZsE g.b_sum PyProof.Rows.boot_sum (Zb (Ziq (Za 0) (z7 Zh) Zb2 (z7 Zh)) Zf))))
  (Ze (Zho 200 PassesOwn.never (ZC Zgb (Za 1) (Zm g.zc12)) (Zj (Zz 1 zc11.nd (Zs ZJ (Zs Zaq (Za 1) (Zm g.zc43)) (Zs Zek (Za 1) (Zm g.zc43))))))
  (Zj (Zv (Za 1)))))
theorem Zxu (D:Def0 K mg "sum_of" Zku ZoW) (g:Glb K mg) (zd11:MDef P w K mg base 1 "folded" Zc3):MDef P w K mg base 2 "sum_of" Zew:=
  ZX D zc12 1 1 rfl rfl fun f cdv A outer s H E hr=>(Zj (Zv (Zs Zdi (Zm g.zc12) (Zi zd11 hr (by decide) (Zb (Za 0) Zf)))))
theorem Zxs (D:Def0 K mg "has" Zks ZoU) (g:Glb K mg) :MDef P w K mg base 1 "has" Zfa:=
  ZX D zc14 2 2 rfl rfl fun f cdv A outer s H E hr=>(Zj (Zv (ZcE (ZC (Zfj hr.units) (Zs Zvk (Za 0) (Za 1)) Zh) Zh Zh)))
theorem Zxt (D:Def0 K mg "length" Zkt ZoV) (g:Glb K mg) (zd14:MDef P w K mg base 1 "has" Zfa):MDef P w K mg base 2 "length" Zcu:=
  ZX D zc13 1 2 rfl rfl fun f cdv A outer s H E hr=>(Ze (Zz 1 zc13.nd (ZA ZB (Za 0) (Zm g.zc8)))
  (Zj (Zv (Zs ZJ (Zs ZJ (ZY Zdm g.b_len PySem.boot_len (Zb (ZA ZB (Za 0) (Zm g.zc5)) Zf)) (Zi zd14 hr (by decide) (Zb (Za 1) (Zb (Zm g.zc35) Zf)))) (Zi zd14 hr (by decide) (Zb (Za 1) (Zb (Zm g.zc6) Zf)))))))
theorem Zxr (D:Def0 K mg "bears" Zkr ZoT) (g:Glb K mg) (zd14:MDef P w K mg base 1 "has" Zfa):MDef P w K mg base 2 "bears" Z4:=
  ZX D zc15 2 2 rfl rfl fun f cdv A outer s H E hr=>(Zj (Zv (zQ (Zam hr.units) (Zi zd14 hr (by decide) (Zb (ZA ZB (Za 0) (Zm g.zc8)) (Zb (Za 1) Zf))) Zh)))
theorem Zxo (D:Def0 K mg "byte_of_head" Zko ZoQ) (g:Glb K mg) :MDef P w K mg base 1 "byte_of_head" zP:=
  ZX D zc18 1 1 rfl rfl fun f cdv A outer s H E hr=>(Zj (Zv (Zs Zcv Zh (Zs Zek (Za 0) Zh))))
theorem Zxm (D:Def0 K mg "two_bytes" Zkm ZoO) (g:Glb K mg) :MDef P w K mg base 1 "two_bytes" zn:=
  ZX D zc20 1 1 rfl rfl fun f cdv A outer s H E hr=>(Zj (Zv (ZaF (Zb (Zs Zaq (Zs Zek (Za 0) Zh) Zh) (Zb (Zs Zaq (Za 0) Zh) Zf)))))
theorem Zxl (D:Def0 K mg "four_bytes" Zkl ZoN) (g:Glb K mg) (zd20:MDef P w K mg base 1 "two_bytes" zn):MDef P w K mg base 2 "four_bytes" Zbs:=
  ZX D zc21 1 1 rfl rfl fun f cdv A outer s H E hr=>(Zj (Zv (Zs ZJ (Zi zd20 hr (by decide) (Zb (Zs Zek (Za 0) Zh) Zf)) (Zi zd20 hr (by decide) (Zb (Za 0) Zf)))))
theorem Zxp (D:Def0 K mg "bytes_ahead_of_sum" Zkp ZoR) (g:Glb K mg) (zd18:MDef P w K mg base 1 "byte_of_head" zP) (zd21:MDef P w K mg base 2 "four_bytes" Zbs) (zd20:MDef P w K mg base 1 "two_bytes" zn):MDef P w K mg base 3 "bytes_ahead_of_sum" zO:=
  ZX D zc17 1 4 rfl rfl fun f cdv A outer s H E hr=>(Ze (Zz 1 zc17.nd (Zs ZJ (Zi zd20 hr (by decide) (Zb (ZA ZB (Za 0) (Zm g.zc34)) Zf)) (Zi zd20 hr (by decide) (Zb (ZA ZB (Za 0) (Zm g.zc9)) Zf))))
  (Ze (Zz 2 zc17.nd (Zs ZJ (Zi zd21 hr (by decide) (Zb (ZA ZB (Za 0) (Zm g.zc24)) Zf)) (Zi zd21 hr (by decide) (Zb (ZA ZB (Za 0) (Zm g.zc1)) Zf))))
  (Ze (Zz 3 zc17.nd (ZcE (ZC (Zam hr.units) (ZA ZB (Za 0) (Zm g.zc20)) Zh) (Zm g.zc33) (Zm g.zc19)))
  (Zj (Zv (Zs ZJ (Zs ZJ (Zs ZJ (Za 1) (Za 2)) (ZaF (Zb (Zi zd18 hr (by decide) (Zb (Za 3) Zf)) (Zb (ZA ZB (Za 0) (Zm g.zc8)) Zf)))) (Zi zd20 hr (by decide) (Zb (ZA ZB (Za 0) (Zm g.zc42)) Zf))))))))
theorem Zxn (D:Def0 K mg "bytes_of_most" Zkn ZoP) (g:Glb K mg) (zd20:MDef P w K mg base 1 "two_bytes" zn):MDef P w K mg base 2 "bytes_of_most" Za2:=
  ZX D zc19 1 1 rfl rfl fun f cdv A outer s H E hr=>(Zj (Zv (ZcE (ZC (Zam hr.units) (Za 0) Zh) (ZaF Zf) (Zs ZJ (ZaF (Zb Zh (Zb Zh Zf))) (Zi zd20 hr (by decide) (Zb (Za 0) Zf))))))
theorem Zxq (D:Def0 K mg "put" Zkq ZoS) (g:Glb K mg) (zd17:MDef P w K mg base 3 "bytes_ahead_of_sum" zO) (zd19:MDef P w K mg base 2 "bytes_of_most" Za2) (zd12:MDef P w K mg base 2 "sum_of" Zew) (zd20:MDef P w K mg base 1 "two_bytes" zn):MDef P w K mg base 4 "put" ZkO:=
  ZX D zc16 1 3 rfl rfl fun f cdv A outer s H E hr=>(Ze (Zz 1 zc16.nd (Zi zd17 hr (by decide) (Zb (Za 0) Zf)))
  (Ze (Zz 2 zc16.nd (Zs ZJ (Zs ZJ (ZaF (Zb Zh (Zb Zh Zf))) (Zi zd19 hr (by decide) (Zb (ZA ZB (Za 0) (Zm g.zc20)) Zf))) (ZbV ZqC g.b_list PyProof.Rows.boot_list (Zb (ZA ZB (Za 0) (Zm g.zc5)) Zf))))
  (Zj (Zv (Zs ZJ (Zs ZJ (Za 1) (Zi zd20 hr (by decide) (Zb (Zi zd12 hr (by decide) (Zb (Zs ZJ (Zs ZJ (Za 1) (ZaF (Zb Zh (Zb Zh Zf)))) (Za 2)) Zf)) Zf))) (Za 2))))))
theorem Zxj (D:Def0 K mg "head_of" Zkj ZoL) (g:Glb K mg) :MDef P w K mg base 1 "head_of" Zbr:=
  ZX D zc23 1 1 rfl rfl fun f cdv A outer s H E hr=>(Zj (Zv (Zs Zcv (Zs Zek (ZA ZB (Za 0) Zh) Zh) Zh)))
theorem Zxg (D:Def0 K mg "two_at" Zkg ZoI) (g:Glb K mg) :MDef P w K mg base 1 "two_at" Zae:=
  ZX D zc26 2 2 rfl rfl fun f cdv A outer s H E hr=>(Zj (Zv (Zs ZJ (Zs Zcv Zh (ZA ZB (Za 0) (Za 1))) (ZA ZB (Za 0) (Zs ZJ (Za 1) Zh)))))
theorem Zxi (D:Def0 K mg "is_right_long_head" Zki ZoK) (g:Glb K mg) (zd14:MDef P w K mg base 1 "has" Zfa) (zd26:MDef P w K mg base 1 "two_at" Zae):MDef P w K mg base 2 "is_right_long_head" zN:=
  ZX D zc24 1 1 rfl rfl fun f cdv A outer s H E hr=>(Zj (Zv (ZbO (zQ (Zam hr.units) (Zi zd14 hr (by decide) (Zb (ZA ZB (Za 0) Zh) (Zb (Zm g.zc35) Zf))) Zh) (ZbO (zQ (Zam hr.units) (ZA ZB (Za 0) Zh) Zh) (ZbO (zQ (Zam hr.units) (ZA ZB (Za 0) Zh) Zh) (ZcD (zQ ZlN (Zi zd26 hr (by decide) (Zb (Za 0) (Zb Zh Zf))) (Zm g.zc16))))))))
theorem Zxk (D:Def0 K mg "is_right" Zkk ZoM) (g:Glb K mg) (zd18:MDef P w K mg base 1 "byte_of_head" zP) (zd11:MDef P w K mg base 1 "folded" Zc3) (zd23:MDef P w K mg base 1 "head_of" Zbr) (zd24:MDef P w K mg base 2 "is_right_long_head" zN) (zd26:MDef P w K mg base 1 "two_at" Zae):MDef P w K mg base 3 "is_right" Zag:=
  ZX D zc22 1 1 rfl rfl fun f cdv A outer s H E hr=>(Zj (Zv (ZbO (zQ ZlN (ZY Zdm g.b_len PySem.boot_len (Zb (Za 0) Zf)) (Zm g.zc33)) (ZbO (zQ ZlM (ZA ZB (Za 0) Zh) (zm (Zb (Zi zd18 hr (by decide) (Zb (Zm g.zc33) Zf)) (Zb (Zi zd18 hr (by decide) (Zb (Zm g.zc19) Zf)) Zf))) (by with_unfolding_all rfl)) (ZbO (zQ Zhk (ZA ZB (Za 0) Zh) (Zm g.zc11)) (ZbO (ZeC Zhk Zhk Zh (Zs Zdi (ZY Zdm g.b_len PySem.boot_len (Zb (Za 0) Zf)) (Zi zd23 hr (by decide) (Zb (Za 0) Zf))) (Zm g.zc10)) (ZbO (zQ (Zam hr.units) (Zi zd26 hr (by decide) (Zb (Za 0) (Zb Zh Zf))) Zh) (ZbO (ZkY (zQ (Zam hr.units) (Zi zd23 hr (by decide) (Zb (Za 0) Zf)) (Zm g.zc33)) (ZcD (Zi zd24 hr (by decide) (Zb (Za 0) Zf)))) (ZcD (zQ (Zam hr.units) (Zi zd11 hr (by decide) (Zb (Za 0) Zf)) (Zm g.zc29)))))))))))
theorem Zxf (D:Def0 K mg "four_at" Zkf ZoH) (g:Glb K mg) (zd26:MDef P w K mg base 1 "two_at" Zae):MDef P w K mg base 2 "four_at" ZcT:=
  ZX D zc27 2 2 rfl rfl fun f cdv A outer s H E hr=>(Zj (Zv (Zs ZJ (Zs Zcv Zh (Zi zd26 hr (by decide) (Zb (Za 0) (Zb (Za 1) Zf)))) (Zi zd26 hr (by decide) (Zb (Za 0) (Zb (Zs ZJ (Za 1) Zh) Zf))))))
theorem Zxh (D:Def0 K mg "get" Zkh ZoJ) (g:Glb K mg) (zd27:MDef P w K mg base 2 "four_at" ZcT) (zd23:MDef P w K mg base 1 "head_of" Zbr) (zd22:MDef P w K mg base 3 "is_right" Zag) (zd26:MDef P w K mg base 1 "two_at" Zae):MDef P w K mg base 4 "get" Zij:=
  ZX D zc25 1 5 rfl rfl fun f cdv A outer s H E hr=>(Ze (ZI (Zbl (ZD (Zi zd22 hr (by decide) (Zb (Za 0) Zf)))) (Zj ZpU) Zy)
  (Ze (Zz 1 zc25.nd (Zi zd23 hr (by decide) (Zb (Za 0) Zf)))
  (Ze (Zz 2 zc25.nd (ZcE (ZC (Zam hr.units) (Za 1) (Zm g.zc19)) (Zi zd26 hr (by decide) (Zb (Za 0) (Zb Zh Zf))) Zh))
  (Ze (Zz 3 zc25.nd (zm (Zb (Zi zd26 hr (by decide) (Zb (Za 0) (Zb Zh Zf))) (Zb (Zi zd26 hr (by decide) (Zb (Za 0) (Zb Zh Zf))) Zf))))
  (Ze (Zz 4 zc25.nd (zm (Zb (Zi zd27 hr (by decide) (Zb (Za 0) (Zb Zh Zf))) (Zb (Zi zd27 hr (by decide) (Zb (Za 0) (Zb Zh Zf))) Zf))))
  (Zj (Zv (Zs ZJ (Zs ZJ (Za 3) (Za 4)) (zm (Zb (ZA ZB (Za 0) Zh) (Zb (Zi zd26 hr (by decide) (Zb (Za 0) (Zb Zh Zf))) (Zb (Za 2) (Zb (ZbV ZfT g.b_tuple PyProof.Rows.boot_tuple (Zb (Za3 (Za 0) (z7 (Za 1)) Zb2) Zf)) Zf)))))))))))))
theorem Zw9 (D:Def0 K mg "most_at_once" Zj9 ZoB) (g:Glb K mg) :MDef P w K mg base 1 "most_at_once" Zaf:=
  ZX D zc33 1 1 rfl rfl fun f cdv A outer s H E hr=>(Zj (Zv (ZY Zlq g.b_min PyProof.Rows.boot_min (Zb (Zo (Zu ⟨g.k_End,g.zn7⟩) (Za 0)) (Zb (Zm g.zc10) Zf)))))
theorem Zw8 (D:Def0 K mg "paid_syn" Zj8 ZoA) (g:Glb K mg) :MDef P w K mg base 1 "paid_syn" ZbL:=
  ZX D zc34 1 1 rfl rfl fun f cdv A outer s H E hr=>(Ze (Zw (Zu ⟨g.k_End,g.zn12⟩) (Za 0) ZaI)
  (Ze (ZI (ZC (Zam hr.units) (Zo (Zu ⟨g.k_End,g.zn16⟩) (Za 0)) (ZE g.zc37)) (Zj (Zv (zm (Zb (Zo (Zu ⟨g.k_End,g.zn9⟩) (Za 0)) (Zb (Zo (Zu ⟨g.k_End,g.zn17⟩) (Za 0)) (Zb (Zo (Zu ⟨g.k_End,g.zn5⟩) (Za 0)) (Zb Zh (Zb (Zm g.zc35) (Zb (Zm g.zc30) (Zb (Zm g.zc10) (Zb (zm Zf) Zf))))))))))) Zy)
  (Zj (Zv (zm (Zb (Zo (Zu ⟨g.k_End,g.zn9⟩) (Za 0)) (Zb (Zo (Zu ⟨g.k_End,g.zn17⟩) (Za 0)) (Zb (Zo (Zu ⟨g.k_End,g.zn5⟩) (Za 0)) (Zb (Zo (Zu ⟨g.k_End,g.zn14⟩) (Za 0)) (Zb (Zs ZJ (Zm g.zc35) (Zm g.zc0)) (Zb (Zm g.zc30) (Zb (Zm g.zc10) (Zb (zm Zf) Zf)))))))))))))
theorem Zw7 (D:Def0 K mg "segment_of" Zj7 Zoz) (g:Glb K mg) (zd9:MDef P w K mg base 2 "our_window" ZaY):MDef P w K mg base 3 "segment_of" zA:=
  ZX D zc35 4 4 rfl rfl fun f cdv A outer s H E hr=>(Zj (Zv (zm (Zb (Zo (Zu ⟨g.k_End,g.zn9⟩) (Za 0)) (Zb (Zo (Zu ⟨g.k_End,g.zn17⟩) (Za 0)) (Zb (Za 1) (Zb (Zo (Zu ⟨g.k_End,g.zn14⟩) (Za 0)) (Zb (Zs ZJ (Za 2) (Zm g.zc0)) (Zb (Zi zd9 hr (by decide) (Zb (Za 0) Zf)) (Zb Zh (Zb (ZbV ZfT g.b_tuple PyProof.Rows.boot_tuple (Zb (Za 3) Zf)) Zf)))))))))))
theorem Zxa (D:Def0 K mg "again" Zka ZoC) (g:Glb K mg) (zd33:MDef P w K mg base 1 "most_at_once" Zaf) (zd5:MDef P w K mg base 1 "offset" zB) (zd34:MDef P w K mg base 1 "paid_syn" ZbL) (zd35:MDef P w K mg base 3 "segment_of" zA):MDef P w K mg base 4 "again" Zdg:=
  ZX D zc32 2 3 rfl rfl fun f cdv A outer s H E hr=>(Ze (ZI (ZC (Zam hr.units) (Zo (Zu ⟨g.k_End,g.zn20⟩) (Za 0)) (Zm g.zc21)) (Ze (Zw (Zu ⟨g.k_End,g.zn16⟩) (Za 0) (ZE g.zc2))
    (Ze (Zw (Zu ⟨g.k_End,g.zn4⟩) (Za 0) (ZE g.zc38))
    (Zj (Zv ZaM)))) Zy)
  (Ze (Zw (Zu ⟨g.k_End,g.zn20⟩) (Za 0) (Zs ZJ (Zo (Zu ⟨g.k_End,g.zn20⟩) (Za 0)) Zh))
  (Ze (Zw (Zu ⟨g.k_End,g.zn22⟩) (Za 0) (ZY Zlq g.b_min PyProof.Rows.boot_min (Zb (Zs Zcv Zh (Zo (Zu ⟨g.k_End,g.zn22⟩) (Za 0))) (Zb (Zm g.zc18) Zf))))
  (Ze (Zw (Zu ⟨g.k_End,g.zn15⟩) (Za 0) (Za 1))
  (Ze (ZI (ZC ZlM (Zo (Zu ⟨g.k_End,g.zn16⟩) (Za 0)) (zm (Zb (ZE g.zc37) (Zb (ZE g.zc36) Zf))) (by with_unfolding_all rfl)) (Zj (Zv (Zi zd34 hr (by decide) (Zb (Za 0) Zf)))) Zy)
  (Ze (Zz 2 zc32.nd (Za3 (Zo (Zu ⟨g.k_Pile,g.zn25⟩) (Zo (Zu ⟨g.k_End,g.zn24⟩) (Za 0))) Zb2 (z7 (ZY Zlq g.b_min PyProof.Rows.boot_min (Zb (Zi zd5 hr (by decide) (Zb (Zo (Zu ⟨g.k_End,g.zn8⟩) (Za 0)) (Zb (Zo (Zu ⟨g.k_End,g.zn21⟩) (Za 0)) Zf))) (Zb (Zi zd33 hr (by decide) (Zb (Za 0) Zf)) Zf))))))
  (Zj (Zv (Zi zd35 hr (by decide) (Zb (Za 0) (Zb (Zo (Zu ⟨g.k_End,g.zn21⟩) (Za 0)) (Zb (ZcE (ZC Zgb (ZY Zdm g.b_len PySem.boot_len (Zb (Za 2) Zf)) Zh) Zh (Zm g.zc6)) (Zb (Za 2) Zf)))))))))))))
theorem ZwW (D:Def0 K mg "going_as_answer" ZjW Zoo) (g:Glb K mg) (zd35:MDef P w K mg base 3 "segment_of" zA):MDef P w K mg base 4 "going_as_answer" zU:=
  ZX D ZxY 1 1 rfl rfl fun f cdv A outer s H E hr=>(Ze (ZI (Zbl (ZD (Zo (Zu ⟨g.k_End,g.zn11⟩) (Za 0)))) (Zj (Zv ZaM)) Zy)
  (Ze (Zw (Zu ⟨g.k_End,g.zn11⟩) (Za 0) ZaI)
  (Zj (Zv (Zi zd35 hr (by decide) (Zb (Za 0) (Zb (Zo (Zu ⟨g.k_End,g.zn8⟩) (Za 0)) (Zb Zh (Zb (ZaF Zf) Zf)))))))))
theorem Zw2 (D:Def0 K mg "unsent" Zj2 Zou) (g:Glb K mg) (zd5:MDef P w K mg base 1 "offset" zB):MDef P w K mg base 2 "unsent" ZbE:=
  ZX D zc40 1 1 rfl rfl fun f cdv A outer s H E hr=>(Zj (Zv (Zi zd5 hr (by decide) (Zb (Zo (Zu ⟨g.k_End,g.zn0⟩) (Za 0)) (Zb (Zo (Zu ⟨g.k_End,g.zn8⟩) (Za 0)) Zf)))))
theorem Zw3 (D:Def0 K mg "has_new_data" Zj3 Zov) (g:Glb K mg) (zd40:MDef P w K mg base 2 "unsent" ZbE):MDef P w K mg base 3 "has_new_data" Zah:=
  ZX D zc39 1 1 rfl rfl fun f cdv A outer s H E hr=>(Zj (Zv (ZbO (zQ ZlM (Zo (Zu ⟨g.k_End,g.zn16⟩) (Za 0)) (zm (Zb (ZE g.zc25) (Zb (ZE g.zc40) (Zb (ZE g.zc3) (Zb (ZE g.zc4) (Zb (ZE g.zc14) Zf)))))) (by with_unfolding_all rfl)) (ZcD (zQ Zgb (Zi zd40 hr (by decide) (Zb (Za 0) Zf)) Zh)))))
theorem Zw1 (D:Def0 K mg "has_new_fin" Zj1 Zot) (g:Glb K mg) (zd40:MDef P w K mg base 2 "unsent" ZbE):MDef P w K mg base 3 "has_new_fin" ZbF:=
  ZX D zc41 1 1 rfl rfl fun f cdv A outer s H E hr=>(Zj (Zv (ZbO (zQ ZlM (Zo (Zu ⟨g.k_End,g.zn16⟩) (Za 0)) (zm (Zb (ZE g.zc40) (Zb (ZE g.zc4) (Zb (ZE g.zc14) Zf)))) (by with_unfolding_all rfl)) (ZcD (zQ (Zam hr.units) (Zi zd40 hr (by decide) (Zb (Za 0) Zf)) Zh)))))
theorem Zw4 (D:Def0 K mg "has_more" Zj4 Zow) (g:Glb K mg) (zd39:MDef P w K mg base 3 "has_new_data" Zah) (zd41:MDef P w K mg base 3 "has_new_fin" ZbF):MDef P w K mg base 4 "has_more" ZbN:=
  ZX D zc38 1 1 rfl rfl fun f cdv A outer s H E hr=>(Zj (Zv (ZkY (Zi zd39 hr (by decide) (Zb (Za 0) Zf)) (ZcD (Zi zd41 hr (by decide) (Zb (Za 0) Zf))))))
theorem ZwZ (D:Def0 K mg "new_data" ZjZ Zor) (g:Glb K mg) (zd33:MDef P w K mg base 1 "most_at_once" Zaf) (zd5:MDef P w K mg base 1 "offset" zB) (zd4:MDef P w K mg base 1 "plus" zq) (zd35:MDef P w K mg base 3 "segment_of" zA) (zd40:MDef P w K mg base 2 "unsent" ZbE):MDef P w K mg base 4 "new_data" Zch:=
  ZX D zc43 2 5 rfl rfl fun f cdv A outer s H E hr=>(Ze (Zz 2 zc43.nd (Zo (Zu ⟨g.k_End,g.zn8⟩) (Za 0)))
  (Ze (Zz 3 zc43.nd (ZY Zlq g.b_min PyProof.Rows.boot_min (Zb (Zi zd33 hr (by decide) (Zb (Za 0) Zf)) (Zb (Zi zd40 hr (by decide) (Zb (Za 0) Zf)) (Zb (Za 1) Zf)))))
  (Ze (Zz 4 zc43.nd (Zi zd5 hr (by decide) (Zb (Za 2) (Zb (Zo (Zu ⟨g.k_End,g.zn21⟩) (Za 0)) Zf))))
  (Ze (Zw (Zu ⟨g.k_End,g.zn8⟩) (Za 0) (Zi zd4 hr (by decide) (Zb (Za 2) (Zb (Za 3) Zf))))
  (Zj (Zv (Zi zd35 hr (by decide) (Zb (Za 0) (Zb (Za 2) (Zb (ZcE (ZC (Zam hr.units) (Zi zd40 hr (by decide) (Zb (Za 0) Zf)) Zh) (Zm g.zc26) Zh) (Zb (Za3 (Zo (Zu ⟨g.k_Pile,g.zn25⟩) (Zo (Zu ⟨g.k_End,g.zn24⟩) (Za 0))) (z7 (Za 4)) (z7 (Zs ZJ (Za 4) (Za 3)))) Zf)))))))))))
theorem ZwY (D:Def0 K mg "new_fin" ZjY Zoq) (g:Glb K mg) (zd4:MDef P w K mg base 1 "plus" zq) (zd35:MDef P w K mg base 3 "segment_of" zA):MDef P w K mg base 4 "new_fin" ZdH:=
  ZX D zc44 1 2 rfl rfl fun f cdv A outer s H E hr=>(Ze (Zz 1 zc44.nd (Zo (Zu ⟨g.k_End,g.zn8⟩) (Za 0)))
  (Ze (Zw (Zu ⟨g.k_End,g.zn8⟩) (Za 0) (Zi zd4 hr (by decide) (Zb (Za 1) (Zb Zh Zf))))
  (Zj (Zv (Zi zd35 hr (by decide) (Zb (Za 0) (Zb (Za 1) (Zb (Zm g.zc6) (Zb (ZaF Zf) Zf)))))))))
theorem Zw0 (D:Def0 K mg "new_piece" Zj0 Zos) (g:Glb K mg) (zd39:MDef P w K mg base 3 "has_new_data" Zah) (zd43:MDef P w K mg base 4 "new_data" Zch) (zd44:MDef P w K mg base 4 "new_fin" ZdH):MDef P w K mg base 5 "new_piece" ZaU:=
  ZX D zc42 2 2 rfl rfl fun f cdv A outer s H E hr=>(Ze (Zw (Zu ⟨g.k_End,g.zn13⟩) (Za 0) ZaI)
  (Zj (Zv (ZcE (ZD (Zi zd39 hr (by decide) (Zb (Za 0) Zf))) (Zi zd43 hr (by decide) (Zb (Za 0) (Zb (Za 1) Zf))) (Zi zd44 hr (by decide) (Zb (Za 0) Zf))))))
theorem Zw5 (D:Def0 K mg "new_syn" Zj5 Zox) (g:Glb K mg) (zd34:MDef P w K mg base 1 "paid_syn" ZbL) (zd4:MDef P w K mg base 1 "plus" zq) (zd8:MDef P w K mg base 1 "start_timer" za):MDef P w K mg base 2 "new_syn" ZcS:=
  ZX D zc37 2 2 rfl rfl fun f cdv A outer s H E hr=>(Ze (ZI (ZC (Zam hr.units) (Zo (Zu ⟨g.k_End,g.zn8⟩) (Za 0)) (Zo (Zu ⟨g.k_End,g.zn21⟩) (Za 0))) (Zj (ZT (Zi zd8 hr (by decide) (Zb (Za 0) (Zb (Za 1) Zf))))) Zy)
  (Ze (Zw (Zu ⟨g.k_End,g.zn8⟩) (Za 0) (Zi zd4 hr (by decide) (Zb (Zo (Zu ⟨g.k_End,g.zn5⟩) (Za 0)) (Zb Zh Zf))))
  (Zj (Zv (Zi zd34 hr (by decide) (Zb (Za 0) Zf))))))
theorem Zw6 (D:Def0 K mg "going_as_new" Zj6 Zoy) (g:Glb K mg) (zd38:MDef P w K mg base 4 "has_more" ZbN) (zd42:MDef P w K mg base 5 "new_piece" ZaU) (zd37:MDef P w K mg base 2 "new_syn" ZcS) (zd5:MDef P w K mg base 1 "offset" zB) (zd8:MDef P w K mg base 1 "start_timer" za):MDef P w K mg base 6 "going_as_new" Z8:=
  ZX D zc36 2 3 rfl rfl fun f cdv A outer s H E hr=>(Ze (ZI (ZC ZlM (Zo (Zu ⟨g.k_End,g.zn16⟩) (Za 0)) (zm (Zb (ZE g.zc37) (Zb (ZE g.zc36) Zf))) (by with_unfolding_all rfl)) (Zj (Zv (ZcE (MW.mt (Zcd (ZC (Zam hr.units) (Zo (Zu ⟨g.k_End,g.zn8⟩) (Za 0)) (Zo (Zu ⟨g.k_End,g.zn5⟩) (Za 0))) (zV (ZD (Zo (Zu ⟨g.k_End,g.zn12⟩) (Za 0)))))) (Zi zd37 hr (by decide) (Zb (Za 0) (Zb (Za 1) Zf))) ZaM))) Zy)
  (Ze (Zz 2 zc36.nd (Zs Zdi (Zo (Zu ⟨g.k_End,g.zn23⟩) (Za 0)) (Zi zd5 hr (by decide) (Zb (Zo (Zu ⟨g.k_End,g.zn8⟩) (Za 0)) (Zb (Zo (Zu ⟨g.k_End,g.zn21⟩) (Za 0)) Zf)))))
  (Ze (ZI (MW.mt (Zcd (ZC Zhk (Za 2) Zh) (zV (Zbl (ZD (Zi zd38 hr (by decide) (Zb (Za 0) Zf))))))) (Zj (Zv ZaM)) Zy)
  (Ze (ZI (ZC (Zam hr.units) (Zo (Zu ⟨g.k_End,g.zn8⟩) (Za 0)) (Zo (Zu ⟨g.k_End,g.zn21⟩) (Za 0))) (Zj (ZT (Zi zd8 hr (by decide) (Zb (Za 0) (Zb (Za 1) Zf))))) Zy)
  (Ze (Zw (Zu ⟨g.k_End,g.zn11⟩) (Za 0) ZaI)
  (Zj (Zv (Zi zd42 hr (by decide) (Zb (Za 0) (Zb (Za 2) Zf))))))))))
theorem Zxb (D:Def0 K mg "is_due" Zkb ZoD) (g:Glb K mg) :MDef P w K mg base 1 "is_due" Zc2:=
  ZX D zc31 2 2 rfl rfl fun f cdv A outer s H E hr=>(Zj (Zv (zQ ZlN (Zs Zdi (Za 1) (Zo (Zu ⟨g.k_End,g.zn15⟩) (Za 0))) (Zo (Zu ⟨g.k_End,g.zn22⟩) (Za 0)))))
theorem ZwX (D:Def0 K mg "going_as_probe" ZjX Zop) (g:Glb K mg) (zd38:MDef P w K mg base 4 "has_more" ZbN) (zd31:MDef P w K mg base 1 "is_due" Zc2) (zd42:MDef P w K mg base 5 "new_piece" ZaU) (zd8:MDef P w K mg base 1 "start_timer" za):MDef P w K mg base 6 "going_as_probe" zb:=
  ZX D ZxZ 2 2 rfl rfl fun f cdv A outer s H E hr=>(Ze (ZI (MW.mt (Zcd (ZC (Zfj hr.units) (Zo (Zu ⟨g.k_End,g.zn8⟩) (Za 0)) (Zo (Zu ⟨g.k_End,g.zn21⟩) (Za 0))) (Zcd (ZC (Zfj hr.units) (Zo (Zu ⟨g.k_End,g.zn23⟩) (Za 0)) Zh) (zV (Zbl (ZD (Zi zd38 hr (by decide) (Zb (Za 0) Zf)))))))) (Ze (Zw (Zu ⟨g.k_End,g.zn13⟩) (Za 0) ZaI)
    (Zj (Zv ZaM))) Zy)
  (Ze (ZI (Zbl (ZD (Zo (Zu ⟨g.k_End,g.zn13⟩) (Za 0)))) (Ze (Zw (Zu ⟨g.k_End,g.zn13⟩) (Za 0) ZaI)
    (Zj (ZT (Zi zd8 hr (by decide) (Zb (Za 0) (Zb (Za 1) Zf)))))) Zy)
  (Ze (ZI (Zbl (ZD (Zi zd31 hr (by decide) (Zb (Za 0) (Zb (Za 1) Zf))))) (Zj (Zv ZaM)) Zy)
  (Ze (Zw (Zu ⟨g.k_End,g.zn15⟩) (Za 0) (Za 1))
  (Zj (Zv (Zi zd42 hr (by decide) (Zb (Za 0) (Zb Zh Zf)))))))))
theorem Zxc (D:Def0 K mg "paid_reset" Zkc ZoE) (g:Glb K mg) :MDef P w K mg base 1 "paid_reset" ZcO:=
  ZX D zc30 1 2 rfl rfl fun f cdv A outer s H E hr=>(Ze (Zz 1 zc30.nd (Zo (Zu ⟨g.k_End,g.zn10⟩) (Za 0)))
  (Ze (Zw (Zu ⟨g.k_End,g.zn10⟩) (Za 0) ZaM)
  (Zj (Zv (Za 1)))))
theorem Zxd (D:Def0 K mg "going" Zkd ZoF) (g:Glb K mg) (zd32:MDef P w K mg base 4 "again" Zdg) (zd46:MDef P w K mg base 4 "going_as_answer" zU) (zd36:MDef P w K mg base 6 "going_as_new" Z8) (zd45:MDef P w K mg base 6 "going_as_probe" zb) (zd31:MDef P w K mg base 1 "is_due" Zc2) (zd30:MDef P w K mg base 1 "paid_reset" ZcO):MDef P w K mg base 7 "going" Zd0:=
  ZX D zc29 2 3 rfl rfl fun f cdv A outer s H E hr=>(Ze (ZI (ZC Zrz (Zo (Zu ⟨g.k_End,g.zn10⟩) (Za 0)) ZaM) (Zj (Zv (Zi zd30 hr (by decide) (Zb (Za 0) Zf)))) Zy)
  (Ze (ZI (MW.mt (Zb1 (ZC (Zam hr.units) (Zo (Zu ⟨g.k_End,g.zn16⟩) (Za 0)) (ZE g.zc39)) (zX (ZC ZlN (Zs Zdi (Za 1) (Zo (Zu ⟨g.k_End,g.zn15⟩) (Za 0))) (Zm g.zc15))))) (Zj (Zw (Zu ⟨g.k_End,g.zn16⟩) (Za 0) (ZE g.zc2))) Zy)
  (Ze (ZI (ZC ZlM (Zo (Zu ⟨g.k_End,g.zn16⟩) (Za 0)) (zm (Zb (ZE g.zc2) (Zb (ZE g.zc17) Zf))) (by with_unfolding_all rfl)) (Zj (Zv ZaM)) Zy)
  (Ze (ZI (MW.mt (Zb1 (ZC (Zfj hr.units) (Zo (Zu ⟨g.k_End,g.zn8⟩) (Za 0)) (Zo (Zu ⟨g.k_End,g.zn21⟩) (Za 0))) (zX (ZD (Zi zd31 hr (by decide) (Zb (Za 0) (Zb (Za 1) Zf))))))) (Zj (Zv (Zi zd32 hr (by decide) (Zb (Za 0) (Zb (Za 1) Zf))))) Zy)
  (Ze (Zz 2 zc29.nd (Zi zd36 hr (by decide) (Zb (Za 0) (Zb (Za 1) Zf))))
  (Ze (ZI (ZC ZrA (Za 2) ZaM) (Zj (Zz 2 zc29.nd (Zi zd45 hr (by decide) (Zb (Za 0) (Zb (Za 1) Zf))))) Zy)
  (Ze (ZI (ZC ZrA (Za 2) ZaM) (Zj (Zz 2 zc29.nd (Zi zd46 hr (by decide) (Zb (Za 0) Zf)))) Zy)
  (Zj (Zv (Za 2))))))))))
theorem Zxe (D:Def0 K mg "send" Zke ZoG) (g:Glb K mg) (zd29:MDef P w K mg base 7 "going" Zd0) (zd16:MDef P w K mg base 4 "put" ZkO):MDef P w K mg base 8 "send" ZcC:=
  ZX D zc28 2 3 rfl rfl fun f cdv A outer s H E hr=>(Ze (Zz 2 zc28.nd (Zi zd29 hr (by decide) (Zb (Za 0) (Zb (Za 1) Zf))))
  (Zj (Zv (ZcE (ZC ZrA (Za 2) ZaM) (ZaF Zf) (Zi zd16 hr (by decide) (Zb (Za 2) Zf))))))
theorem ZwV (D:Def0 K mg "reset_for" ZjV Zon) (g:Glb K mg) (zd15:MDef P w K mg base 2 "bears" Z4) (zd13:MDef P w K mg base 2 "length" Zcu) (zd4:MDef P w K mg base 1 "plus" zq):MDef P w K mg base 3 "reset_for" ZbS:=
  ZX D zc47 1 2 rfl rfl fun f cdv A outer s H E hr=>(Ze (Zz 1 zc47.nd (zm (Zb (ZA ZB (Za 0) (Zm g.zc9)) (Zb (ZA ZB (Za 0) (Zm g.zc34)) Zf))))
  (Ze (ZI (ZD (Zi zd15 hr (by decide) (Zb (Za 0) (Zb (Zm g.zc0) Zf)))) (Zj (Zv (Zs ZJ (Za 1) (zm (Zb (ZA ZB (Za 0) (Zm g.zc1)) (Zb Zh (Zb (Zm g.zc32) (Zb Zh (Zb Zh (Zb (zm Zf) Zf)))))))))) Zy)
  (Zj (Zv (Zs ZJ (Za 1) (zm (Zb Zh (Zb (Zi zd4 hr (by decide) (Zb (ZA ZB (Za 0) (Zm g.zc24)) (Zb (Zi zd13 hr (by decide) (Zb (Za 0) Zf)) Zf))) (Zb (Zs ZJ (Zm g.zc32) (Zm g.zc0)) (Zb Zh (Zb Zh (Zb (zm Zf) Zf))))))))))))
theorem ZwU (D:Def0 K mg "owe_reset_for" ZjU Zom) (g:Glb K mg) (zd15:MDef P w K mg base 2 "bears" Z4) (zd47:MDef P w K mg base 3 "reset_for" ZbS):MDef P w K mg base 4 "owe_reset_for" ZZ:=
  ZX D ZxX 2 2 rfl rfl fun f cdv A outer s H E hr=>(Zj (ZI (Zbl (ZD (Zi zd15 hr (by decide) (Zb (Za 1) (Zb (Zm g.zc32) Zf))))) (Zj (Zw (Zu ⟨g.k_End,g.zn10⟩) (Za 0) (Zi zd47 hr (by decide) (Zb (Za 1) Zf)))) Zy))
theorem ZwT (D:Def0 K mg "come_to_closed" ZjT Zol) (g:Glb K mg) (zd48:MDef P w K mg base 4 "owe_reset_for" ZZ):MDef P w K mg base 5 "come_to_closed" ZaL:=
  ZX D ZxW 2 2 rfl rfl fun f cdv A outer s H E hr=>(Zj (ZT (Zi zd48 hr (by decide) (Zb (Za 0) (Zb (Za 1) Zf)))))
theorem ZwR (D:Def0 K mg "hear_syn" ZjR Zoj) (g:Glb K mg) (zd15:MDef P w K mg base 2 "bears" Z4) (zd4:MDef P w K mg base 1 "plus" zq):MDef P w K mg base 3 "hear_syn" ZbM:=
  ZX D ZxU 2 2 rfl rfl fun f cdv A outer s H E hr=>(Ze (Zw (Zu ⟨g.k_End,g.zn14⟩) (Za 0) (Zi zd4 hr (by decide) (Zb (ZA ZB (Za 1) (Zm g.zc24)) (Zb Zh Zf))))
  (Ze (Zw (Zu ⟨g.k_End,g.zn23⟩) (Za 0) (ZA ZB (Za 1) (Zm g.zc42)))
  (Ze (Zw (Zu ⟨g.k_End,g.zn18⟩) (Za 0) (ZA ZB (Za 1) (Zm g.zc24)))
  (Ze (Zw (Zu ⟨g.k_End,g.zn19⟩) (Za 0) (ZcE (ZD (Zi zd15 hr (by decide) (Zb (Za 1) (Zb (Zm g.zc0) Zf)))) (ZA ZB (Za 1) (Zm g.zc1)) Zh))
  (Zj (ZI (ZC (Zfj hr.units) (ZA ZB (Za 1) (Zm g.zc20)) Zh) (Zj (Zw (Zu ⟨g.k_End,g.zn7⟩) (Za 0) (ZA ZB (Za 1) (Zm g.zc20)))) Zy))))))
theorem ZwS (D:Def0 K mg "come_to_listen" ZjS Zok) (g:Glb K mg) (zd15:MDef P w K mg base 2 "bears" Z4) (zd51:MDef P w K mg base 3 "hear_syn" ZbM) (zd48:MDef P w K mg base 4 "owe_reset_for" ZZ):MDef P w K mg base 5 "come_to_listen" zx:=
  ZX D ZxV 2 2 rfl rfl fun f cdv A outer s H E hr=>(Ze (ZI (ZD (Zi zd15 hr (by decide) (Zb (Za 1) (Zb (Zm g.zc32) Zf)))) (Zj Zd1) Zy)
  (Zj (ZI (ZD (Zi zd15 hr (by decide) (Zb (Za 1) (Zb (Zm g.zc0) Zf)))) (Zj (ZT (Zi zd48 hr (by decide) (Zb (Za 0) (Zb (Za 1) Zf))))) (Zj (ZI (ZD (Zi zd15 hr (by decide) (Zb (Za 1) (Zb (Zm g.zc35) Zf)))) (Ze (Zw (Zu ⟨g.k_End,g.zn17⟩) (Za 0) (ZA ZB (Za 1) (Zm g.zc34)))
      (Ze (ZT (Zi zd51 hr (by decide) (Zb (Za 0) (Zb (Za 1) Zf))))
      (Zj (Zw (Zu ⟨g.k_End,g.zn16⟩) (Za 0) (ZE g.zc36))))) Zy)))))
theorem ZwP (D:Def0 K mg "answers_syn" ZjP Zoh) (g:Glb K mg) (zd4:MDef P w K mg base 1 "plus" zq):MDef P w K mg base 2 "answers_syn" ZbG:=
  ZX D ZxS 2 2 rfl rfl fun f cdv A outer s H E hr=>(Zj (Zv (ZbO (zQ (Zfj hr.units) (Zo (Zu ⟨g.k_End,g.zn8⟩) (Za 0)) (Zo (Zu ⟨g.k_End,g.zn5⟩) (Za 0))) (ZcD (zQ (Zam hr.units) (ZA ZB (Za 1) (Zm g.zc1)) (Zi zd4 hr (by decide) (Zb (Zo (Zu ⟨g.k_End,g.zn5⟩) (Za 0)) (Zb Zh Zf))))))))
theorem ZwN (D:Def0 K mg "go_on_from_syn_sent" ZjN Zof) (g:Glb K mg) (zd15:MDef P w K mg base 2 "bears" Z4) (zd8:MDef P w K mg base 1 "start_timer" za):MDef P w K mg base 3 "go_on_from_syn_sent" zH:=
  ZX D ZxQ 3 3 rfl rfl fun f cdv A outer s H E hr=>(Zj (ZI (ZD (Zi zd15 hr (by decide) (Zb (Za 1) (Zb (Zm g.zc0) Zf)))) (Ze (Zw (Zu ⟨g.k_End,g.zn21⟩) (Za 0) (ZA ZB (Za 1) (Zm g.zc1)))
    (Ze (Zw (Zu ⟨g.k_End,g.zn16⟩) (Za 0) (ZE g.zc25))
    (Zj (Zw (Zu ⟨g.k_End,g.zn11⟩) (Za 0) ZaI)))) (Ze (Zw (Zu ⟨g.k_End,g.zn16⟩) (Za 0) (ZE g.zc36))
    (Ze (ZT (Zi zd8 hr (by decide) (Zb (Za 0) (Zb (Za 2) Zf))))
    (Zj (Zw (Zu ⟨g.k_End,g.zn12⟩) (Za 0) ZaI))))))
theorem ZwO (D:Def0 K mg "refuse" ZjO Zog) (g:Glb K mg) (zd15:MDef P w K mg base 2 "bears" Z4):MDef P w K mg base 3 "refuse" Zex:=
  ZX D ZxR 2 2 rfl rfl fun f cdv A outer s H E hr=>(Zj (ZI (ZD (Zi zd15 hr (by decide) (Zb (Za 1) (Zb (Zm g.zc0) Zf)))) (Ze (Zw (Zu ⟨g.k_End,g.zn16⟩) (Za 0) (ZE g.zc2))
    (Zj (Zw (Zu ⟨g.k_End,g.zn4⟩) (Za 0) (ZE g.zc27)))) Zy))
theorem ZwQ (D:Def0 K mg "come_to_syn_sent" ZjQ Zoi) (g:Glb K mg) (zd53:MDef P w K mg base 2 "answers_syn" ZbG) (zd15:MDef P w K mg base 2 "bears" Z4) (zd55:MDef P w K mg base 3 "go_on_from_syn_sent" zH) (zd51:MDef P w K mg base 3 "hear_syn" ZbM) (zd48:MDef P w K mg base 4 "owe_reset_for" ZZ) (zd54:MDef P w K mg base 3 "refuse" Zex):MDef P w K mg base 5 "come_to_syn_sent" ZS:=
  ZX D ZxT 3 3 rfl rfl fun f cdv A outer s H E hr=>(Zj (ZI (MW.mt (Zb1 (ZD (Zi zd15 hr (by decide) (Zb (Za 1) (Zb (Zm g.zc0) Zf)))) (zX (Zbl (ZD (Zi zd53 hr (by decide) (Zb (Za 0) (Zb (Za 1) Zf)))))))) (Zj (ZT (Zi zd48 hr (by decide) (Zb (Za 0) (Zb (Za 1) Zf))))) (Zj (ZI (ZD (Zi zd15 hr (by decide) (Zb (Za 1) (Zb (Zm g.zc32) Zf)))) (Zj (ZT (Zi zd54 hr (by decide) (Zb (Za 0) (Zb (Za 1) Zf))))) (Zj (ZI (ZD (Zi zd15 hr (by decide) (Zb (Za 1) (Zb (Zm g.zc35) Zf)))) (Ze (ZT (Zi zd51 hr (by decide) (Zb (Za 0) (Zb (Za 1) Zf))))
        (Zj (ZT (Zi zd55 hr (by decide) (Zb (Za 0) (Zb (Za 1) (Zb (Za 2) Zf))))))) Zy))))))
theorem ZwI (D:Def0 K mg "is_in_window" ZjI Zoa) (g:Glb K mg) (zd5:MDef P w K mg base 1 "offset" zB) (zd9:MDef P w K mg base 2 "our_window" ZaY):MDef P w K mg base 3 "is_in_window" zo:=
  ZX D ZxN 2 2 rfl rfl fun f cdv A outer s H E hr=>(Zj (Zv (ZeC Zhk ZkS Zh (Zi zd5 hr (by decide) (Zb (Za 1) (Zb (Zo (Zu ⟨g.k_End,g.zn14⟩) (Za 0)) Zf))) (Zi zd9 hr (by decide) (Zb (Za 0) Zf)))))
theorem ZwJ (D:Def0 K mg "fits" ZjJ Zob) (g:Glb K mg) (zd60:MDef P w K mg base 3 "is_in_window" zo) (zd13:MDef P w K mg base 2 "length" Zcu) (zd5:MDef P w K mg base 1 "offset" zB) (zd4:MDef P w K mg base 1 "plus" zq):MDef P w K mg base 4 "fits" Zga:=
  ZX D zc59 2 4 rfl rfl fun f cdv A outer s H E hr=>(Ze (Zz 2 zc59.nd (Zi zd13 hr (by decide) (Zb (Za 1) Zf)))
  (Ze (ZI (ZC (Zam hr.units) (Za 2) Zh) (Zj (Zv (ZeC Zhk Zhk Zh (Zi zd5 hr (by decide) (Zb (ZA ZB (Za 1) (Zm g.zc24)) (Zb (Zo (Zu ⟨g.k_End,g.zn14⟩) (Za 0)) Zf))) (Zm g.zc30)))) Zy)
  (Ze (Zz 3 zc59.nd (Zi zd4 hr (by decide) (Zb (ZA ZB (Za 1) (Zm g.zc24)) (Zb (Zs Zdi (Za 2) Zh) Zf))))
  (Zj (Zv (ZkY (Zi zd60 hr (by decide) (Zb (Za 0) (Zb (ZA ZB (Za 1) (Zm g.zc24)) Zf))) (ZcD (Zi zd60 hr (by decide) (Zb (Za 0) (Zb (Za 3) Zf))))))))))
theorem ZwA (D:Def0 K mg "end_what_is_acknowledged" ZjA Zn2) (g:Glb K mg) (zd10:MDef P w K mg base 3 "has_sent_fin" Zbi):MDef P w K mg base 4 "end_what_is_acknowledged" ZR:=
  ZX D ZxG 2 2 rfl rfl fun f cdv A outer s H E hr=>(Ze (ZI (MW.mt (Zcd (Zbl (ZD (Zi zd10 hr (by decide) (Zb (Za 0) Zf)))) (zV (ZC (Zfj hr.units) (Zo (Zu ⟨g.k_End,g.zn21⟩) (Za 0)) (Zo (Zu ⟨g.k_End,g.zn8⟩) (Za 0)))))) (Zj Zd1) Zy)
  (Zj (ZI (ZC (Zam hr.units) (Zo (Zu ⟨g.k_End,g.zn16⟩) (Za 0)) (ZE g.zc40)) (Zj (Zw (Zu ⟨g.k_End,g.zn16⟩) (Za 0) (ZE g.zc41))) (Zj (ZI (ZC (Zam hr.units) (Zo (Zu ⟨g.k_End,g.zn16⟩) (Za 0)) (ZE g.zc4)) (Ze (Zw (Zu ⟨g.k_End,g.zn16⟩) (Za 0) (ZE g.zc39))
      (Zj (Zw (Zu ⟨g.k_End,g.zn15⟩) (Za 0) (Za 1)))) (Zj (ZI (ZC (Zam hr.units) (Zo (Zu ⟨g.k_End,g.zn16⟩) (Za 0)) (ZE g.zc14)) (Zj (Zw (Zu ⟨g.k_End,g.zn16⟩) (Za 0) (ZE g.zc2))) Zy)))))))
theorem ZwD (D:Def0 K mg "take_window" ZjD Zn5) (g:Glb K mg) :MDef P w K mg base 1 "take_window" ZaD:=
  ZX D ZxI 2 2 rfl rfl fun f cdv A outer s H E hr=>(Ze (Zw (Zu ⟨g.k_End,g.zn23⟩) (Za 0) (ZA ZB (Za 1) (Zm g.zc42)))
  (Ze (Zw (Zu ⟨g.k_End,g.zn18⟩) (Za 0) (ZA ZB (Za 1) (Zm g.zc24)))
  (Zj (Zw (Zu ⟨g.k_End,g.zn19⟩) (Za 0) (ZA ZB (Za 1) (Zm g.zc1))))))
theorem ZwE (D:Def0 K mg "has_answered_syn" ZjE Zn6) (g:Glb K mg) (zd48:MDef P w K mg base 4 "owe_reset_for" ZZ) (zd65:MDef P w K mg base 1 "take_window" ZaD):MDef P w K mg base 5 "has_answered_syn" zr:=
  ZX D ZxJ 2 2 rfl rfl fun f cdv A outer s H E hr=>(Ze (ZI (MW.mt (Zcd (ZC (Zam hr.units) (Zo (Zu ⟨g.k_End,g.zn8⟩) (Za 0)) (Zo (Zu ⟨g.k_End,g.zn5⟩) (Za 0))) (zV (ZC (Zfj hr.units) (ZA ZB (Za 1) (Zm g.zc1)) (Zo (Zu ⟨g.k_End,g.zn8⟩) (Za 0)))))) (Ze (ZT (Zi zd48 hr (by decide) (Zb (Za 0) (Zb (Za 1) Zf))))
    (Zj (Zv ZaI))) Zy)
  (Ze (Zw (Zu ⟨g.k_End,g.zn21⟩) (Za 0) (ZA ZB (Za 1) (Zm g.zc1)))
  (Ze (Zw (Zu ⟨g.k_End,g.zn16⟩) (Za 0) (ZcE (ZD (Zo (Zu ⟨g.k_End,g.zn6⟩) (Za 0))) (ZE g.zc40) (ZE g.zc25)))
  (Ze (ZT (Zi zd65 hr (by decide) (Zb (Za 0) (Zb (Za 1) Zf))))
  (Zj (Zv ZaI))))))
theorem ZwB (D:Def0 K mg "is_newer" ZjB Zn3) (g:Glb K mg) (zd6:MDef P w K mg base 2 "past" Zcg):MDef P w K mg base 3 "is_newer" Zc1:=
  ZX D ZxH 2 2 rfl rfl fun f cdv A outer s H E hr=>(Ze (ZI (ZC (Zam hr.units) (ZA ZB (Za 1) (Zm g.zc24)) (Zo (Zu ⟨g.k_End,g.zn18⟩) (Za 0))) (Zj (Zv (ZpX (Zi zd6 hr (by decide) (Zb (Zo (Zu ⟨g.k_End,g.zn19⟩) (Za 0)) (Zb (ZA ZB (Za 1) (Zm g.zc1)) Zf)))))) Zy)
  (Zj (Zv (Zi zd6 hr (by decide) (Zb (ZA ZB (Za 1) (Zm g.zc24)) (Zb (Zo (Zu ⟨g.k_End,g.zn18⟩) (Za 0)) Zf))))))
theorem ZwC (D:Def0 K mg "hear_answer" ZjC Zn4) (g:Glb K mg) (zd67:MDef P w K mg base 3 "is_newer" Zc1) (zd5:MDef P w K mg base 1 "offset" zB) (zd6:MDef P w K mg base 2 "past" Zcg) (zd8:MDef P w K mg base 1 "start_timer" za) (zd3:MDef P w K mg base 1 "take" Zfi) (zd65:MDef P w K mg base 1 "take_window" ZaD):MDef P w K mg base 4 "hear_answer" zL:=
  ZX D zc66 3 6 rfl rfl fun f cdv A outer s H E hr=>(Ze (Zz 3 zc66.nd (ZA ZB (Za 1) (Zm g.zc1)))
  (Ze (Zz 4 zc66.nd (Zi zd6 hr (by decide) (Zb (Za 3) (Zb (Zo (Zu ⟨g.k_End,g.zn21⟩) (Za 0)) Zf))))
  (Ze (ZI (ZD (Za 4)) (Ze (ZT (Zi zd3 hr (by decide) (Zb (Zo (Zu ⟨g.k_End,g.zn24⟩) (Za 0)) (Zb (Zi zd5 hr (by decide) (Zb (Za 3) (Zb (Zo (Zu ⟨g.k_End,g.zn21⟩) (Za 0)) Zf))) Zf))))
    (Ze (Zw (Zu ⟨g.k_End,g.zn21⟩) (Za 0) (Za 3))
    (Zj (ZI (ZC (Zfj hr.units) (Zo (Zu ⟨g.k_End,g.zn21⟩) (Za 0)) (Zo (Zu ⟨g.k_End,g.zn8⟩) (Za 0))) (Zj (ZT (Zi zd8 hr (by decide) (Zb (Za 0) (Zb (Za 2) Zf))))) Zy)))) Zy)
  (Ze (ZI (ZD (Zi zd6 hr (by decide) (Zb (Zo (Zu ⟨g.k_End,g.zn21⟩) (Za 0)) (Zb (Za 3) Zf)))) (Zj Zd1) Zy)
  (Ze (Zz 5 zc66.nd (zQ (Zam hr.units) (Zo (Zu ⟨g.k_End,g.zn23⟩) (Za 0)) Zh))
  (Ze (ZI (MW.mt (Zcd (ZD (Za 4)) (zV (ZD (Zi zd67 hr (by decide) (Zb (Za 0) (Zb (Za 1) Zf))))))) (Zj (ZT (Zi zd65 hr (by decide) (Zb (Za 0) (Zb (Za 1) Zf))))) Zy)
  (Zj (ZI (MW.mt (Zcd (ZD (Za 5)) (zV (ZC (Zam hr.units) (Zo (Zu ⟨g.k_End,g.zn23⟩) (Za 0)) Zh)))) (Zj (Zw (Zu ⟨g.k_End,g.zn20⟩) (Za 0) Zh)) Zy))))))))
theorem ZwF (D:Def0 K mg "goes_on_behind_answer" ZjF Zn7) (g:Glb K mg) (zd68:MDef P w K mg base 4 "end_what_is_acknowledged" ZR) (zd64:MDef P w K mg base 5 "has_answered_syn" zr) (zd66:MDef P w K mg base 4 "hear_answer" zL) (zd6:MDef P w K mg base 2 "past" Zcg):MDef P w K mg base 6 "goes_on_behind_answer" Z1:=
  ZX D ZxK 3 3 rfl rfl fun f cdv A outer s H E hr=>(Ze (ZI (ZC (Zam hr.units) (Zo (Zu ⟨g.k_End,g.zn16⟩) (Za 0)) (ZE g.zc36)) (Zj (Zv (Zi zd64 hr (by decide) (Zb (Za 0) (Zb (Za 1) Zf))))) Zy)
  (Ze (ZI (ZD (Zi zd6 hr (by decide) (Zb (ZA ZB (Za 1) (Zm g.zc1)) (Zb (Zo (Zu ⟨g.k_End,g.zn8⟩) (Za 0)) Zf)))) (Ze (Zw (Zu ⟨g.k_End,g.zn11⟩) (Za 0) ZaI)
    (Zj (Zv ZaI))) Zy)
  (Ze (ZT (Zi zd66 hr (by decide) (Zb (Za 0) (Zb (Za 1) (Zb (Za 2) Zf)))))
  (Ze (ZT (Zi zd68 hr (by decide) (Zb (Za 0) (Zb (Za 2) Zf))))
  (Zj (Zv (zQ (Zfj hr.units) (Zo (Zu ⟨g.k_End,g.zn16⟩) (Za 0)) (ZE g.zc2))))))))
theorem ZwG (D:Def0 K mg "hear_reset" ZjG Zn8) (g:Glb K mg) :MDef P w K mg base 1 "hear_reset" Zbq:=
  ZX D ZxL 2 2 rfl rfl fun f cdv A outer s H E hr=>(Ze (ZI (ZC (Zam hr.units) (Zo (Zu ⟨g.k_End,g.zn16⟩) (Za 0)) (ZE g.zc39)) (Zj Zd1) Zy)
  (Zj (ZI (ZC (Zam hr.units) (ZA ZB (Za 1) (Zm g.zc24)) (Zo (Zu ⟨g.k_End,g.zn14⟩) (Za 0))) (Ze (Zw (Zu ⟨g.k_End,g.zn16⟩) (Za 0) (ZE g.zc2))
    (Zj (Zw (Zu ⟨g.k_End,g.zn4⟩) (Za 0) (ZE g.zc28)))) (Zj (Zw (Zu ⟨g.k_End,g.zn11⟩) (Za 0) ZaI)))))
theorem Zww (D:Def0 K mg "draw_in_order" Zjw ZnY) (g:Glb K mg) (zd2:MDef P w K mg base 2 "lay" ZfB) (zd4:MDef P w K mg base 1 "plus" zq):MDef P w K mg base 3 "draw_in_order" Za1:=
  ZX D zc72 1 2 rfl rfl fun f cdv A outer s H E hr=>(Ze (Zin 1 zc72.nd Zf)
  (Ze (Zho 200 PassesOwn.never (MW.mt (Zb1 (ZC (Zfj hr.units) (Zo (Zu ⟨g.k_End,g.zn14⟩) (Za 0)) (Zo (Zu ⟨g.k_End,g.zn3⟩) (Za 0))) (zX (ZtK hr (Zo (Zu ⟨g.k_End,g.zn14⟩) (Za 0)) (Zo (Zu ⟨g.k_End,g.zn2⟩) (Za 0)))))) (Ze (Zio 1 (ZmA (Zo (Zu ⟨g.k_End,g.zn2⟩) (Za 0)) (Zo (Zu ⟨g.k_End,g.zn14⟩) (Za 0)) ⟨rfl,rfl,rfl,rfl⟩) (hpe:=fun h=>Zst PySem.F.plainAttrs_list PySem.F.slot_list_append PySem.F.type_list_append Zim h (ZiR (ZmA (Zo (Zu ⟨g.k_End,g.zn2⟩) (Za 0)) (Zo (Zu ⟨g.k_End,g.zn14⟩) (Za 0)) ⟨rfl,rfl,rfl,rfl⟩) ZlL)))
    (Zj (Zw (Zu ⟨g.k_End,g.zn14⟩) (Za 0) (Zi zd4 hr (by decide) (Zb (Zo (Zu ⟨g.k_End,g.zn14⟩) (Za 0)) (Zb Zh Zf)))))))
  (Zj (Zgd 1 (ZT (Zi zd2 hr (by decide) (Zb (Zo (Zu ⟨g.k_End,g.zn1⟩) (Za 0)) (Zb (Za 1) Zf))))))))
theorem Zwv (D:Def0 K mg "hear_fin" Zjv ZnX) (g:Glb K mg) (zd4:MDef P w K mg base 1 "plus" zq):MDef P w K mg base 2 "hear_fin" Zcj:=
  ZX D ZxE 2 2 rfl rfl fun f cdv A outer s H E hr=>(Ze (Zw (Zu ⟨g.k_End,g.zn14⟩) (Za 0) (Zi zd4 hr (by decide) (Zb (Zo (Zu ⟨g.k_End,g.zn14⟩) (Za 0)) (Zb Zh Zf))))
  (Zj (ZI (ZC (Zam hr.units) (Zo (Zu ⟨g.k_End,g.zn16⟩) (Za 0)) (ZE g.zc25)) (Zj (Zw (Zu ⟨g.k_End,g.zn16⟩) (Za 0) (ZE g.zc3))) (Zj (ZI (ZC (Zam hr.units) (Zo (Zu ⟨g.k_End,g.zn16⟩) (Za 0)) (ZE g.zc40)) (Zj (Zw (Zu ⟨g.k_End,g.zn16⟩) (Za 0) (ZE g.zc4))) (Ze (Zw (Zu ⟨g.k_End,g.zn16⟩) (Za 0) (ZE g.zc39))
      (Zj (Zw (Zu ⟨g.k_End,g.zn15⟩) (Za 0) (Za 1)))))))))
theorem Zwy (D:Def0 K mg "keep_data" Zjy Zn0) (g:Glb K mg) (zd60:MDef P w K mg base 3 "is_in_window" zo) (zd4:MDef P w K mg base 1 "plus" zq):MDef P w K mg base 4 "keep_data" ZbT:=
  ZX D zc70 2 5 rfl rfl fun f cdv A outer s H E hr=>(Ze (ZrD 2 3 zc70.nd PassesOwn.never g.b_enumerate (Zb (ZA ZB (Za 1) (Zm g.zc5)) Zf) (Ze (Zz 4 zc70.nd (Zi zd4 hr (by decide) (Zb (ZA ZB (Za 1) (Zm g.zc24)) (Zb (Za 2) Zf))))
    (Zj (ZI (ZD (Zi zd60 hr (by decide) (Zb (Za 0) (Zb (Za 4) Zf)))) (Zj (ZT (ZpZ (Zo (Zu ⟨g.k_End,g.zn2⟩) (Za 0)) (Za 4) (Za 3) ⟨rfl,rfl,rfl,rfl⟩))) Zy))))
  (Zj (ZI (ZC Zgb (ZY Zdm g.b_len PySem.boot_len (Zb (ZA ZB (Za 1) (Zm g.zc5)) Zf)) Zh) (Zj (Zw (Zu ⟨g.k_End,g.zn11⟩) (Za 0) ZaI)) Zy)))
theorem Zwx (D:Def0 K mg "keep_fin" Zjx ZnZ) (g:Glb K mg) (zd15:MDef P w K mg base 2 "bears" Z4) (zd60:MDef P w K mg base 3 "is_in_window" zo) (zd4:MDef P w K mg base 1 "plus" zq):MDef P w K mg base 4 "keep_fin" Zci:=
  ZX D zc71 2 3 rfl rfl fun f cdv A outer s H E hr=>(Ze (ZI (Zbl (ZD (Zi zd15 hr (by decide) (Zb (Za 1) (Zb (Zm g.zc6) Zf))))) (Zj Zd1) Zy)
  (Ze (Zw (Zu ⟨g.k_End,g.zn11⟩) (Za 0) ZaI)
  (Ze (Zz 2 zc71.nd (Zi zd4 hr (by decide) (Zb (ZA ZB (Za 1) (Zm g.zc24)) (Zb (ZY Zdm g.b_len PySem.boot_len (Zb (ZA ZB (Za 1) (Zm g.zc5)) Zf)) Zf))))
  (Zj (ZI (MW.mt (Zb1 (ZC ZrA (Zo (Zu ⟨g.k_End,g.zn3⟩) (Za 0)) ZaM) (zX (ZD (Zi zd60 hr (by decide) (Zb (Za 0) (Zb (Za 2) Zf))))))) (Zj (Zw (Zu ⟨g.k_End,g.zn3⟩) (Za 0) (Za 2))) Zy)))))
theorem Zwz (D:Def0 K mg "hear_stream" Zjz Zn1) (g:Glb K mg) (zd72:MDef P w K mg base 3 "draw_in_order" Za1) (zd73:MDef P w K mg base 2 "hear_fin" Zcj) (zd70:MDef P w K mg base 4 "keep_data" ZbT) (zd71:MDef P w K mg base 4 "keep_fin" Zci):MDef P w K mg base 5 "hear_stream" ZaE:=
  ZX D ZxF 3 3 rfl rfl fun f cdv A outer s H E hr=>(Ze (ZI (ZC ZiT (Zo (Zu ⟨g.k_End,g.zn16⟩) (Za 0)) (zm (Zb (ZE g.zc25) (Zb (ZE g.zc40) (Zb (ZE g.zc41) Zf)))) (by with_unfolding_all rfl)) (Zj Zd1) Zy)
  (Ze (ZT (Zi zd70 hr (by decide) (Zb (Za 0) (Zb (Za 1) Zf))))
  (Ze (ZT (Zi zd71 hr (by decide) (Zb (Za 0) (Zb (Za 1) Zf))))
  (Ze (ZT (Zi zd72 hr (by decide) (Zb (Za 0) Zf)))
  (Zj (ZI (ZC (Zam hr.units) (Zo (Zu ⟨g.k_End,g.zn14⟩) (Za 0)) (Zo (Zu ⟨g.k_End,g.zn3⟩) (Za 0))) (Zj (ZT (Zi zd73 hr (by decide) (Zb (Za 0) (Zb (Za 2) Zf))))) Zy))))))
theorem ZwH (D:Def0 K mg "turn_away" ZjH Zn9) (g:Glb K mg) (zd15:MDef P w K mg base 2 "bears" Z4):MDef P w K mg base 3 "turn_away" Zbh:=
  ZX D ZxM 3 3 rfl rfl fun f cdv A outer s H E hr=>(Ze (ZI (ZD (Zi zd15 hr (by decide) (Zb (Za 1) (Zb (Zm g.zc32) Zf)))) (Zj Zd1) Zy)
  (Ze (ZI (MW.mt (Zb1 (ZC (Zam hr.units) (Zo (Zu ⟨g.k_End,g.zn16⟩) (Za 0)) (ZE g.zc36)) (Zb1 (ZD (Zi zd15 hr (by decide) (Zb (Za 1) (Zb (Zm g.zc35) Zf)))) (zX (Zbl (ZD (Zi zd15 hr (by decide) (Zb (Za 1) (Zb (Zm g.zc0) Zf))))))))) (Zj (Zw (Zu ⟨g.k_End,g.zn12⟩) (Za 0) ZaI)) (Zj (Zw (Zu ⟨g.k_End,g.zn11⟩) (Za 0) ZaI)))
  (Zj (ZI (ZC (Zam hr.units) (Zo (Zu ⟨g.k_End,g.zn16⟩) (Za 0)) (ZE g.zc39)) (Zj (Zw (Zu ⟨g.k_End,g.zn15⟩) (Za 0) (Za 2))) Zy))))
theorem ZwK (D:Def0 K mg "come_to_stream" ZjK Zoc) (g:Glb K mg) (zd15:MDef P w K mg base 2 "bears" Z4) (zd59:MDef P w K mg base 4 "fits" Zga) (zd63:MDef P w K mg base 6 "goes_on_behind_answer" Z1) (zd62:MDef P w K mg base 1 "hear_reset" Zbq) (zd69:MDef P w K mg base 5 "hear_stream" ZaE) (zd61:MDef P w K mg base 3 "turn_away" Zbh):MDef P w K mg base 7 "come_to_stream" zc:=
  ZX D ZxO 3 3 rfl rfl fun f cdv A outer s H E hr=>(Zj (ZI (Zbl (ZD (Zi zd59 hr (by decide) (Zb (Za 0) (Zb (Za 1) Zf))))) (Zj (ZT (Zi zd61 hr (by decide) (Zb (Za 0) (Zb (Za 1) (Zb (Za 2) Zf)))))) (Zj (ZI (ZD (Zi zd15 hr (by decide) (Zb (Za 1) (Zb (Zm g.zc32) Zf)))) (Zj (ZT (Zi zd62 hr (by decide) (Zb (Za 0) (Zb (Za 1) Zf))))) (Zj (ZI (ZD (Zi zd15 hr (by decide) (Zb (Za 1) (Zb (Zm g.zc35) Zf)))) (Zj (Zw (Zu ⟨g.k_End,g.zn11⟩) (Za 0) ZaI)) (Zj (ZI (MW.mt (Zb1 (ZD (Zi zd15 hr (by decide) (Zb (Za 1) (Zb (Zm g.zc0) Zf)))) (zX (ZD (Zi zd63 hr (by decide) (Zb (Za 0) (Zb (Za 1) (Zb (Za 2) Zf)))))))) (Zj (ZT (Zi zd69 hr (by decide) (Zb (Za 0) (Zb (Za 1) (Zb (Za 2) Zf)))))) Zy))))))))
theorem ZwL (D:Def0 K mg "is_for" ZjL Zod) (g:Glb K mg) :MDef P w K mg base 1 "is_for" Zez:=
  ZX D ZxP 2 2 rfl rfl fun f cdv A outer s H E hr=>(Zj (Zv (ZbO (zQ (Zam hr.units) (ZA ZB (Za 1) (Zm g.zc9)) (Zo (Zu ⟨g.k_End,g.zn9⟩) (Za 0))) (ZcD (ZkY (zQ ZlM (Zo (Zu ⟨g.k_End,g.zn16⟩) (Za 0)) (zm (Zb (ZE g.zc2) (Zb (ZE g.zc17) Zf))) (by with_unfolding_all rfl)) (ZcD (zQ (Zam hr.units) (ZA ZB (Za 1) (Zm g.zc34)) (Zo (Zu ⟨g.k_End,g.zn17⟩) (Za 0)))))))))
theorem ZwM (D:Def0 K mg "arrive" ZjM Zoe) (g:Glb K mg) (zd49:MDef P w K mg base 5 "come_to_closed" ZaL) (zd50:MDef P w K mg base 5 "come_to_listen" zx) (zd58:MDef P w K mg base 7 "come_to_stream" zc) (zd52:MDef P w K mg base 5 "come_to_syn_sent" ZS) (zd25:MDef P w K mg base 4 "get" Zij) (zd57:MDef P w K mg base 1 "is_for" Zez) (zd22:MDef P w K mg base 3 "is_right" Zag):MDef P w K mg base 8 "arrive" zY:=
  ZX D zc56 3 4 rfl rfl fun f cdv A outer s H E hr=>(Ze (ZI (Zbl (ZD (Zi zd22 hr (by decide) (Zb (Za 1) Zf)))) (Zj (Zv ZaI)) Zy)
  (Ze (Zz 3 zc56.nd (Zi zd25 hr (by decide) (Zb (Za 1) Zf)))
  (Ze (ZI (Zbl (ZD (Zi zd57 hr (by decide) (Zb (Za 0) (Zb (Za 3) Zf))))) (Zj (Zv ZaI)) Zy)
  (Ze (ZI (ZC (Zam hr.units) (Zo (Zu ⟨g.k_End,g.zn16⟩) (Za 0)) (ZE g.zc2)) (Zj (ZT (Zi zd49 hr (by decide) (Zb (Za 0) (Zb (Za 3) Zf))))) (Zj (ZI (ZC (Zam hr.units) (Zo (Zu ⟨g.k_End,g.zn16⟩) (Za 0)) (ZE g.zc17)) (Zj (ZT (Zi zd50 hr (by decide) (Zb (Za 0) (Zb (Za 3) Zf))))) (Zj (ZI (ZC (Zam hr.units) (Zo (Zu ⟨g.k_End,g.zn16⟩) (Za 0)) (ZE g.zc37)) (Zj (ZT (Zi zd52 hr (by decide) (Zb (Za 0) (Zb (Za 3) (Zb (Za 2) Zf)))))) (Zj (ZT (Zi zd58 hr (by decide) (Zb (Za 0) (Zb (Za 3) (Zb (Za 2) Zf)))))))))))
  (Zj (Zv ZaI))))))
theorem Zwu (D:Def0 K mg "opened" Zju ZnW) (g:Glb K mg) (zd7:MMk P w K mg base 3 "End" Zck):MDef P w K mg base 5 "opened" Zey:=
  ZX D ZxD 4 4 rfl rfl fun f cdv A outer s H E hr=>(Zj (Zv (ZrF zd7 hr (by decide) (Zb (Za 0) (Zb (Za 1) (Zb (Za 2) (Zb (Za 3) Zf)))))))
theorem Zwt (D:Def0 K mg "write" Zjt ZnV) (g:Glb K mg) (zd2:MDef P w K mg base 2 "lay" ZfB) (zd4:MDef P w K mg base 1 "plus" zq):MDef P w K mg base 3 "write" ZdY:=
  ZX D zc75 2 3 rfl rfl fun f cdv A outer s H E hr=>(Ze (ZI (MW.mt (Zcd (ZD (Zo (Zu ⟨g.k_End,g.zn6⟩) (Za 0))) (zV (ZC ZiT (Zo (Zu ⟨g.k_End,g.zn16⟩) (Za 0)) (zm (Zb (ZE g.zc37) (Zb (ZE g.zc36) (Zb (ZE g.zc25) (Zb (ZE g.zc3) Zf))))) (by with_unfolding_all rfl))))) (Zj (Zv Zh)) Zy)
  (Ze (Zz 2 zc75.nd (Zi zd2 hr (by decide) (Zb (Zo (Zu ⟨g.k_End,g.zn24⟩) (Za 0)) (Zb (Za 1) Zf))))
  (Ze (Zw (Zu ⟨g.k_End,g.zn0⟩) (Za 0) (Zi zd4 hr (by decide) (Zb (Zo (Zu ⟨g.k_End,g.zn0⟩) (Za 0)) (Zb (Za 2) Zf))))
  (Zj (Zv (Za 2))))))
theorem Zws (D:Def0 K mg "_law_cell" Zjs ZnU) (g:Glb K mg) :MDef P w K mg base 1 "_law_cell" Zgg:=
  ZX D ZxC 2 2 rfl rfl fun f cdv A outer s H E hr=>(Ze (ZI (ZD (Za 0)) (Zj (Zv (ZA ZB (Za 0) (Zs Zaq (Za 1) (ZY Zdm g.b_len PySem.boot_len (Zb (Za 0) Zf)))))) Zy)
  (Zj (Zv Zh)))
theorem Zwr (D:Def0 K mg "_law_mix" Zjr ZnT) (g:Glb K mg) (zd76:MDef P w K mg base 1 "_law_cell" Zgg):MDef P w K mg base 2 "_law_mix" Za9:=
  ZX D zc77 2 3 rfl rfl fun f cdv A outer s H E hr=>(Ze (Zz 2 zc77.nd (Zs Zaq (Zs ZJ (Zi zd76 hr (by decide) (Zb (Za 0) (Zb (Za 1) Zf))) (Zs Zcv Zh (Zs ZJ (Za 1) Zh))) Zh))
  (Ze (Zz 2 zc77.nd (Zs Zaq (Zs Zcv (Za 2) Zh) Zh))
  (Zj (Zv (Zs Zaq (Zs ZJ (Zs Zcv (Zs Zek (Za 2) Zh) Zh) (Za 2)) Zh)))))
theorem Zwq (D:Def0 K mg "_law_two" Zjq ZnS) (g:Glb K mg) :MDef P w K mg base 1 "_law_two" Zel:=
  ZX D ZxB 1 1 rfl rfl fun f cdv A outer s H E hr=>(Zj (Zv (ZaF (Zb (Zs Zek (Za 0) Zh) (Zb (Zs Zaq (Za 0) Zh) Zf)))))
theorem Zwp (D:Def0 K mg "_law_folded" Zjp ZnR) (g:Glb K mg) :MDef P w K mg base 1 "_law_folded" Zcx:=
  ZX D zc79 1 3 rfl rfl fun f cdv A outer s H E hr=>(Ze (Zz 1 zc79.nd Zh)
  (Ze (Zhp PassesOwn.never (ZdI g.b_range (Zb (ZY Zdm g.b_len PySem.boot_len (Zb (Za 0) Zf)) Zf)) (ZfI 2 zc79.nd) (Zj (Zz 1 zc79.nd (Zs ZJ (Za 1) (Zs Zcv (ZA ZB (Za 0) (Za 2)) (ZA ZB (ZaF (Zb Zh (Zb Zh Zf))) (Zs Zaq (Za 2) Zh)))))))
  (Ze (Zho 200 PassesOwn.never (ZC Zgb (Za 1) Zh) (Zj (Zz 1 zc79.nd (Zs ZJ (Zs Zaq (Za 1) Zh) (Zs Zek (Za 1) Zh)))))
  (Zj (Zv (Za 1))))))
theorem Zwo (D:Def0 K mg "_law_bytes" Zjo ZnQ) (g:Glb K mg) (zd79:MDef P w K mg base 1 "_law_folded" Zcx) (zd78:MDef P w K mg base 1 "_law_two" Zel):MDef P w K mg base 2 "_law_bytes" Zcq:=
  ZX D zc80 1 3 rfl rfl fun f cdv A outer s H E hr=>(Ze (Zz 1 zc80.nd (Zs ZJ (Zi zd78 hr (by decide) (Zb (ZA ZB (Za 0) Zh) Zf)) (Zi zd78 hr (by decide) (Zb (ZA ZB (Za 0) Zh) Zf))))
  (Ze (Zhp PassesOwn.never (ZlP (Za3 (Za 0) (z7 Zh) (z7 Zh))) (ZfI 2 zc80.nd) (Zj (Zz 1 zc80.nd (Zs ZJ (Zs ZJ (Za 1) (Zi zd78 hr (by decide) (Zb (Zs Zek (Za 2) Zh) Zf))) (Zi zd78 hr (by decide) (Zb (Zs Zaq (Za 2) Zh) Zf))))))
  (Ze (Zz 1 zc80.nd (Zs ZJ (Zs ZJ (Zs ZJ (Za 1) (ZaF (Zb (ZA ZB (ZaF (Zb Zh (Zb Zh Zf))) (ZbV ZvG g.b_int PyProof.Rows.boot_int (Zb (zQ Zgb (ZA ZB (Za 0) Zh) Zh) Zf))) (Zb (ZA ZB (Za 0) Zh) Zf)))) (Zi zd78 hr (by decide) (Zb (ZA ZB (Za 0) Zh) Zf))) (ZaF (Zb Zh (Zb Zh (Zb Zh (Zb Zh Zf)))))))
  (Ze (ZI (ZC Zgb (ZA ZB (Za 0) Zh) Zh) (Zj (Zz 1 zc80.nd (Zs ZJ (Zs ZJ (Za 1) (ZaF (Zb Zh (Zb Zh Zf)))) (Zi zd78 hr (by decide) (Zb (ZA ZB (Za 0) Zh) Zf))))) Zy)
  (Ze (Zz 1 zc80.nd (Zs ZJ (Za 1) (ZbV ZqC g.b_list PyProof.Rows.boot_list (Zb (ZA ZB (Za 0) Zh) Zf))))
  (Zj (Zv (Zs ZJ (Zs ZJ (Za3 (Za 1) Zb2 (z7 Zh)) (Zi zd78 hr (by decide) (Zb (Zs Zdi Zh (Zi zd79 hr (by decide) (Zb (Za 1) Zf))) Zf))) (Za3 (Za 1) (z7 Zh) Zb2)))))))))
theorem Zwm (D:Def0 K mg "_law_byte" Zjn ZnO) (g:Glb K mg) :MDef P w K mg base 1 "_law_byte" Zgh:=
  ZX D ZxA 1 1 rfl rfl fun f cdv A outer s H E hr=>(Zj (Zv (ZbO (ZY Zl4 g.b_isinstance PyProof.Rows.boot_isinstance (Zb (Za 0) (Zb (ZpW g.b_int PyProof.Rows.boot_int) Zf))) (ZbO (ZpX (ZY Zl4 g.b_isinstance PyProof.Rows.boot_isinstance (Zb (Za 0) (Zb (ZpW g.b_bool PyProof.Rows.boot_bool) Zf)))) (ZcD (ZeC Zhk Zhk Zh (Za 0) Zh))))))
theorem Zwn (D:Def0 K mg "_law_read" ZhW ZnP) (g:Glb K mg) (zd82:MDef P w K mg base 1 "_law_byte" Zgh) (zd79:MDef P w K mg base 1 "_law_folded" Zcx):MDef P w K mg base 2 "_law_read" Zgf:=
  ZX D zc81 1 5 rfl rfl fun f cdv A outer s H E hr=>(Ze (ZI (MW.mt (Zcd (Zbl (ZD (ZY Zl4 g.b_isinstance PyProof.Rows.boot_isinstance (Zb (Za 0) (Zb (ZpW g.b_list PyProof.Rows.boot_list) Zf))))) (zV (ZC ZkS (ZY Zdm g.b_len PySem.boot_len (Zb (Za 0) Zf)) Zh)))) (Zj (Zv ZaM)) Zy)
  (Ze (ZI (Zbl (ZD (ZY ZvH g.b_all PyProof.Rows.boot_all (Zb (Zvo (show Zby _ (Zg ZhW) "_law_byte_here" ["_law_row","_law_head","_law_most","_law_words","_law_found"] ["_law_byte_here"] [] from ⟨rfl,by decide +kernel,by decide +kernel,by decide +kernel,by decide +kernel,by decide +kernel,rfl,by decide,by decide +kernel⟩) rfl rfl (ZlP (Za 0)) (fun _ _ _ _ _=>(Zi zd82 hr (by decide) (Zb (Za 0) Zf)))) Zf)))) (Zj (Zv ZaM)) Zy)
  (Ze (Zz 1 zc81.nd (Zs Zek (ZA ZB (Za 0) Zh) Zh))
  (Ze (ZI (MW.mt (Zcd (ZC ZiT (ZA ZB (Za 0) Zh) (zm (Zb Zh (Zb Zh Zf))) (by with_unfolding_all rfl)) (Zcd (ZC Zgb (ZA ZB (Za 0) Zh) Zh) (zV (ZC Zgb (Zs ZJ (ZA ZB (Za 0) Zh) (ZA ZB (Za 0) Zh)) Zh))))) (Zj (Zv ZaM)) Zy)
  (Ze (ZI (MW.mt (Zcd (Zbl (ZpT Zhk Zhk (Za 1) (ZY Zdm g.b_len PySem.boot_len (Zb (Za 0) Zf)) (Zs ZJ (Za 1) Zh))) (zV (ZC (Zfj hr.units) (Zi zd79 hr (by decide) (Zb (Za 0) Zf)) Zh)))) (Zj (Zv ZaM)) Zy)
  (Ze (Zz 2 zc81.nd Zh)
  (Ze (ZI (ZC (Zam hr.units) (Za 1) Zh) (Ze (Zz 2 zc81.nd (Zs ZJ (Zs Zcv (ZA ZB (Za 0) Zh) Zh) (ZA ZB (Za 0) Zh)))
    (Zj (ZI (MW.mt (Zcd (ZC (Zam hr.units) (Zs Zaq (Zs Zek (ZA ZB (Za 0) Zh) Zh) Zh) Zh) (Zcd (ZC (Zfj hr.units) (Za3 (Za 0) (z7 Zh) (z7 Zh)) (ZaF (Zb Zh (Zb Zh Zf)))) (zV (ZC ZkS (Za 2) Zh))))) (Zj (Zv ZaM)) Zy))) Zy)
  (Ze (ZkV 3 zc81.nd (show Zby _ (Zg ZhW) "_law_k" ["_law_row","_law_head","_law_most","_law_words","_law_found"] ["_law_k","_law_row"] [0] from ⟨rfl,by decide +kernel,by decide +kernel,by decide +kernel,by decide +kernel,by decide +kernel,rfl,by decide,by decide +kernel⟩) rfl rfl (ZdI g.b_range (Zb Zh Zf)) (fun _ _ _ _ _=>(Zs ZJ (Zs Zcv Zh (ZA ZB (Za 1) (Zs Zcv Zh (Za 0)))) (ZA ZB (Za 1) (Zs ZJ (Zs Zcv Zh (Za 0)) Zh)))))
  (Ze (Zz 4 zc81.nd (zm (Zb (ZA ZB (Za 3) Zh) (Zb (ZA ZB (Za 3) Zh) (Zb (Zs ZJ (Zs Zcv (ZA ZB (Za 3) Zh) Zh) (ZA ZB (Za 3) Zh)) (Zb (Zs ZJ (Zs Zcv (ZA ZB (Za 3) Zh) Zh) (ZA ZB (Za 3) Zh)) Zf))))))
  (Zj (Zv (Zs ZJ (Za 4) (zm (Zb (ZA ZB (Za 0) Zh) (Zb (ZA ZB (Za 3) Zh) (Zb (Za 2) (Zb (ZbV ZfT g.b_tuple PyProof.Rows.boot_tuple (Zb (Za3 (Za 0) (z7 (Za 1)) Zb2) Zf)) Zf)))))))))))))))))
theorem Zwl (D:Def0 K mg "_law_plus" Zjm ZnN) (g:Glb K mg) :MDef P w K mg base 1 "_law_plus" ZbP:=
  ZX D Zxz 2 2 rfl rfl fun f cdv A outer s H E hr=>(Zj (Zv (Zs Zaq (Zs ZJ (Za 0) (Za 1)) Zh)))
theorem Zwk (D:Def0 K mg "_law_first" Zjl ZnM) (g:Glb K mg) :MDef P w K mg base 1 "_law_first" Ze3:=
  ZX D Zxy 1 1 rfl rfl fun f cdv A outer s H E hr=>(Ze (ZI (ZC (Zam hr.units) (Zs Zaq (Za 0) Zh) Zh) (Zj (Zv (Zs Zaq (Zs Zdi Zh (Zs Zaq (Zs Zek (Za 0) Zh) Zh)) Zh))) Zy)
  (Zj (Zv (Za 0))))
theorem Zwj (D:Def0 K mg "_law_segment" Zjk ZnL) (g:Glb K mg) :MDef P w K mg base 1 "_law_segment" ZcU:=
  ZX D Zxx 6 6 rfl rfl fun f cdv A outer s H E hr=>(Zj (Zv (zm (Zb (ZA ZB (Za 0) Zh) (Zb (ZA ZB (Za 0) Zh) (Zb (Za 1) (Zb (Za 2) (Zb (Za 3) (Zb (Za 4) (Zb Zh (Zb (ZbV ZfT g.b_tuple PyProof.Rows.boot_tuple (Zb (Za 5) Zf)) Zf)))))))))))
theorem Zwi (D:Def0 K mg "_law_given" Zjj ZnK) (g:Glb K mg) (zd81:MDef P w K mg base 2 "_law_read" Zgf) (zd28:MDef P w K mg base 8 "send" ZcC):MDef P w K mg base 9 "_law_given" Ze2:=
  ZX D zc86 2 5 rfl rfl fun f cdv A outer s H E hr=>(Ze (Zin 2 zc86.nd Zf)
  (Ze (Zhp PassesOwn.never (ZdI g.b_range (Zb Zh Zf)) (ZfI 3 zc86.nd) (Ze (Zz 4 zc86.nd (Zi zd28 hr (by decide) (Zb (Za 0) (Zb (Za 1) Zf))))
    (Ze (ZI (ZC (Zam hr.units) (Za 4) (ZaF Zf)) (Zj (Zgd 2 (Zv (Za 2)))) Zy)
    (Zj (Zio 2 (Zi zd81 hr (by decide) (Zb (Za 4) Zf)) (hpe:=fun h=>Zst PySem.F.plainAttrs_list PySem.F.slot_list_append PySem.F.type_list_append Zim h (ZiR (Zi zd81 hr (by decide) (Zb (Za 4) Zf)) ZlL)))))))
  (Zj (Zgd 2 (Zv (Za 2))))))
theorem Zwh (D:Def0 K mg "_law_opened" Zji ZnJ) (g:Glb K mg) (zd80:MDef P w K mg base 2 "_law_bytes" Zcq) (zd84:MDef P w K mg base 1 "_law_first" Ze3) (zd77:MDef P w K mg base 2 "_law_mix" Za9) (zd83:MDef P w K mg base 1 "_law_plus" ZbP) (zd56:MDef P w K mg base 8 "arrive" zY) (zd74:MDef P w K mg base 5 "opened" Zey) (zd28:MDef P w K mg base 8 "send" ZcC):MDef P w K mg base 9 "_law_opened" ZdJ:=
  ZX D zc87 4 8 rfl rfl fun f cdv A outer s H E hr=>(Ze (Zz 4 zc87.nd (zm (Zb (Zs Zaq (Zi zd77 hr (by decide) (Zb (Za 0) (Zb (Za 1) Zf))) Zh) (Zb (Zs Zaq (Zi zd77 hr (by decide) (Zb (Za 0) (Zb (Zs ZJ (Za 1) Zh) Zf))) Zh) Zf))))
  (Ze (Zz 5 zc87.nd (Zi zd84 hr (by decide) (Zb (Zi zd77 hr (by decide) (Zb (Za 0) (Zb (Zs ZJ (Za 1) Zh) Zf))) Zf)))
  (Ze (Zz 6 zc87.nd (Zi zd84 hr (by decide) (Zb (Zi zd77 hr (by decide) (Zb (Za 0) (Zb (Zs ZJ (Za 1) Zh) Zf))) Zf)))
  (Ze (Zz 7 zc87.nd (Zi zd74 hr (by decide) (Zb (ZA ZB (Za 4) Zh) (Zb Zh (Zb (Za 5) (Zb ZaI Zf))))))
  (Ze (ZT (Zi zd56 hr (by decide) (Zb (Za 7) (Zb (Zi zd80 hr (by decide) (Zb (zm (Zb (ZA ZB (Za 4) Zh) (Zb (ZA ZB (Za 4) Zh) (Zb (Za 6) (Zb Zh (Zb Zh (Zb (Za 2) (Zb (Za 3) (Zb (zm Zf) Zf))))))))) Zf)) (Zb Zh Zf)))))
  (Ze (ZT (Zi zd28 hr (by decide) (Zb (Za 7) (Zb Zh Zf))))
  (Ze (ZT (Zi zd56 hr (by decide) (Zb (Za 7) (Zb (Zi zd80 hr (by decide) (Zb (zm (Zb (ZA ZB (Za 4) Zh) (Zb (ZA ZB (Za 4) Zh) (Zb (Zi zd83 hr (by decide) (Zb (Za 6) (Zb Zh Zf))) (Zb (Zi zd83 hr (by decide) (Zb (Za 5) (Zb Zh Zf))) (Zb Zh (Zb (Za 2) (Zb Zh (Zb (zm Zf) Zf))))))))) Zf)) (Zb Zh Zf)))))
  (Zj (Zv (zm (Zb (Za 7) (Zb (Za 4) (Zb (Zi zd83 hr (by decide) (Zb (Za 5) (Zb Zh Zf))) (Zb (Zi zd83 hr (by decide) (Zb (Za 6) (Zb Zh Zf))) Zf))))))))))))))
theorem Zwg (D:Def0 K mg "_law_sent" Zjh ZnI) (g:Glb K mg) (zd86:MDef P w K mg base 9 "_law_given" Ze2) (zd83:MDef P w K mg base 1 "_law_plus" ZbP):MDef P w K mg base 10 "_law_sent" l_sent:=
  ZX D zc88 5 7 rfl rfl fun f cdv A outer s H E hr=>(Ze (Zhp PassesOwn.never (ZlP (Zi zd86 hr (by decide) (Zb (ZA ZB (Za 0) Zh) (Zb Zh Zf)))) (ZfI 5 zc88.nd) (Ze (Zz 6 zc88.nd (ZA ZB (Za 5) Zh))
    (Ze (ZI (MW.mt (Zcd (MW.mt (Zb1 (ZD (Za 6)) (zX (ZC (Zfj hr.units) (ZA ZB (Za 5) Zh) (Zi zd83 hr (by decide) (Zb (ZA ZB (Za 0) Zh) (Zb (Za 2) Zf))))))) (zV (ZC (Zfj hr.units) (Za 6) (ZbV ZfT g.b_tuple PyProof.Rows.boot_tuple (Zb (Za3 (Za 1) (z7 (Za 2)) (z7 (Zs ZJ (Za 2) (ZY Zdm g.b_len PySem.boot_len (Zb (Za 6) Zf))))) Zf)))))) (Zj (Zv (ZpY Zh))) Zy)
    (Ze (Zz 2 zc88.nd (Zs ZJ (Za 2) (ZY Zdm g.b_len PySem.boot_len (Zb (Za 6) Zf))))
    (Zj (ZI (MW.mt (Zb1 (ZD (Za 6)) (zX (ZC Zgb (Zs Zdi (Za 2) (Za 3)) (Za 4))))) (Zj (Zv (ZpY Zh))) Zy))))))
  (Zj (Zv (Za 2))))
theorem Zwf {fl:Addr} {fdl:FuncData} (F:Fun K "law" "law" ZgM fl fdl) (g:Glb K mg) (zd80:MDef P w K mg base 2 "_law_bytes" Zcq) (zd77:MDef P w K mg base 2 "_law_mix" Za9) (zd87:MDef P w K mg base 9 "_law_opened" ZdJ) (zd83:MDef P w K mg base 1 "_law_plus" ZbP) (zd85:MDef P w K mg base 1 "_law_segment" ZcU) (zd88:MDef P w K mg base 10 "_law_sent" l_sent) (zd56:MDef P w K mg base 8 "arrive" zY) (zd75:MDef P w K mg base 3 "write" ZdY):FnOk P w K mg base CX0 11 fl fdl ZnH (spM ⟨z8 mg,K⟩ ZmD):=
  mfn F zc89 1 19 rfl rfl fun cdv A outer s H E hr=>(Ze (Zz 1 zc89.nd (Zs Zaq (Zi zd77 hr (by decide) (Zb (Za 0) (Zb Zh Zf))) Zh))
  (Ze (Zz 2 zc89.nd (Zi zd87 hr (by decide) (Zb (Za 0) (Zb Zh (Zb (Za 1) (Zb Zh Zf))))))
  (Ze (Zz 3 zc89.nd (ZA ZB (Za 2) Zh))
  (Ze (Zz 4 zc89.nd (ZA ZB (Za 2) Zh))
  (Ze (ZkV 5 zc89.nd (show Zby _ (Zg ZgM) "_law_k" ["_law_script","_law_window","_law_made_here","_law_end","_law_talk","_law_data","_law_una","_law_sent_here","_law_told","_law_told_by","_law_came","_law_k","_law_number","_law_size","_law_answer","_law_new","_law_places","_law_segment_here","_law_fits_here"] ["_law_k","_law_script"] [0] from ⟨rfl,by decide +kernel,by decide +kernel,by decide +kernel,by decide +kernel,by decide +kernel,rfl,by decide,by decide +kernel⟩) rfl rfl (ZdI g.b_range (Zb Zh Zf)) (fun _ _ _ _ _=>(Zs Zaq (Zi zd77 hr (by decide) (Zb (Za 1) (Zb (Zs ZJ Zh (Za 0)) Zf))) Zh)))
  (Ze (ZT (Zi zd75 hr (by decide) (Zb (Za 3) (Zb (Za 5) Zf))))
  (Ze (Zz 6 zc89.nd Zh)
  (Ze (Zz 7 zc89.nd Zh)
  (Ze (Zz 8 zc89.nd Zh)
  (Ze (Zz 9 zc89.nd Zh)
  (Ze (Zz 10 zc89.nd Zh)
  (Ze (Zhp PassesOwn.never (ZdI g.b_range (Zb Zh Zf)) (ZfI 11 zc89.nd) (Ze (Zz 7 zc89.nd (Zi zd88 hr (by decide) (Zb (Za 2) (Zb (Za 5) (Zb (Za 7) (Zb (Za 6) (Zb (Za 1) Zf)))))))
    (Ze (ZI (ZC ZkS (Za 7) (ZY Zlq g.b_min PyProof.Rows.boot_min (Zb Zh (Zb (Zs ZJ (Za 6) (Za 1)) Zf)))) (Zj (Zv ZaI)) Zy)
    (Ze (Zz 12 zc89.nd (ZA ZB (ZaF (Zb (Za 10) (Zb Zh (Zb (Za 8) (Zb (Za 10) (Zb (Zs Zaq (Zi zd77 hr (by decide) (Zb (Za 0) (Zb (Zs ZJ Zh (Za 11)) Zf))) (Zs ZJ (Za 10) Zh)) Zf)))))) (Zs Zaq (Zi zd77 hr (by decide) (Zb (Za 0) (Zb (Zs ZJ Zh (Za 11)) Zf))) Zh)))
    (Ze (Zz 13 zc89.nd Zh)
    (Ze (ZI (MW.mt (Zb1 (ZC (Zam hr.units) (Zs Zaq (Zi zd77 hr (by decide) (Zb (Za 0) (Zb (Zs ZJ Zh (Za 11)) Zf))) Zh) Zh) (Zb1 (ZC ZkS (Za 10) Zh) (zX (ZC ZkS (Zs Zdi (Za 10) (Za 12)) Zh))))) (Zj (Zz 13 zc89.nd (Zs ZJ (Zs ZJ (Zs Zdi (Za 10) (Za 12)) Zh) (Zs Zaq (Zi zd77 hr (by decide) (Zb (Za 0) (Zb (Zs ZJ Zh (Za 11)) Zf))) Zh)))) Zy)
    (Ze (Zz 14 zc89.nd (ZA ZB (ZaF (Zb (Za 6) (Zb (Zs Zaq (Zi zd77 hr (by decide) (Zb (Za 0) (Zb (Zs ZJ Zh (Za 11)) Zf))) (Zs ZJ (Za 7) Zh)) Zf))) (Zs Zaq (Zi zd77 hr (by decide) (Zb (Za 0) (Zb (Zs ZJ Zh (Za 11)) Zf))) Zh)))
    (Ze (Zz 15 zc89.nd (Zs Zaq (Zi zd77 hr (by decide) (Zb (Za 0) (Zb (Zs ZJ Zh (Za 11)) Zf))) Zh))
    (Ze (Zz 16 zc89.nd (zm (Zb (Zi zd83 hr (by decide) (Zb (ZA ZB (Za 2) Zh) (Zb (Za 12) Zf))) (Zb (Zi zd83 hr (by decide) (Zb (ZA ZB (Za 2) Zh) (Zb (Za 14) Zf))) Zf))))
    (Ze (Zz 17 zc89.nd (Zi zd85 hr (by decide) (Zb (Za 4) (Zb (ZA ZB (Za 16) Zh) (Zb (ZA ZB (Za 16) Zh) (Zb Zh (Zb (Za 15) (Zb (Zs Zcv (ZaF (Zb Zh Zf)) (Za 13)) Zf))))))))
    (Ze (ZT (Zi zd56 hr (by decide) (Zb (Za 3) (Zb (Zi zd80 hr (by decide) (Zb (Za 17) Zf)) (Zb Zh Zf)))))
    (Ze (Zz 18 zc89.nd (ZkY (zQ ZlN (Za 12) (Za 10)) (ZcD (ZeC ZkS ZkS (Za 12) (Za 10) (Zs ZJ (Za 12) (Za 13))))))
    (Ze (Zz 10 zc89.nd (ZY ZqB g.b_max PyProof.Rows.boot_max (Zb (Za 10) (Zb (Zs ZJ (Za 12) (Za 13)) Zf))))
    (Zj (ZI (MW.mt (Zb1 (ZD (Za 18)) (zX (ZC ZlN (Za 14) (Za 6))))) (Ze (ZI (MW.mt (Zcd (ZC Zgb (Za 14) (Za 6)) (Zcd (ZC Zgb (Za 12) (Za 8)) (zV (MW.mt (Zb1 (ZC (Zam hr.units) (Za 12) (Za 8)) (zX (ZC ZlN (Za 14) (Za 9))))))))) (Ze (Zz 1 zc89.nd (Za 15))
        (Ze (Zz 8 zc89.nd (Za 12))
        (Zj (Zz 9 zc89.nd (Za 14))))) Zy)
      (Zj (Zz 6 zc89.nd (ZY ZqB g.b_max PyProof.Rows.boot_max (Zb (Za 6) (Zb (Za 14) Zf)))))) Zy)))))))))))))))
  (Zj (Zv ZaI))))))))))))))
theorem ZtJ {fl:Addr} {fdl:FuncData} (F:Fun K "law" "law" ZgM fl fdl) (zD0:Mk0 K mg "Pile" "Pile.__init__" zs0 zP0) (zD1:Def0 K mg "room" zs1 zP1) (zD2:Def0 K mg "lay" zs2 zP2) (zD3:Def0 K mg "take" zs3 zP3) (zD4:Def0 K mg "plus" zs4 zP4) (zD5:Def0 K mg "offset" zs5 zP5) (zD6:Def0 K mg "past" zs6 zP6) (zD7:Mk0 K mg "End" "End.__init__" zs7 zP7) (zD8:Def0 K mg "start_timer" zs8 zP8) (zD9:Def0 K mg "our_window" zs9 zP9) (zD10:Def0 K mg "has_sent_fin" Zkw ZoY) (zD11:Def0 K mg "folded" Zkv ZoX) (zD12:Def0 K mg "sum_of" Zku ZoW) (zD13:Def0 K mg "length" Zkt ZoV) (zD14:Def0 K mg "has" Zks ZoU) (zD15:Def0 K mg "bears" Zkr ZoT) (zD16:Def0 K mg "put" Zkq ZoS) (zD17:Def0 K mg "bytes_ahead_of_sum" Zkp ZoR) (zD18:Def0 K mg "byte_of_head" Zko ZoQ) (zD19:Def0 K mg "bytes_of_most" Zkn ZoP) (zD20:Def0 K mg "two_bytes" Zkm ZoO) (zD21:Def0 K mg "four_bytes" Zkl ZoN) (zD22:Def0 K mg "is_right" Zkk ZoM) (zD23:Def0 K mg "head_of" Zkj ZoL) (zD24:Def0 K mg "is_right_long_head" Zki ZoK) (zD25:Def0 K mg "get" Zkh ZoJ) (zD26:Def0 K mg "two_at" Zkg ZoI) (zD27:Def0 K mg "four_at" Zkf ZoH) (zD28:Def0 K mg "send" Zke ZoG) (zD29:Def0 K mg "going" Zkd ZoF) (zD30:Def0 K mg "paid_reset" Zkc ZoE) (zD31:Def0 K mg "is_due" Zkb ZoD) (zD32:Def0 K mg "again" Zka ZoC) (zD33:Def0 K mg "most_at_once" Zj9 ZoB) (zD34:Def0 K mg "paid_syn" Zj8 ZoA) (zD35:Def0 K mg "segment_of" Zj7 Zoz) (zD36:Def0 K mg "going_as_new" Zj6 Zoy) (zD37:Def0 K mg "new_syn" Zj5 Zox) (zD38:Def0 K mg "has_more" Zj4 Zow) (zD39:Def0 K mg "has_new_data" Zj3 Zov) (zD40:Def0 K mg "unsent" Zj2 Zou) (zD41:Def0 K mg "has_new_fin" Zj1 Zot) (zD42:Def0 K mg "new_piece" Zj0 Zos) (zD43:Def0 K mg "new_data" ZjZ Zor) (zD44:Def0 K mg "new_fin" ZjY Zoq) (zD45:Def0 K mg "going_as_probe" ZjX Zop) (zD46:Def0 K mg "going_as_answer" ZjW Zoo) (zD47:Def0 K mg "reset_for" ZjV Zon) (zD48:Def0 K mg "owe_reset_for" ZjU Zom) (zD49:Def0 K mg "come_to_closed" ZjT Zol) (zD50:Def0 K mg "come_to_listen" ZjS Zok) (zD51:Def0 K mg "hear_syn" ZjR Zoj) (zD52:Def0 K mg "come_to_syn_sent" ZjQ Zoi) (zD53:Def0 K mg "answers_syn" ZjP Zoh) (zD54:Def0 K mg "refuse" ZjO Zog) (zD55:Def0 K mg "go_on_from_syn_sent" ZjN Zof) (zD56:Def0 K mg "arrive" ZjM Zoe) (zD57:Def0 K mg "is_for" ZjL Zod) (zD58:Def0 K mg "come_to_stream" ZjK Zoc) (zD59:Def0 K mg "fits" ZjJ Zob) (zD60:Def0 K mg "is_in_window" ZjI Zoa) (zD61:Def0 K mg "turn_away" ZjH Zn9) (zD62:Def0 K mg "hear_reset" ZjG Zn8) (zD63:Def0 K mg "goes_on_behind_answer" ZjF Zn7) (zD64:Def0 K mg "has_answered_syn" ZjE Zn6) (zD65:Def0 K mg "take_window" ZjD Zn5) (zD66:Def0 K mg "hear_answer" ZjC Zn4) (zD67:Def0 K mg "is_newer" ZjB Zn3) (zD68:Def0 K mg "end_what_is_acknowledged" ZjA Zn2) (zD69:Def0 K mg "hear_stream" Zjz Zn1) (zD70:Def0 K mg "keep_data" Zjy Zn0) (zD71:Def0 K mg "keep_fin" Zjx ZnZ) (zD72:Def0 K mg "draw_in_order" Zjw ZnY) (zD73:Def0 K mg "hear_fin" Zjv ZnX) (zD74:Def0 K mg "opened" Zju ZnW) (zD75:Def0 K mg "write" Zjt ZnV) (zD76:Def0 K mg "_law_cell" Zjs ZnU) (zD77:Def0 K mg "_law_mix" Zjr ZnT) (zD78:Def0 K mg "_law_two" Zjq ZnS) (zD79:Def0 K mg "_law_folded" Zjp ZnR) (zD80:Def0 K mg "_law_bytes" Zjo ZnQ) (zD81:Def0 K mg "_law_read" ZhW ZnP) (zD82:Def0 K mg "_law_byte" Zjn ZnO) (zD83:Def0 K mg "_law_plus" Zjm ZnN) (zD84:Def0 K mg "_law_first" Zjl ZnM) (zD85:Def0 K mg "_law_segment" Zjk ZnL) (zD86:Def0 K mg "_law_given" Zjj ZnK) (zD87:Def0 K mg "_law_opened" Zji ZnJ) (zD88:Def0 K mg "_law_sent" Zjh ZnI) (g:Glb K mg):FnOk P w K mg base CX0 11 fl fdl ZnH (spM ⟨z8 mg,K⟩ ZmD):=by
  have zd0:=zo0 (P:=P) (w:=w) (base:=base) zD0 g
  have zd1:=zo1 (P:=P) (w:=w) (base:=base) zD1 g
  have zd2:=zo2 (P:=P) (w:=w) (base:=base) zD2 g zd1
  have zd3:=zo3 (P:=P) (w:=w) (base:=base) zD3 g
  have zd4:=zo4 (P:=P) (w:=w) (base:=base) zD4 g
  have zd5:=zo5 (P:=P) (w:=w) (base:=base) zD5 g
  have zd6:=zo6 (P:=P) (w:=w) (base:=base) zD6 g zd5
  have zd7:=zo7 (P:=P) (w:=w) (base:=base) zD7 g zd0 zd4
  have zd8:=zo8 (P:=P) (w:=w) (base:=base) zD8 g
  have zd9:=zo9 (P:=P) (w:=w) (base:=base) zD9 g zd1
  have zd10:=Zxw (P:=P) (w:=w) (base:=base) zD10 g zd6
  have zd11:=Zxv (P:=P) (w:=w) (base:=base) zD11 g
  have zd12:=Zxu (P:=P) (w:=w) (base:=base) zD12 g zd11
  have zd14:=Zxs (P:=P) (w:=w) (base:=base) zD14 g
  have zd13:=Zxt (P:=P) (w:=w) (base:=base) zD13 g zd14
  have zd15:=Zxr (P:=P) (w:=w) (base:=base) zD15 g zd14
  have zd18:=Zxo (P:=P) (w:=w) (base:=base) zD18 g
  have zd20:=Zxm (P:=P) (w:=w) (base:=base) zD20 g
  have zd21:=Zxl (P:=P) (w:=w) (base:=base) zD21 g zd20
  have zd17:=Zxp (P:=P) (w:=w) (base:=base) zD17 g zd18 zd21 zd20
  have zd19:=Zxn (P:=P) (w:=w) (base:=base) zD19 g zd20
  have zd16:=Zxq (P:=P) (w:=w) (base:=base) zD16 g zd17 zd19 zd12 zd20
  have zd23:=Zxj (P:=P) (w:=w) (base:=base) zD23 g
  have zd26:=Zxg (P:=P) (w:=w) (base:=base) zD26 g
  have zd24:=Zxi (P:=P) (w:=w) (base:=base) zD24 g zd14 zd26
  have zd22:=Zxk (P:=P) (w:=w) (base:=base) zD22 g zd18 zd11 zd23 zd24 zd26
  have zd27:=Zxf (P:=P) (w:=w) (base:=base) zD27 g zd26
  have zd25:=Zxh (P:=P) (w:=w) (base:=base) zD25 g zd27 zd23 zd22 zd26
  have zd33:=Zw9 (P:=P) (w:=w) (base:=base) zD33 g
  have zd34:=Zw8 (P:=P) (w:=w) (base:=base) zD34 g
  have zd35:=Zw7 (P:=P) (w:=w) (base:=base) zD35 g zd9
  have zd32:=Zxa (P:=P) (w:=w) (base:=base) zD32 g zd33 zd5 zd34 zd35
  have zd46:=ZwW (P:=P) (w:=w) (base:=base) zD46 g zd35
  have zd40:=Zw2 (P:=P) (w:=w) (base:=base) zD40 g zd5
  have zd39:=Zw3 (P:=P) (w:=w) (base:=base) zD39 g zd40
  have zd41:=Zw1 (P:=P) (w:=w) (base:=base) zD41 g zd40
  have zd38:=Zw4 (P:=P) (w:=w) (base:=base) zD38 g zd39 zd41
  have zd43:=ZwZ (P:=P) (w:=w) (base:=base) zD43 g zd33 zd5 zd4 zd35 zd40
  have zd44:=ZwY (P:=P) (w:=w) (base:=base) zD44 g zd4 zd35
  have zd42:=Zw0 (P:=P) (w:=w) (base:=base) zD42 g zd39 zd43 zd44
  have zd37:=Zw5 (P:=P) (w:=w) (base:=base) zD37 g zd34 zd4 zd8
  have zd36:=Zw6 (P:=P) (w:=w) (base:=base) zD36 g zd38 zd42 zd37 zd5 zd8
  have zd31:=Zxb (P:=P) (w:=w) (base:=base) zD31 g
  have zd45:=ZwX (P:=P) (w:=w) (base:=base) zD45 g zd38 zd31 zd42 zd8
  have zd30:=Zxc (P:=P) (w:=w) (base:=base) zD30 g
  have zd29:=Zxd (P:=P) (w:=w) (base:=base) zD29 g zd32 zd46 zd36 zd45 zd31 zd30
  have zd28:=Zxe (P:=P) (w:=w) (base:=base) zD28 g zd29 zd16
  have zd47:=ZwV (P:=P) (w:=w) (base:=base) zD47 g zd15 zd13 zd4
  have zd48:=ZwU (P:=P) (w:=w) (base:=base) zD48 g zd15 zd47
  have zd49:=ZwT (P:=P) (w:=w) (base:=base) zD49 g zd48
  have zd51:=ZwR (P:=P) (w:=w) (base:=base) zD51 g zd15 zd4
  have zd50:=ZwS (P:=P) (w:=w) (base:=base) zD50 g zd15 zd51 zd48
  have zd53:=ZwP (P:=P) (w:=w) (base:=base) zD53 g zd4
  have zd55:=ZwN (P:=P) (w:=w) (base:=base) zD55 g zd15 zd8
  have zd54:=ZwO (P:=P) (w:=w) (base:=base) zD54 g zd15
  have zd52:=ZwQ (P:=P) (w:=w) (base:=base) zD52 g zd53 zd15 zd55 zd51 zd48 zd54
  have zd60:=ZwI (P:=P) (w:=w) (base:=base) zD60 g zd5 zd9
  have zd59:=ZwJ (P:=P) (w:=w) (base:=base) zD59 g zd60 zd13 zd5 zd4
  have zd68:=ZwA (P:=P) (w:=w) (base:=base) zD68 g zd10
  have zd65:=ZwD (P:=P) (w:=w) (base:=base) zD65 g
  have zd64:=ZwE (P:=P) (w:=w) (base:=base) zD64 g zd48 zd65
  have zd67:=ZwB (P:=P) (w:=w) (base:=base) zD67 g zd6
  have zd66:=ZwC (P:=P) (w:=w) (base:=base) zD66 g zd67 zd5 zd6 zd8 zd3 zd65
  have zd63:=ZwF (P:=P) (w:=w) (base:=base) zD63 g zd68 zd64 zd66 zd6
  have zd62:=ZwG (P:=P) (w:=w) (base:=base) zD62 g
  have zd72:=Zww (P:=P) (w:=w) (base:=base) zD72 g zd2 zd4
  have zd73:=Zwv (P:=P) (w:=w) (base:=base) zD73 g zd4
  have zd70:=Zwy (P:=P) (w:=w) (base:=base) zD70 g zd60 zd4
  have zd71:=Zwx (P:=P) (w:=w) (base:=base) zD71 g zd15 zd60 zd4
  have zd69:=Zwz (P:=P) (w:=w) (base:=base) zD69 g zd72 zd73 zd70 zd71
  have zd61:=ZwH (P:=P) (w:=w) (base:=base) zD61 g zd15
  have zd58:=ZwK (P:=P) (w:=w) (base:=base) zD58 g zd15 zd59 zd63 zd62 zd69 zd61
  have zd57:=ZwL (P:=P) (w:=w) (base:=base) zD57 g
  have zd56:=ZwM (P:=P) (w:=w) (base:=base) zD56 g zd49 zd50 zd58 zd52 zd25 zd57 zd22
  have zd74:=Zwu (P:=P) (w:=w) (base:=base) zD74 g zd7
  have zd75:=Zwt (P:=P) (w:=w) (base:=base) zD75 g zd2 zd4
  have zd76:=Zws (P:=P) (w:=w) (base:=base) zD76 g
  have zd77:=Zwr (P:=P) (w:=w) (base:=base) zD77 g zd76
  have zd78:=Zwq (P:=P) (w:=w) (base:=base) zD78 g
  have zd79:=Zwp (P:=P) (w:=w) (base:=base) zD79 g
  have zd80:=Zwo (P:=P) (w:=w) (base:=base) zD80 g zd79 zd78
  have zd82:=Zwm (P:=P) (w:=w) (base:=base) zD82 g
  have zd81:=Zwn (P:=P) (w:=w) (base:=base) zD81 g zd82 zd79
  have zd83:=Zwl (P:=P) (w:=w) (base:=base) zD83 g
  have zd84:=Zwk (P:=P) (w:=w) (base:=base) zD84 g
  have zd85:=Zwj (P:=P) (w:=w) (base:=base) zD85 g
  have zd86:=Zwi (P:=P) (w:=w) (base:=base) zD86 g zd81 zd28
  have zd87:=Zwh (P:=P) (w:=w) (base:=base) zD87 g zd80 zd84 zd77 zd83 zd56 zd74 zd28
  have zd88:=Zwg (P:=P) (w:=w) (base:=base) zD88 g zd86 zd83
  exact Zwf F g zd80 zd77 zd87 zd83 zd85 zd88 zd56 zd75
end
theorem us1 {p:List Value→Prop} (h:∀a,p [a]):∀us:List Value,us.length=1→p us
  | [a],_=>h a
theorem us2 {p:List Value→Prop} (h:∀a b,p [a,b]):∀us:List Value,us.length=2→p us
  | [a,b],_=>h a b
theorem us3 {p:List Value→Prop} (h:∀a b c,p [a,b,c]):∀us:List Value,us.length=3→p us
  | [a,b,c],_=>h a b c
theorem us4 {p:List Value→Prop} (h:∀a b c d,p [a,b,c,d]):∀us:List Value,us.length=4→p us
  | [a,b,c,d],_=>h a b c d
theorem us5 {p:List Value→Prop} (h:∀a b c d e,p [a,b,c,d,e]):∀us:List Value,us.length=5→p us
  | [a,b,c,d,e],_=>h a b c d e
theorem us6 {p:List Value→Prop} (h:∀a b c d e f,p [a,b,c,d,e,f]):∀us:List Value,us.length=6→p us
  | [a,b,c,d,e,f],_=>h a b c d e f
open PySem.W
theorem ZtZ {l:OpenLaw} {w:World} {K:Frag} {h:Heap} {mg:Str→Option Value} {fa:Addr} (X:K.In h) (G:h.Ns mainGlobals mg) (hfa:mg "law"=some (.ref fa))
    (aC_End:nsIn K mainGlobals "End"=some (some (.ref C_End)))
    (aC_Pile:nsIn K mainGlobals "Pile"=some (some (.ref C_Pile)))
    (a0:findIn K (.ref C_Pile) "__init__"=some (some (.ref f0))) (i0:isFn K (.ref f0)=true) (l0:K.lookup f0=some ⟨oc0,od0,.func (fnOf "__init__" "Pile.__init__" (Zr zs0) (Zn zs0) (Zg zs0) .none kV0 dc0 pm0 an0 cd0 ct0),sl0⟩) (c0:codeIn K cd0 "Pile.__init__"=true) (k0:keepIn K (.ref f0)=true)
    (a1:nsIn K mainGlobals "room"=some (some (.ref f1))) (l1:K.lookup f1=some ⟨oc1,od1,.func (fnOf "room" "room" (Zr zs1) (Zn zs1) (Zg zs1) .none kV1 dc1 pm1 an1 cd1 ct1),sl1⟩) (c1:codeIn K cd1 "room"=true) (k1:keepIn K (.ref f1)=true)
    (a2:nsIn K mainGlobals "lay"=some (some (.ref f2))) (l2:K.lookup f2=some ⟨oc2,od2,.func (fnOf "lay" "lay" (Zr zs2) (Zn zs2) (Zg zs2) .none kV2 dc2 pm2 an2 cd2 ct2),sl2⟩) (c2:codeIn K cd2 "lay"=true) (k2:keepIn K (.ref f2)=true)
    (a3:nsIn K mainGlobals "take"=some (some (.ref f3))) (l3:K.lookup f3=some ⟨oc3,od3,.func (fnOf "take" "take" (Zr zs3) (Zn zs3) (Zg zs3) .none kV3 dc3 pm3 an3 cd3 ct3),sl3⟩) (c3:codeIn K cd3 "take"=true) (k3:keepIn K (.ref f3)=true)
    (a4:nsIn K mainGlobals "plus"=some (some (.ref f4))) (l4:K.lookup f4=some ⟨oc4,od4,.func (fnOf "plus" "plus" (Zr zs4) (Zn zs4) (Zg zs4) .none kV4 dc4 pm4 an4 cd4 ct4),sl4⟩) (c4:codeIn K cd4 "plus"=true) (k4:keepIn K (.ref f4)=true)
    (a5:nsIn K mainGlobals "offset"=some (some (.ref f5))) (l5:K.lookup f5=some ⟨oc5,od5,.func (fnOf "offset" "offset" (Zr zs5) (Zn zs5) (Zg zs5) .none kV5 dc5 pm5 an5 cd5 ct5),sl5⟩) (c5:codeIn K cd5 "offset"=true) (k5:keepIn K (.ref f5)=true)
    (a6:nsIn K mainGlobals "past"=some (some (.ref f6))) (l6:K.lookup f6=some ⟨oc6,od6,.func (fnOf "past" "past" (Zr zs6) (Zn zs6) (Zg zs6) .none kV6 dc6 pm6 an6 cd6 ct6),sl6⟩) (c6:codeIn K cd6 "past"=true) (k6:keepIn K (.ref f6)=true)
    (a7:findIn K (.ref C_End) "__init__"=some (some (.ref f7))) (i7:isFn K (.ref f7)=true) (l7:K.lookup f7=some ⟨oc7,od7,.func (fnOf "__init__" "End.__init__" (Zr zs7) (Zn zs7) (Zg zs7) .none kV7 dc7 pm7 an7 cd7 ct7),sl7⟩) (c7:codeIn K cd7 "End.__init__"=true) (k7:keepIn K (.ref f7)=true)
    (a8:nsIn K mainGlobals "start_timer"=some (some (.ref f8))) (l8:K.lookup f8=some ⟨oc8,od8,.func (fnOf "start_timer" "start_timer" (Zr zs8) (Zn zs8) (Zg zs8) .none kV8 dc8 pm8 an8 cd8 ct8),sl8⟩) (c8:codeIn K cd8 "start_timer"=true) (k8:keepIn K (.ref f8)=true)
    (a9:nsIn K mainGlobals "our_window"=some (some (.ref f9))) (l9:K.lookup f9=some ⟨oc9,od9,.func (fnOf "our_window" "our_window" (Zr zs9) (Zn zs9) (Zg zs9) .none kV9 dc9 pm9 an9 cd9 ct9),sl9⟩) (c9:codeIn K cd9 "our_window"=true) (k9:keepIn K (.ref f9)=true)
    (a10:nsIn K mainGlobals "has_sent_fin"=some (some (.ref f10))) (l10:K.lookup f10=some ⟨oc10,od10,.func (fnOf "has_sent_fin" "has_sent_fin" (Zr Zkw) (Zn Zkw) (Zg Zkw) .none kV10 dc10 pm10 an10 cd10 ct10),sl10⟩) (c10:codeIn K cd10 "has_sent_fin"=true) (k10:keepIn K (.ref f10)=true)
    (a11:nsIn K mainGlobals "folded"=some (some (.ref f11))) (l11:K.lookup f11=some ⟨oc11,od11,.func (fnOf "folded" "folded" (Zr Zkv) (Zn Zkv) (Zg Zkv) .none kV11 dc11 pm11 an11 cd11 ct11),sl11⟩) (c11:codeIn K cd11 "folded"=true) (k11:keepIn K (.ref f11)=true)
    (a12:nsIn K mainGlobals "sum_of"=some (some (.ref f12))) (l12:K.lookup f12=some ⟨oc12,od12,.func (fnOf "sum_of" "sum_of" (Zr Zku) (Zn Zku) (Zg Zku) .none kV12 dc12 pm12 an12 cd12 ct12),sl12⟩) (c12:codeIn K cd12 "sum_of"=true) (k12:keepIn K (.ref f12)=true)
    (a13:nsIn K mainGlobals "length"=some (some (.ref f13))) (l13:K.lookup f13=some ⟨oc13,od13,.func (fnOf "length" "length" (Zr Zkt) (Zn Zkt) (Zg Zkt) .none kV13 dc13 pm13 an13 cd13 ct13),sl13⟩) (c13:codeIn K cd13 "length"=true) (k13:keepIn K (.ref f13)=true)
    (a14:nsIn K mainGlobals "has"=some (some (.ref f14))) (l14:K.lookup f14=some ⟨oc14,od14,.func (fnOf "has" "has" (Zr Zks) (Zn Zks) (Zg Zks) .none kV14 dc14 pm14 an14 cd14 ct14),sl14⟩) (c14:codeIn K cd14 "has"=true) (k14:keepIn K (.ref f14)=true)
    (a15:nsIn K mainGlobals "bears"=some (some (.ref f15))) (l15:K.lookup f15=some ⟨oc15,od15,.func (fnOf "bears" "bears" (Zr Zkr) (Zn Zkr) (Zg Zkr) .none kV15 dc15 pm15 an15 cd15 ct15),sl15⟩) (c15:codeIn K cd15 "bears"=true) (k15:keepIn K (.ref f15)=true)
    (a16:nsIn K mainGlobals "put"=some (some (.ref f16))) (l16:K.lookup f16=some ⟨oc16,od16,.func (fnOf "put" "put" (Zr Zkq) (Zn Zkq) (Zg Zkq) .none kV16 dc16 pm16 an16 cd16 ct16),sl16⟩) (c16:codeIn K cd16 "put"=true) (k16:keepIn K (.ref f16)=true)
    (a17:nsIn K mainGlobals "bytes_ahead_of_sum"=some (some (.ref f17))) (l17:K.lookup f17=some ⟨oc17,od17,.func (fnOf "bytes_ahead_of_sum" "bytes_ahead_of_sum" (Zr Zkp) (Zn Zkp) (Zg Zkp) .none kV17 dc17 pm17 an17 cd17 ct17),sl17⟩) (c17:codeIn K cd17 "bytes_ahead_of_sum"=true) (k17:keepIn K (.ref f17)=true)
    (a18:nsIn K mainGlobals "byte_of_head"=some (some (.ref f18))) (l18:K.lookup f18=some ⟨oc18,od18,.func (fnOf "byte_of_head" "byte_of_head" (Zr Zko) (Zn Zko) (Zg Zko) .none kV18 dc18 pm18 an18 cd18 ct18),sl18⟩) (c18:codeIn K cd18 "byte_of_head"=true) (k18:keepIn K (.ref f18)=true)
    (a19:nsIn K mainGlobals "bytes_of_most"=some (some (.ref f19))) (l19:K.lookup f19=some ⟨oc19,od19,.func (fnOf "bytes_of_most" "bytes_of_most" (Zr Zkn) (Zn Zkn) (Zg Zkn) .none kV19 dc19 pm19 an19 cd19 ct19),sl19⟩) (c19:codeIn K cd19 "bytes_of_most"=true) (k19:keepIn K (.ref f19)=true)
    (a20:nsIn K mainGlobals "two_bytes"=some (some (.ref f20))) (l20:K.lookup f20=some ⟨oc20,od20,.func (fnOf "two_bytes" "two_bytes" (Zr Zkm) (Zn Zkm) (Zg Zkm) .none kV20 dc20 pm20 an20 cd20 ct20),sl20⟩) (c20:codeIn K cd20 "two_bytes"=true) (k20:keepIn K (.ref f20)=true)
    (a21:nsIn K mainGlobals "four_bytes"=some (some (.ref f21))) (l21:K.lookup f21=some ⟨oc21,od21,.func (fnOf "four_bytes" "four_bytes" (Zr Zkl) (Zn Zkl) (Zg Zkl) .none kV21 dc21 pm21 an21 cd21 ct21),sl21⟩) (c21:codeIn K cd21 "four_bytes"=true) (k21:keepIn K (.ref f21)=true)
    (a22:nsIn K mainGlobals "is_right"=some (some (.ref f22))) (l22:K.lookup f22=some ⟨oc22,od22,.func (fnOf "is_right" "is_right" (Zr Zkk) (Zn Zkk) (Zg Zkk) .none kV22 dc22 pm22 an22 cd22 ct22),sl22⟩) (c22:codeIn K cd22 "is_right"=true) (k22:keepIn K (.ref f22)=true)
    (a23:nsIn K mainGlobals "head_of"=some (some (.ref f23))) (l23:K.lookup f23=some ⟨oc23,od23,.func (fnOf "head_of" "head_of" (Zr Zkj) (Zn Zkj) (Zg Zkj) .none kV23 dc23 pm23 an23 cd23 ct23),sl23⟩) (c23:codeIn K cd23 "head_of"=true) (k23:keepIn K (.ref f23)=true)
    (a24:nsIn K mainGlobals "is_right_long_head"=some (some (.ref f24))) (l24:K.lookup f24=some ⟨oc24,od24,.func (fnOf "is_right_long_head" "is_right_long_head" (Zr Zki) (Zn Zki) (Zg Zki) .none kV24 dc24 pm24 an24 cd24 ct24),sl24⟩) (c24:codeIn K cd24 "is_right_long_head"=true) (k24:keepIn K (.ref f24)=true)
    (a25:nsIn K mainGlobals "get"=some (some (.ref f25))) (l25:K.lookup f25=some ⟨oc25,od25,.func (fnOf "get" "get" (Zr Zkh) (Zn Zkh) (Zg Zkh) .none kV25 dc25 pm25 an25 cd25 ct25),sl25⟩) (c25:codeIn K cd25 "get"=true) (k25:keepIn K (.ref f25)=true)
    (a26:nsIn K mainGlobals "two_at"=some (some (.ref f26))) (l26:K.lookup f26=some ⟨oc26,od26,.func (fnOf "two_at" "two_at" (Zr Zkg) (Zn Zkg) (Zg Zkg) .none kV26 dc26 pm26 an26 cd26 ct26),sl26⟩) (c26:codeIn K cd26 "two_at"=true) (k26:keepIn K (.ref f26)=true)
    (a27:nsIn K mainGlobals "four_at"=some (some (.ref f27))) (l27:K.lookup f27=some ⟨oc27,od27,.func (fnOf "four_at" "four_at" (Zr Zkf) (Zn Zkf) (Zg Zkf) .none kV27 dc27 pm27 an27 cd27 ct27),sl27⟩) (c27:codeIn K cd27 "four_at"=true) (k27:keepIn K (.ref f27)=true)
    (a28:nsIn K mainGlobals "send"=some (some (.ref f28))) (l28:K.lookup f28=some ⟨oc28,od28,.func (fnOf "send" "send" (Zr Zke) (Zn Zke) (Zg Zke) .none kV28 dc28 pm28 an28 cd28 ct28),sl28⟩) (c28:codeIn K cd28 "send"=true) (k28:keepIn K (.ref f28)=true)
    (a29:nsIn K mainGlobals "going"=some (some (.ref f29))) (l29:K.lookup f29=some ⟨oc29,od29,.func (fnOf "going" "going" (Zr Zkd) (Zn Zkd) (Zg Zkd) .none kV29 dc29 pm29 an29 cd29 ct29),sl29⟩) (c29:codeIn K cd29 "going"=true) (k29:keepIn K (.ref f29)=true)
    (a30:nsIn K mainGlobals "paid_reset"=some (some (.ref f30))) (l30:K.lookup f30=some ⟨oc30,od30,.func (fnOf "paid_reset" "paid_reset" (Zr Zkc) (Zn Zkc) (Zg Zkc) .none kV30 dc30 pm30 an30 cd30 ct30),sl30⟩) (c30:codeIn K cd30 "paid_reset"=true) (k30:keepIn K (.ref f30)=true)
    (a31:nsIn K mainGlobals "is_due"=some (some (.ref f31))) (l31:K.lookup f31=some ⟨oc31,od31,.func (fnOf "is_due" "is_due" (Zr Zkb) (Zn Zkb) (Zg Zkb) .none kV31 dc31 pm31 an31 cd31 ct31),sl31⟩) (c31:codeIn K cd31 "is_due"=true) (k31:keepIn K (.ref f31)=true)
    (a32:nsIn K mainGlobals "again"=some (some (.ref f32))) (l32:K.lookup f32=some ⟨oc32,od32,.func (fnOf "again" "again" (Zr Zka) (Zn Zka) (Zg Zka) .none kV32 dc32 pm32 an32 cd32 ct32),sl32⟩) (c32:codeIn K cd32 "again"=true) (k32:keepIn K (.ref f32)=true)
    (a33:nsIn K mainGlobals "most_at_once"=some (some (.ref f33))) (l33:K.lookup f33=some ⟨oc33,od33,.func (fnOf "most_at_once" "most_at_once" (Zr Zj9) (Zn Zj9) (Zg Zj9) .none kV33 dc33 pm33 an33 cd33 ct33),sl33⟩) (c33:codeIn K cd33 "most_at_once"=true) (k33:keepIn K (.ref f33)=true)
    (a34:nsIn K mainGlobals "paid_syn"=some (some (.ref f34))) (l34:K.lookup f34=some ⟨oc34,od34,.func (fnOf "paid_syn" "paid_syn" (Zr Zj8) (Zn Zj8) (Zg Zj8) .none kV34 dc34 pm34 an34 cd34 ct34),sl34⟩) (c34:codeIn K cd34 "paid_syn"=true) (k34:keepIn K (.ref f34)=true)
    (a35:nsIn K mainGlobals "segment_of"=some (some (.ref f35))) (l35:K.lookup f35=some ⟨oc35,od35,.func (fnOf "segment_of" "segment_of" (Zr Zj7) (Zn Zj7) (Zg Zj7) .none kV35 dc35 pm35 an35 cd35 ct35),sl35⟩) (c35:codeIn K cd35 "segment_of"=true) (k35:keepIn K (.ref f35)=true)
    (a36:nsIn K mainGlobals "going_as_new"=some (some (.ref f36))) (l36:K.lookup f36=some ⟨oc36,od36,.func (fnOf "going_as_new" "going_as_new" (Zr Zj6) (Zn Zj6) (Zg Zj6) .none kV36 dc36 pm36 an36 cd36 ct36),sl36⟩) (c36:codeIn K cd36 "going_as_new"=true) (k36:keepIn K (.ref f36)=true)
    (a37:nsIn K mainGlobals "new_syn"=some (some (.ref f37))) (l37:K.lookup f37=some ⟨oc37,od37,.func (fnOf "new_syn" "new_syn" (Zr Zj5) (Zn Zj5) (Zg Zj5) .none kV37 dc37 pm37 an37 cd37 ct37),sl37⟩) (c37:codeIn K cd37 "new_syn"=true) (k37:keepIn K (.ref f37)=true)
    (a38:nsIn K mainGlobals "has_more"=some (some (.ref f38))) (l38:K.lookup f38=some ⟨oc38,od38,.func (fnOf "has_more" "has_more" (Zr Zj4) (Zn Zj4) (Zg Zj4) .none kV38 dc38 pm38 an38 cd38 ct38),sl38⟩) (c38:codeIn K cd38 "has_more"=true) (k38:keepIn K (.ref f38)=true)
    (a39:nsIn K mainGlobals "has_new_data"=some (some (.ref f39))) (l39:K.lookup f39=some ⟨oc39,od39,.func (fnOf "has_new_data" "has_new_data" (Zr Zj3) (Zn Zj3) (Zg Zj3) .none kV39 dc39 pm39 an39 cd39 ct39),sl39⟩) (c39:codeIn K cd39 "has_new_data"=true) (k39:keepIn K (.ref f39)=true)
    (a40:nsIn K mainGlobals "unsent"=some (some (.ref f40))) (l40:K.lookup f40=some ⟨oc40,od40,.func (fnOf "unsent" "unsent" (Zr Zj2) (Zn Zj2) (Zg Zj2) .none kV40 dc40 pm40 an40 cd40 ct40),sl40⟩) (c40:codeIn K cd40 "unsent"=true) (k40:keepIn K (.ref f40)=true)
    (a41:nsIn K mainGlobals "has_new_fin"=some (some (.ref f41))) (l41:K.lookup f41=some ⟨oc41,od41,.func (fnOf "has_new_fin" "has_new_fin" (Zr Zj1) (Zn Zj1) (Zg Zj1) .none kV41 dc41 pm41 an41 cd41 ct41),sl41⟩) (c41:codeIn K cd41 "has_new_fin"=true) (k41:keepIn K (.ref f41)=true)
    (a42:nsIn K mainGlobals "new_piece"=some (some (.ref f42))) (l42:K.lookup f42=some ⟨oc42,od42,.func (fnOf "new_piece" "new_piece" (Zr Zj0) (Zn Zj0) (Zg Zj0) .none kV42 dc42 pm42 an42 cd42 ct42),sl42⟩) (c42:codeIn K cd42 "new_piece"=true) (k42:keepIn K (.ref f42)=true)
    (a43:nsIn K mainGlobals "new_data"=some (some (.ref f43))) (l43:K.lookup f43=some ⟨oc43,od43,.func (fnOf "new_data" "new_data" (Zr ZjZ) (Zn ZjZ) (Zg ZjZ) .none kV43 dc43 pm43 an43 cd43 ct43),sl43⟩) (c43:codeIn K cd43 "new_data"=true) (k43:keepIn K (.ref f43)=true)
    (a44:nsIn K mainGlobals "new_fin"=some (some (.ref f44))) (l44:K.lookup f44=some ⟨oc44,od44,.func (fnOf "new_fin" "new_fin" (Zr ZjY) (Zn ZjY) (Zg ZjY) .none kV44 dc44 pm44 an44 cd44 ct44),sl44⟩) (c44:codeIn K cd44 "new_fin"=true) (k44:keepIn K (.ref f44)=true)
    (a45:nsIn K mainGlobals "going_as_probe"=some (some (.ref f45))) (l45:K.lookup f45=some ⟨oc45,od45,.func (fnOf "going_as_probe" "going_as_probe" (Zr ZjX) (Zn ZjX) (Zg ZjX) .none kV45 dc45 pm45 an45 cd45 ct45),sl45⟩) (c45:codeIn K cd45 "going_as_probe"=true) (k45:keepIn K (.ref f45)=true)
    (a46:nsIn K mainGlobals "going_as_answer"=some (some (.ref f46))) (l46:K.lookup f46=some ⟨oc46,od46,.func (fnOf "going_as_answer" "going_as_answer" (Zr ZjW) (Zn ZjW) (Zg ZjW) .none kV46 dc46 pm46 an46 cd46 ct46),sl46⟩) (c46:codeIn K cd46 "going_as_answer"=true) (k46:keepIn K (.ref f46)=true)
    (a47:nsIn K mainGlobals "reset_for"=some (some (.ref f47))) (l47:K.lookup f47=some ⟨oc47,od47,.func (fnOf "reset_for" "reset_for" (Zr ZjV) (Zn ZjV) (Zg ZjV) .none kV47 dc47 pm47 an47 cd47 ct47),sl47⟩) (c47:codeIn K cd47 "reset_for"=true) (k47:keepIn K (.ref f47)=true)
    (a48:nsIn K mainGlobals "owe_reset_for"=some (some (.ref f48))) (l48:K.lookup f48=some ⟨oc48,od48,.func (fnOf "owe_reset_for" "owe_reset_for" (Zr ZjU) (Zn ZjU) (Zg ZjU) .none kV48 dc48 pm48 an48 cd48 ct48),sl48⟩) (c48:codeIn K cd48 "owe_reset_for"=true) (k48:keepIn K (.ref f48)=true)
    (a49:nsIn K mainGlobals "come_to_closed"=some (some (.ref f49))) (l49:K.lookup f49=some ⟨oc49,od49,.func (fnOf "come_to_closed" "come_to_closed" (Zr ZjT) (Zn ZjT) (Zg ZjT) .none kV49 dc49 pm49 an49 cd49 ct49),sl49⟩) (c49:codeIn K cd49 "come_to_closed"=true) (k49:keepIn K (.ref f49)=true)
    (a50:nsIn K mainGlobals "come_to_listen"=some (some (.ref f50))) (l50:K.lookup f50=some ⟨oc50,od50,.func (fnOf "come_to_listen" "come_to_listen" (Zr ZjS) (Zn ZjS) (Zg ZjS) .none kV50 dc50 pm50 an50 cd50 ct50),sl50⟩) (c50:codeIn K cd50 "come_to_listen"=true) (k50:keepIn K (.ref f50)=true)
    (a51:nsIn K mainGlobals "hear_syn"=some (some (.ref f51))) (l51:K.lookup f51=some ⟨oc51,od51,.func (fnOf "hear_syn" "hear_syn" (Zr ZjR) (Zn ZjR) (Zg ZjR) .none kV51 dc51 pm51 an51 cd51 ct51),sl51⟩) (c51:codeIn K cd51 "hear_syn"=true) (k51:keepIn K (.ref f51)=true)
    (a52:nsIn K mainGlobals "come_to_syn_sent"=some (some (.ref f52))) (l52:K.lookup f52=some ⟨oc52,od52,.func (fnOf "come_to_syn_sent" "come_to_syn_sent" (Zr ZjQ) (Zn ZjQ) (Zg ZjQ) .none kV52 dc52 pm52 an52 cd52 ct52),sl52⟩) (c52:codeIn K cd52 "come_to_syn_sent"=true) (k52:keepIn K (.ref f52)=true)
    (a53:nsIn K mainGlobals "answers_syn"=some (some (.ref f53))) (l53:K.lookup f53=some ⟨oc53,od53,.func (fnOf "answers_syn" "answers_syn" (Zr ZjP) (Zn ZjP) (Zg ZjP) .none kV53 dc53 pm53 an53 cd53 ct53),sl53⟩) (c53:codeIn K cd53 "answers_syn"=true) (k53:keepIn K (.ref f53)=true)
    (a54:nsIn K mainGlobals "refuse"=some (some (.ref f54))) (l54:K.lookup f54=some ⟨oc54,od54,.func (fnOf "refuse" "refuse" (Zr ZjO) (Zn ZjO) (Zg ZjO) .none kV54 dc54 pm54 an54 cd54 ct54),sl54⟩) (c54:codeIn K cd54 "refuse"=true) (k54:keepIn K (.ref f54)=true)
    (a55:nsIn K mainGlobals "go_on_from_syn_sent"=some (some (.ref f55))) (l55:K.lookup f55=some ⟨oc55,od55,.func (fnOf "go_on_from_syn_sent" "go_on_from_syn_sent" (Zr ZjN) (Zn ZjN) (Zg ZjN) .none kV55 dc55 pm55 an55 cd55 ct55),sl55⟩) (c55:codeIn K cd55 "go_on_from_syn_sent"=true) (k55:keepIn K (.ref f55)=true)
    (a56:nsIn K mainGlobals "arrive"=some (some (.ref f56))) (l56:K.lookup f56=some ⟨oc56,od56,.func (fnOf "arrive" "arrive" (Zr ZjM) (Zn ZjM) (Zg ZjM) .none kV56 dc56 pm56 an56 cd56 ct56),sl56⟩) (c56:codeIn K cd56 "arrive"=true) (k56:keepIn K (.ref f56)=true)
    (a57:nsIn K mainGlobals "is_for"=some (some (.ref f57))) (l57:K.lookup f57=some ⟨oc57,od57,.func (fnOf "is_for" "is_for" (Zr ZjL) (Zn ZjL) (Zg ZjL) .none kV57 dc57 pm57 an57 cd57 ct57),sl57⟩) (c57:codeIn K cd57 "is_for"=true) (k57:keepIn K (.ref f57)=true)
    (a58:nsIn K mainGlobals "come_to_stream"=some (some (.ref f58))) (l58:K.lookup f58=some ⟨oc58,od58,.func (fnOf "come_to_stream" "come_to_stream" (Zr ZjK) (Zn ZjK) (Zg ZjK) .none kV58 dc58 pm58 an58 cd58 ct58),sl58⟩) (c58:codeIn K cd58 "come_to_stream"=true) (k58:keepIn K (.ref f58)=true)
    (a59:nsIn K mainGlobals "fits"=some (some (.ref f59))) (l59:K.lookup f59=some ⟨oc59,od59,.func (fnOf "fits" "fits" (Zr ZjJ) (Zn ZjJ) (Zg ZjJ) .none kV59 dc59 pm59 an59 cd59 ct59),sl59⟩) (c59:codeIn K cd59 "fits"=true) (k59:keepIn K (.ref f59)=true)
    (a60:nsIn K mainGlobals "is_in_window"=some (some (.ref f60))) (l60:K.lookup f60=some ⟨oc60,od60,.func (fnOf "is_in_window" "is_in_window" (Zr ZjI) (Zn ZjI) (Zg ZjI) .none kV60 dc60 pm60 an60 cd60 ct60),sl60⟩) (c60:codeIn K cd60 "is_in_window"=true) (k60:keepIn K (.ref f60)=true)
    (a61:nsIn K mainGlobals "turn_away"=some (some (.ref f61))) (l61:K.lookup f61=some ⟨oc61,od61,.func (fnOf "turn_away" "turn_away" (Zr ZjH) (Zn ZjH) (Zg ZjH) .none kV61 dc61 pm61 an61 cd61 ct61),sl61⟩) (c61:codeIn K cd61 "turn_away"=true) (k61:keepIn K (.ref f61)=true)
    (a62:nsIn K mainGlobals "hear_reset"=some (some (.ref f62))) (l62:K.lookup f62=some ⟨oc62,od62,.func (fnOf "hear_reset" "hear_reset" (Zr ZjG) (Zn ZjG) (Zg ZjG) .none kV62 dc62 pm62 an62 cd62 ct62),sl62⟩) (c62:codeIn K cd62 "hear_reset"=true) (k62:keepIn K (.ref f62)=true)
    (a63:nsIn K mainGlobals "goes_on_behind_answer"=some (some (.ref f63))) (l63:K.lookup f63=some ⟨oc63,od63,.func (fnOf "goes_on_behind_answer" "goes_on_behind_answer" (Zr ZjF) (Zn ZjF) (Zg ZjF) .none kV63 dc63 pm63 an63 cd63 ct63),sl63⟩) (c63:codeIn K cd63 "goes_on_behind_answer"=true) (k63:keepIn K (.ref f63)=true)
    (a64:nsIn K mainGlobals "has_answered_syn"=some (some (.ref f64))) (l64:K.lookup f64=some ⟨oc64,od64,.func (fnOf "has_answered_syn" "has_answered_syn" (Zr ZjE) (Zn ZjE) (Zg ZjE) .none kV64 dc64 pm64 an64 cd64 ct64),sl64⟩) (c64:codeIn K cd64 "has_answered_syn"=true) (k64:keepIn K (.ref f64)=true)
    (a65:nsIn K mainGlobals "take_window"=some (some (.ref f65))) (l65:K.lookup f65=some ⟨oc65,od65,.func (fnOf "take_window" "take_window" (Zr ZjD) (Zn ZjD) (Zg ZjD) .none kV65 dc65 pm65 an65 cd65 ct65),sl65⟩) (c65:codeIn K cd65 "take_window"=true) (k65:keepIn K (.ref f65)=true)
    (a66:nsIn K mainGlobals "hear_answer"=some (some (.ref f66))) (l66:K.lookup f66=some ⟨oc66,od66,.func (fnOf "hear_answer" "hear_answer" (Zr ZjC) (Zn ZjC) (Zg ZjC) .none kV66 dc66 pm66 an66 cd66 ct66),sl66⟩) (c66:codeIn K cd66 "hear_answer"=true) (k66:keepIn K (.ref f66)=true)
    (a67:nsIn K mainGlobals "is_newer"=some (some (.ref f67))) (l67:K.lookup f67=some ⟨oc67,od67,.func (fnOf "is_newer" "is_newer" (Zr ZjB) (Zn ZjB) (Zg ZjB) .none kV67 dc67 pm67 an67 cd67 ct67),sl67⟩) (c67:codeIn K cd67 "is_newer"=true) (k67:keepIn K (.ref f67)=true)
    (a68:nsIn K mainGlobals "end_what_is_acknowledged"=some (some (.ref f68))) (l68:K.lookup f68=some ⟨oc68,od68,.func (fnOf "end_what_is_acknowledged" "end_what_is_acknowledged" (Zr ZjA) (Zn ZjA) (Zg ZjA) .none kV68 dc68 pm68 an68 cd68 ct68),sl68⟩) (c68:codeIn K cd68 "end_what_is_acknowledged"=true) (k68:keepIn K (.ref f68)=true)
    (a69:nsIn K mainGlobals "hear_stream"=some (some (.ref f69))) (l69:K.lookup f69=some ⟨oc69,od69,.func (fnOf "hear_stream" "hear_stream" (Zr Zjz) (Zn Zjz) (Zg Zjz) .none kV69 dc69 pm69 an69 cd69 ct69),sl69⟩) (c69:codeIn K cd69 "hear_stream"=true) (k69:keepIn K (.ref f69)=true)
    (a70:nsIn K mainGlobals "keep_data"=some (some (.ref f70))) (l70:K.lookup f70=some ⟨oc70,od70,.func (fnOf "keep_data" "keep_data" (Zr Zjy) (Zn Zjy) (Zg Zjy) .none kV70 dc70 pm70 an70 cd70 ct70),sl70⟩) (c70:codeIn K cd70 "keep_data"=true) (k70:keepIn K (.ref f70)=true)
    (a71:nsIn K mainGlobals "keep_fin"=some (some (.ref f71))) (l71:K.lookup f71=some ⟨oc71,od71,.func (fnOf "keep_fin" "keep_fin" (Zr Zjx) (Zn Zjx) (Zg Zjx) .none kV71 dc71 pm71 an71 cd71 ct71),sl71⟩) (c71:codeIn K cd71 "keep_fin"=true) (k71:keepIn K (.ref f71)=true)
    (a72:nsIn K mainGlobals "draw_in_order"=some (some (.ref f72))) (l72:K.lookup f72=some ⟨oc72,od72,.func (fnOf "draw_in_order" "draw_in_order" (Zr Zjw) (Zn Zjw) (Zg Zjw) .none kV72 dc72 pm72 an72 cd72 ct72),sl72⟩) (c72:codeIn K cd72 "draw_in_order"=true) (k72:keepIn K (.ref f72)=true)
    (a73:nsIn K mainGlobals "hear_fin"=some (some (.ref f73))) (l73:K.lookup f73=some ⟨oc73,od73,.func (fnOf "hear_fin" "hear_fin" (Zr Zjv) (Zn Zjv) (Zg Zjv) .none kV73 dc73 pm73 an73 cd73 ct73),sl73⟩) (c73:codeIn K cd73 "hear_fin"=true) (k73:keepIn K (.ref f73)=true)
    (a74:nsIn K mainGlobals "opened"=some (some (.ref f74))) (l74:K.lookup f74=some ⟨oc74,od74,.func (fnOf "opened" "opened" (Zr Zju) (Zn Zju) (Zg Zju) .none kV74 dc74 pm74 an74 cd74 ct74),sl74⟩) (c74:codeIn K cd74 "opened"=true) (k74:keepIn K (.ref f74)=true)
    (a75:nsIn K mainGlobals "write"=some (some (.ref f75))) (l75:K.lookup f75=some ⟨oc75,od75,.func (fnOf "write" "write" (Zr Zjt) (Zn Zjt) (Zg Zjt) .none kV75 dc75 pm75 an75 cd75 ct75),sl75⟩) (c75:codeIn K cd75 "write"=true) (k75:keepIn K (.ref f75)=true)
    (a76:nsIn K mainGlobals "_law_cell"=some (some (.ref f76))) (l76:K.lookup f76=some ⟨oc76,od76,.func (fnOf "_law_cell" "_law_cell" (Zr Zjs) (Zn Zjs) (Zg Zjs) .none kV76 dc76 pm76 an76 cd76 ct76),sl76⟩) (c76:codeIn K cd76 "_law_cell"=true) (k76:keepIn K (.ref f76)=true)
    (a77:nsIn K mainGlobals "_law_mix"=some (some (.ref f77))) (l77:K.lookup f77=some ⟨oc77,od77,.func (fnOf "_law_mix" "_law_mix" (Zr Zjr) (Zn Zjr) (Zg Zjr) .none kV77 dc77 pm77 an77 cd77 ct77),sl77⟩) (c77:codeIn K cd77 "_law_mix"=true) (k77:keepIn K (.ref f77)=true)
    (a78:nsIn K mainGlobals "_law_two"=some (some (.ref f78))) (l78:K.lookup f78=some ⟨oc78,od78,.func (fnOf "_law_two" "_law_two" (Zr Zjq) (Zn Zjq) (Zg Zjq) .none kV78 dc78 pm78 an78 cd78 ct78),sl78⟩) (c78:codeIn K cd78 "_law_two"=true) (k78:keepIn K (.ref f78)=true)
    (a79:nsIn K mainGlobals "_law_folded"=some (some (.ref f79))) (l79:K.lookup f79=some ⟨oc79,od79,.func (fnOf "_law_folded" "_law_folded" (Zr Zjp) (Zn Zjp) (Zg Zjp) .none kV79 dc79 pm79 an79 cd79 ct79),sl79⟩) (c79:codeIn K cd79 "_law_folded"=true) (k79:keepIn K (.ref f79)=true)
    (a80:nsIn K mainGlobals "_law_bytes"=some (some (.ref f80))) (l80:K.lookup f80=some ⟨oc80,od80,.func (fnOf "_law_bytes" "_law_bytes" (Zr Zjo) (Zn Zjo) (Zg Zjo) .none kV80 dc80 pm80 an80 cd80 ct80),sl80⟩) (c80:codeIn K cd80 "_law_bytes"=true) (k80:keepIn K (.ref f80)=true)
    (a81:nsIn K mainGlobals "_law_read"=some (some (.ref f81))) (l81:K.lookup f81=some ⟨oc81,od81,.func (fnOf "_law_read" "_law_read" (Zr ZhW) (Zn ZhW) (Zg ZhW) .none kV81 dc81 pm81 an81 cd81 ct81),sl81⟩) (c81:codeIn K cd81 "_law_read"=true) (k81:keepIn K (.ref f81)=true)
    (a82:nsIn K mainGlobals "_law_byte"=some (some (.ref f82))) (l82:K.lookup f82=some ⟨oc82,od82,.func (fnOf "_law_byte" "_law_byte" (Zr Zjn) (Zn Zjn) (Zg Zjn) .none kV82 dc82 pm82 an82 cd82 ct82),sl82⟩) (c82:codeIn K cd82 "_law_byte"=true) (k82:keepIn K (.ref f82)=true)
    (a83:nsIn K mainGlobals "_law_plus"=some (some (.ref f83))) (l83:K.lookup f83=some ⟨oc83,od83,.func (fnOf "_law_plus" "_law_plus" (Zr Zjm) (Zn Zjm) (Zg Zjm) .none kV83 dc83 pm83 an83 cd83 ct83),sl83⟩) (c83:codeIn K cd83 "_law_plus"=true) (k83:keepIn K (.ref f83)=true)
    (a84:nsIn K mainGlobals "_law_first"=some (some (.ref f84))) (l84:K.lookup f84=some ⟨oc84,od84,.func (fnOf "_law_first" "_law_first" (Zr Zjl) (Zn Zjl) (Zg Zjl) .none kV84 dc84 pm84 an84 cd84 ct84),sl84⟩) (c84:codeIn K cd84 "_law_first"=true) (k84:keepIn K (.ref f84)=true)
    (a85:nsIn K mainGlobals "_law_segment"=some (some (.ref f85))) (l85:K.lookup f85=some ⟨oc85,od85,.func (fnOf "_law_segment" "_law_segment" (Zr Zjk) (Zn Zjk) (Zg Zjk) .none kV85 dc85 pm85 an85 cd85 ct85),sl85⟩) (c85:codeIn K cd85 "_law_segment"=true) (k85:keepIn K (.ref f85)=true)
    (a86:nsIn K mainGlobals "_law_given"=some (some (.ref f86))) (l86:K.lookup f86=some ⟨oc86,od86,.func (fnOf "_law_given" "_law_given" (Zr Zjj) (Zn Zjj) (Zg Zjj) .none kV86 dc86 pm86 an86 cd86 ct86),sl86⟩) (c86:codeIn K cd86 "_law_given"=true) (k86:keepIn K (.ref f86)=true)
    (a87:nsIn K mainGlobals "_law_opened"=some (some (.ref f87))) (l87:K.lookup f87=some ⟨oc87,od87,.func (fnOf "_law_opened" "_law_opened" (Zr Zji) (Zn Zji) (Zg Zji) .none kV87 dc87 pm87 an87 cd87 ct87),sl87⟩) (c87:codeIn K cd87 "_law_opened"=true) (k87:keepIn K (.ref f87)=true)
    (a88:nsIn K mainGlobals "_law_sent"=some (some (.ref f88))) (l88:K.lookup f88=some ⟨oc88,od88,.func (fnOf "_law_sent" "_law_sent" (Zr Zjh) (Zn Zjh) (Zg Zjh) .none kV88 dc88 pm88 an88 cd88 ct88),sl88⟩) (c88:codeIn K cd88 "_law_sent"=true) (k88:keepIn K (.ref f88)=true)
    (a89:nsIn K mainGlobals "law"=some (some (.ref f89))) (l89:K.lookup f89=some ⟨oc89,od89,.func (fnOf "law" "law" (Zr ZgM) (Zn ZgM) (Zg ZgM) .none kV89 dc89 pm89 an89 cd89 ct89),sl89⟩) (c89:codeIn K cd89 "law"=true) (k89:keepIn K (.ref f89)=true)
    (pg_End:plainGet K C_End Str.empty=true) (hd_End:hasDictIn K C_End=true) (po_End:plainOver K C_End=true) (sa_End:findIn K (.ref C_End) "__setattr__"=some (some (.builtin "object.__setattr__"))) (mk_End:makesIn K C_End=true) (kc_End:keepIn K (.ref C_End)=true)
    (pg_Pile:plainGet K C_Pile Str.empty=true) (hd_Pile:hasDictIn K C_Pile=true) (po_Pile:plainOver K C_Pile=true) (sa_Pile:findIn K (.ref C_Pile) "__setattr__"=some (some (.builtin "object.__setattr__"))) (mk_Pile:makesIn K C_Pile=true) (kc_Pile:keepIn K (.ref C_Pile)=true)
    (zA0:findIn K (.ref C_End) "behind"=some none)
    (zA1:findIn K (.ref C_End) "come"=some none)
    (zA2:findIn K (.ref C_End) "early"=some none)
    (zA3:findIn K (.ref C_End) "early_fin"=some none)
    (zA4:findIn K (.ref C_End) "error"=some none)
    (zA5:findIn K (.ref C_End) "first"=some none)
    (zA6:findIn K (.ref C_End) "has_closed"=some none)
    (zA7:findIn K (.ref C_End) "most"=some none)
    (zA8:findIn K (.ref C_End) "nxt"=some none)
    (zA9:findIn K (.ref C_End) "ours"=some none)
    (zA10:findIn K (.ref C_End) "owed_reset"=some none)
    (zA11:findIn K (.ref C_End) "owes_answer"=some none)
    (zA12:findIn K (.ref C_End) "owes_syn"=some none)
    (zA13:findIn K (.ref C_End) "probes"=some none)
    (zA14:findIn K (.ref C_End) "rcv"=some none)
    (zA15:findIn K (.ref C_End) "since"=some none)
    (zA16:findIn K (.ref C_End) "state"=some none)
    (zA17:findIn K (.ref C_End) "theirs"=some none)
    (zA18:findIn K (.ref C_End) "told"=some none)
    (zA19:findIn K (.ref C_End) "told_by"=some none)
    (zA20:findIn K (.ref C_End) "tries"=some none)
    (zA21:findIn K (.ref C_End) "una"=some none)
    (zA22:findIn K (.ref C_End) "wait"=some none)
    (zA23:findIn K (.ref C_End) "wnd"=some none)
    (zA24:findIn K (.ref C_End) "written"=some none)
    (zA25:findIn K (.ref C_Pile) "row"=some none)
    (zg0:nsIn K mainGlobals "ACK"=some (some (.int 16 zt0)))
    (zg1:nsIn K mainGlobals "ANSWER"=some (some (.int 3 zt1)))
    (zg2:nsIn K mainGlobals "CLOSED"=some (some (.str "closed" zt2)))
    (zg3:nsIn K mainGlobals "CLOSE_WAIT"=some (some (.str "close wait" zt3)))
    (zg4:nsIn K mainGlobals "CLOSING"=some (some (.str "closing" zt4)))
    (zg5:nsIn K mainGlobals "DATA"=some (some (.int 7 zt5)))
    (zg6:nsIn K mainGlobals "FIN"=some (some (.int 1 zt6)))
    (zg7:nsIn K mainGlobals "FIRST_WAIT"=some (some (.int 1000 zt7)))
    (zg8:nsIn K mainGlobals "FLAGS"=some (some (.int 4 zt8)))
    (zg9:nsIn K mainGlobals "GOAL"=some (some (.int 1 zt9)))
    (zg10:nsIn K mainGlobals "GREATEST_DATA"=some (some (.int 16 zt10)))
    (zg11:nsIn K mainGlobals "GREATEST_FLAGS"=some (some (.int 31 zt11)))
    (zg12:nsIn K mainGlobals "GREATEST_WORD"=some (some (.int 65535 zt12)))
    (zg13:nsIn K mainGlobals "HALF_ROUND"=some (some (.int 2147483648 zt13)))
    (zg14:nsIn K mainGlobals "LAST_ACK"=some (some (.str "last ack" zt14)))
    (zg15:nsIn K mainGlobals "LAST_WAIT"=some (some (.int 120000 zt15)))
    (zg16:nsIn K mainGlobals "LEAST_MOST"=some (some (.int 4 zt16)))
    (zg17:nsIn K mainGlobals "LISTEN"=some (some (.str "listen" zt17)))
    (zg18:nsIn K mainGlobals "LONGEST_WAIT"=some (some (.int 16000 zt18)))
    (zg19:nsIn K mainGlobals "LONG_HEAD"=some (some (.int 24 zt19)))
    (zg20:nsIn K mainGlobals "MOST"=some (some (.int 6 zt20)))
    (zg21:nsIn K mainGlobals "MOST_TRIES"=some (some (.int 6 zt21)))
    (zg22:nsIn K mainGlobals "MOST_UNTOLD"=some (some (.int 12 zt22)))
    (zg23:nsIn K mainGlobals "NO_ERROR"=some (some (.str "" zt23)))
    (zg24:nsIn K mainGlobals "NUMBER"=some (some (.int 2 zt24)))
    (zg25:nsIn K mainGlobals "OPEN"=some (some (.str "open" zt25)))
    (zg26:nsIn K mainGlobals "PSH"=some (some (.int 8 zt26)))
    (zg27:nsIn K mainGlobals "REFUSED"=some (some (.str "refused" zt27)))
    (zg28:nsIn K mainGlobals "RESET"=some (some (.str "reset" zt28)))
    (zg29:nsIn K mainGlobals "RIGHT_SUM"=some (some (.int 65535 zt29)))
    (zg30:nsIn K mainGlobals "ROOM"=some (some (.int 64 zt30)))
    (zg31:nsIn K mainGlobals "ROUND"=some (some (.int 4294967296 zt31)))
    (zg32:nsIn K mainGlobals "RST"=some (some (.int 4 zt32)))
    (zg33:nsIn K mainGlobals "SHORT_HEAD"=some (some (.int 20 zt33)))
    (zg34:nsIn K mainGlobals "SOURCE"=some (some (.int 0 zt34)))
    (zg35:nsIn K mainGlobals "SYN"=some (some (.int 2 zt35)))
    (zg36:nsIn K mainGlobals "SYN_COME"=some (some (.str "syn come" zt36)))
    (zg37:nsIn K mainGlobals "SYN_SENT"=some (some (.str "syn sent" zt37)))
    (zg38:nsIn K mainGlobals "TIME"=some (some (.str "time" zt38)))
    (zg39:nsIn K mainGlobals "TIME_WAIT"=some (some (.str "time wait" zt39)))
    (zg40:nsIn K mainGlobals "WAIT_ONE"=some (some (.str "wait one" zt40)))
    (zg41:nsIn K mainGlobals "WAIT_TWO"=some (some (.str "wait two" zt41)))
    (zg42:nsIn K mainGlobals "WINDOW"=some (some (.int 5 zt42)))
    (zg43:nsIn K mainGlobals "WORDS"=some (some (.int 65536 zt43)))
    (z_all:nsIn K mainGlobals "all"=some none)
    (z_bool:nsIn K mainGlobals "bool"=some none)
    (z_enumerate:nsIn K mainGlobals "enumerate"=some none)
    (z_int:nsIn K mainGlobals "int"=some none)
    (z_isinstance:nsIn K mainGlobals "isinstance"=some none)
    (z_len:nsIn K mainGlobals "len"=some none)
    (z_list:nsIn K mainGlobals "list"=some none)
    (z_max:nsIn K mainGlobals "max"=some none)
    (z_min:nsIn K mainGlobals "min"=some none)
    (z_range:nsIn K mainGlobals "range"=some none)
    (z_sum:nsIn K mainGlobals "sum"=some none)
    (z_tuple:nsIn K mainGlobals "tuple"=some none) :
    ∃fd:FuncData,(∀(s:Shared) (v:Value),BindsTo s fd ⟨[v],[]⟩ [("_law_script",v)])∧∀base:Heap,K.In base→base.Ns mainGlobals mg→FnOk l.prog w K mg base CX0 11 fa fd ["_law_script"] (Zmi K):=by
  have e:=hfa.symm.trans (mg_of X G a89)
  cases e
  have eC_End:C_End=z8 mg "End":=(ZmO (mg_of X G aC_End)).symm
  have eC_Pile:C_Pile=z8 mg "Pile":=(ZmO (mg_of X G aC_Pile)).symm
  subst eC_End
  subst eC_Pile
  have g:Glb K mg:=⟨⟨_,mg_of X G zg0⟩,⟨_,mg_of X G zg1⟩,⟨_,mg_of X G zg2⟩,⟨_,mg_of X G zg3⟩,⟨_,mg_of X G zg4⟩,⟨_,mg_of X G zg5⟩,⟨_,mg_of X G zg6⟩,⟨_,mg_of X G zg7⟩,⟨_,mg_of X G zg8⟩,⟨_,mg_of X G zg9⟩,⟨_,mg_of X G zg10⟩,⟨_,mg_of X G zg11⟩,⟨_,mg_of X G zg12⟩,⟨_,mg_of X G zg13⟩,⟨_,mg_of X G zg14⟩,⟨_,mg_of X G zg15⟩,⟨_,mg_of X G zg16⟩,⟨_,mg_of X G zg17⟩,⟨_,mg_of X G zg18⟩,⟨_,mg_of X G zg19⟩,⟨_,mg_of X G zg20⟩,⟨_,mg_of X G zg21⟩,⟨_,mg_of X G zg22⟩,⟨_,mg_of X G zg23⟩,⟨_,mg_of X G zg24⟩,⟨_,mg_of X G zg25⟩,⟨_,mg_of X G zg26⟩,⟨_,mg_of X G zg27⟩,⟨_,mg_of X G zg28⟩,⟨_,mg_of X G zg29⟩,⟨_,mg_of X G zg30⟩,⟨_,mg_of X G zg31⟩,⟨_,mg_of X G zg32⟩,⟨_,mg_of X G zg33⟩,⟨_,mg_of X G zg34⟩,⟨_,mg_of X G zg35⟩,⟨_,mg_of X G zg36⟩,⟨_,mg_of X G zg37⟩,⟨_,mg_of X G zg38⟩,⟨_,mg_of X G zg39⟩,⟨_,mg_of X G zg40⟩,⟨_,mg_of X G zg41⟩,⟨_,mg_of X G zg42⟩,⟨_,mg_of X G zg43⟩,mg_none_of X G z_all,mg_none_of X G z_bool,mg_none_of X G z_enumerate,mg_none_of X G z_int,mg_none_of X G z_isinstance,mg_none_of X G z_len,mg_none_of X G z_list,mg_none_of X G z_max,mg_none_of X G z_min,mg_none_of X G z_range,mg_none_of X G z_sum,mg_none_of X G z_tuple,⟨pg_End,hd_End,po_End,sa_End⟩,⟨pg_Pile,hd_Pile,po_Pile,sa_Pile⟩,zA0,zA1,zA2,zA3,zA4,zA5,zA6,zA7,zA8,zA9,zA10,zA11,zA12,zA13,zA14,zA15,zA16,zA17,zA18,zA19,zA20,zA21,zA22,zA23,zA24,zA25⟩
  have F0:=Zx (st:=zs0) l0 c0 k0
  have b0:=F0.binds (ps:=zP0) fun _ _ _ _ _ _=>us1 fun _=>rfl
  have D0:Mk0 K mg "Pile" "Pile.__init__" zs0 zP0:=⟨_,_,F0,b0,⟨mk_Pile,a0,i0,kc_Pile⟩,mg_of X G aC_Pile⟩
  have F1:=Zx (st:=zs1) l1 c1 k1
  have b1:=F1.binds (ps:=zP1) fun _ _ _ _ _ _=>us1 fun _=>rfl
  have D1:Def0 K mg "room" zs1 zP1:=⟨_,_,F1,b1,mg_of X G a1⟩
  have F2:=Zx (st:=zs2) l2 c2 k2
  have b2:=F2.binds (ps:=zP2) fun _ _ _ _ _ _=>us2 fun _ _=>rfl
  have D2:Def0 K mg "lay" zs2 zP2:=⟨_,_,F2,b2,mg_of X G a2⟩
  have F3:=Zx (st:=zs3) l3 c3 k3
  have b3:=F3.binds (ps:=zP3) fun _ _ _ _ _ _=>us2 fun _ _=>rfl
  have D3:Def0 K mg "take" zs3 zP3:=⟨_,_,F3,b3,mg_of X G a3⟩
  have F4:=Zx (st:=zs4) l4 c4 k4
  have b4:=F4.binds (ps:=zP4) fun _ _ _ _ _ _=>us2 fun _ _=>rfl
  have D4:Def0 K mg "plus" zs4 zP4:=⟨_,_,F4,b4,mg_of X G a4⟩
  have F5:=Zx (st:=zs5) l5 c5 k5
  have b5:=F5.binds (ps:=zP5) fun _ _ _ _ _ _=>us2 fun _ _=>rfl
  have D5:Def0 K mg "offset" zs5 zP5:=⟨_,_,F5,b5,mg_of X G a5⟩
  have F6:=Zx (st:=zs6) l6 c6 k6
  have b6:=F6.binds (ps:=zP6) fun _ _ _ _ _ _=>us2 fun _ _=>rfl
  have D6:Def0 K mg "past" zs6 zP6:=⟨_,_,F6,b6,mg_of X G a6⟩
  have F7:=Zx (st:=zs7) l7 c7 k7
  have b7:=F7.binds (ps:=zP7) fun _ _ _ _ _ _=>us5 fun _ _ _ _ _=>rfl
  have D7:Mk0 K mg "End" "End.__init__" zs7 zP7:=⟨_,_,F7,b7,⟨mk_End,a7,i7,kc_End⟩,mg_of X G aC_End⟩
  have F8:=Zx (st:=zs8) l8 c8 k8
  have b8:=F8.binds (ps:=zP8) fun _ _ _ _ _ _=>us2 fun _ _=>rfl
  have D8:Def0 K mg "start_timer" zs8 zP8:=⟨_,_,F8,b8,mg_of X G a8⟩
  have F9:=Zx (st:=zs9) l9 c9 k9
  have b9:=F9.binds (ps:=zP9) fun _ _ _ _ _ _=>us1 fun _=>rfl
  have D9:Def0 K mg "our_window" zs9 zP9:=⟨_,_,F9,b9,mg_of X G a9⟩
  have F10:=Zx (st:=Zkw) l10 c10 k10
  have b10:=F10.binds (ps:=ZoY) fun _ _ _ _ _ _=>us1 fun _=>rfl
  have D10:Def0 K mg "has_sent_fin" Zkw ZoY:=⟨_,_,F10,b10,mg_of X G a10⟩
  have F11:=Zx (st:=Zkv) l11 c11 k11
  have b11:=F11.binds (ps:=ZoX) fun _ _ _ _ _ _=>us1 fun _=>rfl
  have D11:Def0 K mg "folded" Zkv ZoX:=⟨_,_,F11,b11,mg_of X G a11⟩
  have F12:=Zx (st:=Zku) l12 c12 k12
  have b12:=F12.binds (ps:=ZoW) fun _ _ _ _ _ _=>us1 fun _=>rfl
  have D12:Def0 K mg "sum_of" Zku ZoW:=⟨_,_,F12,b12,mg_of X G a12⟩
  have F13:=Zx (st:=Zkt) l13 c13 k13
  have b13:=F13.binds (ps:=ZoV) fun _ _ _ _ _ _=>us1 fun _=>rfl
  have D13:Def0 K mg "length" Zkt ZoV:=⟨_,_,F13,b13,mg_of X G a13⟩
  have F14:=Zx (st:=Zks) l14 c14 k14
  have b14:=F14.binds (ps:=ZoU) fun _ _ _ _ _ _=>us2 fun _ _=>rfl
  have D14:Def0 K mg "has" Zks ZoU:=⟨_,_,F14,b14,mg_of X G a14⟩
  have F15:=Zx (st:=Zkr) l15 c15 k15
  have b15:=F15.binds (ps:=ZoT) fun _ _ _ _ _ _=>us2 fun _ _=>rfl
  have D15:Def0 K mg "bears" Zkr ZoT:=⟨_,_,F15,b15,mg_of X G a15⟩
  have F16:=Zx (st:=Zkq) l16 c16 k16
  have b16:=F16.binds (ps:=ZoS) fun _ _ _ _ _ _=>us1 fun _=>rfl
  have D16:Def0 K mg "put" Zkq ZoS:=⟨_,_,F16,b16,mg_of X G a16⟩
  have F17:=Zx (st:=Zkp) l17 c17 k17
  have b17:=F17.binds (ps:=ZoR) fun _ _ _ _ _ _=>us1 fun _=>rfl
  have D17:Def0 K mg "bytes_ahead_of_sum" Zkp ZoR:=⟨_,_,F17,b17,mg_of X G a17⟩
  have F18:=Zx (st:=Zko) l18 c18 k18
  have b18:=F18.binds (ps:=ZoQ) fun _ _ _ _ _ _=>us1 fun _=>rfl
  have D18:Def0 K mg "byte_of_head" Zko ZoQ:=⟨_,_,F18,b18,mg_of X G a18⟩
  have F19:=Zx (st:=Zkn) l19 c19 k19
  have b19:=F19.binds (ps:=ZoP) fun _ _ _ _ _ _=>us1 fun _=>rfl
  have D19:Def0 K mg "bytes_of_most" Zkn ZoP:=⟨_,_,F19,b19,mg_of X G a19⟩
  have F20:=Zx (st:=Zkm) l20 c20 k20
  have b20:=F20.binds (ps:=ZoO) fun _ _ _ _ _ _=>us1 fun _=>rfl
  have D20:Def0 K mg "two_bytes" Zkm ZoO:=⟨_,_,F20,b20,mg_of X G a20⟩
  have F21:=Zx (st:=Zkl) l21 c21 k21
  have b21:=F21.binds (ps:=ZoN) fun _ _ _ _ _ _=>us1 fun _=>rfl
  have D21:Def0 K mg "four_bytes" Zkl ZoN:=⟨_,_,F21,b21,mg_of X G a21⟩
  have F22:=Zx (st:=Zkk) l22 c22 k22
  have b22:=F22.binds (ps:=ZoM) fun _ _ _ _ _ _=>us1 fun _=>rfl
  have D22:Def0 K mg "is_right" Zkk ZoM:=⟨_,_,F22,b22,mg_of X G a22⟩
  have F23:=Zx (st:=Zkj) l23 c23 k23
  have b23:=F23.binds (ps:=ZoL) fun _ _ _ _ _ _=>us1 fun _=>rfl
  have D23:Def0 K mg "head_of" Zkj ZoL:=⟨_,_,F23,b23,mg_of X G a23⟩
  have F24:=Zx (st:=Zki) l24 c24 k24
  have b24:=F24.binds (ps:=ZoK) fun _ _ _ _ _ _=>us1 fun _=>rfl
  have D24:Def0 K mg "is_right_long_head" Zki ZoK:=⟨_,_,F24,b24,mg_of X G a24⟩
  have F25:=Zx (st:=Zkh) l25 c25 k25
  have b25:=F25.binds (ps:=ZoJ) fun _ _ _ _ _ _=>us1 fun _=>rfl
  have D25:Def0 K mg "get" Zkh ZoJ:=⟨_,_,F25,b25,mg_of X G a25⟩
  have F26:=Zx (st:=Zkg) l26 c26 k26
  have b26:=F26.binds (ps:=ZoI) fun _ _ _ _ _ _=>us2 fun _ _=>rfl
  have D26:Def0 K mg "two_at" Zkg ZoI:=⟨_,_,F26,b26,mg_of X G a26⟩
  have F27:=Zx (st:=Zkf) l27 c27 k27
  have b27:=F27.binds (ps:=ZoH) fun _ _ _ _ _ _=>us2 fun _ _=>rfl
  have D27:Def0 K mg "four_at" Zkf ZoH:=⟨_,_,F27,b27,mg_of X G a27⟩
  have F28:=Zx (st:=Zke) l28 c28 k28
  have b28:=F28.binds (ps:=ZoG) fun _ _ _ _ _ _=>us2 fun _ _=>rfl
  have D28:Def0 K mg "send" Zke ZoG:=⟨_,_,F28,b28,mg_of X G a28⟩
  have F29:=Zx (st:=Zkd) l29 c29 k29
  have b29:=F29.binds (ps:=ZoF) fun _ _ _ _ _ _=>us2 fun _ _=>rfl
  have D29:Def0 K mg "going" Zkd ZoF:=⟨_,_,F29,b29,mg_of X G a29⟩
  have F30:=Zx (st:=Zkc) l30 c30 k30
  have b30:=F30.binds (ps:=ZoE) fun _ _ _ _ _ _=>us1 fun _=>rfl
  have D30:Def0 K mg "paid_reset" Zkc ZoE:=⟨_,_,F30,b30,mg_of X G a30⟩
  have F31:=Zx (st:=Zkb) l31 c31 k31
  have b31:=F31.binds (ps:=ZoD) fun _ _ _ _ _ _=>us2 fun _ _=>rfl
  have D31:Def0 K mg "is_due" Zkb ZoD:=⟨_,_,F31,b31,mg_of X G a31⟩
  have F32:=Zx (st:=Zka) l32 c32 k32
  have b32:=F32.binds (ps:=ZoC) fun _ _ _ _ _ _=>us2 fun _ _=>rfl
  have D32:Def0 K mg "again" Zka ZoC:=⟨_,_,F32,b32,mg_of X G a32⟩
  have F33:=Zx (st:=Zj9) l33 c33 k33
  have b33:=F33.binds (ps:=ZoB) fun _ _ _ _ _ _=>us1 fun _=>rfl
  have D33:Def0 K mg "most_at_once" Zj9 ZoB:=⟨_,_,F33,b33,mg_of X G a33⟩
  have F34:=Zx (st:=Zj8) l34 c34 k34
  have b34:=F34.binds (ps:=ZoA) fun _ _ _ _ _ _=>us1 fun _=>rfl
  have D34:Def0 K mg "paid_syn" Zj8 ZoA:=⟨_,_,F34,b34,mg_of X G a34⟩
  have F35:=Zx (st:=Zj7) l35 c35 k35
  have b35:=F35.binds (ps:=Zoz) fun _ _ _ _ _ _=>us4 fun _ _ _ _=>rfl
  have D35:Def0 K mg "segment_of" Zj7 Zoz:=⟨_,_,F35,b35,mg_of X G a35⟩
  have F36:=Zx (st:=Zj6) l36 c36 k36
  have b36:=F36.binds (ps:=Zoy) fun _ _ _ _ _ _=>us2 fun _ _=>rfl
  have D36:Def0 K mg "going_as_new" Zj6 Zoy:=⟨_,_,F36,b36,mg_of X G a36⟩
  have F37:=Zx (st:=Zj5) l37 c37 k37
  have b37:=F37.binds (ps:=Zox) fun _ _ _ _ _ _=>us2 fun _ _=>rfl
  have D37:Def0 K mg "new_syn" Zj5 Zox:=⟨_,_,F37,b37,mg_of X G a37⟩
  have F38:=Zx (st:=Zj4) l38 c38 k38
  have b38:=F38.binds (ps:=Zow) fun _ _ _ _ _ _=>us1 fun _=>rfl
  have D38:Def0 K mg "has_more" Zj4 Zow:=⟨_,_,F38,b38,mg_of X G a38⟩
  have F39:=Zx (st:=Zj3) l39 c39 k39
  have b39:=F39.binds (ps:=Zov) fun _ _ _ _ _ _=>us1 fun _=>rfl
  have D39:Def0 K mg "has_new_data" Zj3 Zov:=⟨_,_,F39,b39,mg_of X G a39⟩
  have F40:=Zx (st:=Zj2) l40 c40 k40
  have b40:=F40.binds (ps:=Zou) fun _ _ _ _ _ _=>us1 fun _=>rfl
  have D40:Def0 K mg "unsent" Zj2 Zou:=⟨_,_,F40,b40,mg_of X G a40⟩
  have F41:=Zx (st:=Zj1) l41 c41 k41
  have b41:=F41.binds (ps:=Zot) fun _ _ _ _ _ _=>us1 fun _=>rfl
  have D41:Def0 K mg "has_new_fin" Zj1 Zot:=⟨_,_,F41,b41,mg_of X G a41⟩
  have F42:=Zx (st:=Zj0) l42 c42 k42
  have b42:=F42.binds (ps:=Zos) fun _ _ _ _ _ _=>us2 fun _ _=>rfl
  have D42:Def0 K mg "new_piece" Zj0 Zos:=⟨_,_,F42,b42,mg_of X G a42⟩
  have F43:=Zx (st:=ZjZ) l43 c43 k43
  have b43:=F43.binds (ps:=Zor) fun _ _ _ _ _ _=>us2 fun _ _=>rfl
  have D43:Def0 K mg "new_data" ZjZ Zor:=⟨_,_,F43,b43,mg_of X G a43⟩
  have F44:=Zx (st:=ZjY) l44 c44 k44
  have b44:=F44.binds (ps:=Zoq) fun _ _ _ _ _ _=>us1 fun _=>rfl
  have D44:Def0 K mg "new_fin" ZjY Zoq:=⟨_,_,F44,b44,mg_of X G a44⟩
  have F45:=Zx (st:=ZjX) l45 c45 k45
  have b45:=F45.binds (ps:=Zop) fun _ _ _ _ _ _=>us2 fun _ _=>rfl
  have D45:Def0 K mg "going_as_probe" ZjX Zop:=⟨_,_,F45,b45,mg_of X G a45⟩
  have F46:=Zx (st:=ZjW) l46 c46 k46
  have b46:=F46.binds (ps:=Zoo) fun _ _ _ _ _ _=>us1 fun _=>rfl
  have D46:Def0 K mg "going_as_answer" ZjW Zoo:=⟨_,_,F46,b46,mg_of X G a46⟩
  have F47:=Zx (st:=ZjV) l47 c47 k47
  have b47:=F47.binds (ps:=Zon) fun _ _ _ _ _ _=>us1 fun _=>rfl
  have D47:Def0 K mg "reset_for" ZjV Zon:=⟨_,_,F47,b47,mg_of X G a47⟩
  have F48:=Zx (st:=ZjU) l48 c48 k48
  have b48:=F48.binds (ps:=Zom) fun _ _ _ _ _ _=>us2 fun _ _=>rfl
  have D48:Def0 K mg "owe_reset_for" ZjU Zom:=⟨_,_,F48,b48,mg_of X G a48⟩
  have F49:=Zx (st:=ZjT) l49 c49 k49
  have b49:=F49.binds (ps:=Zol) fun _ _ _ _ _ _=>us2 fun _ _=>rfl
  have D49:Def0 K mg "come_to_closed" ZjT Zol:=⟨_,_,F49,b49,mg_of X G a49⟩
  have F50:=Zx (st:=ZjS) l50 c50 k50
  have b50:=F50.binds (ps:=Zok) fun _ _ _ _ _ _=>us2 fun _ _=>rfl
  have D50:Def0 K mg "come_to_listen" ZjS Zok:=⟨_,_,F50,b50,mg_of X G a50⟩
  have F51:=Zx (st:=ZjR) l51 c51 k51
  have b51:=F51.binds (ps:=Zoj) fun _ _ _ _ _ _=>us2 fun _ _=>rfl
  have D51:Def0 K mg "hear_syn" ZjR Zoj:=⟨_,_,F51,b51,mg_of X G a51⟩
  have F52:=Zx (st:=ZjQ) l52 c52 k52
  have b52:=F52.binds (ps:=Zoi) fun _ _ _ _ _ _=>us3 fun _ _ _=>rfl
  have D52:Def0 K mg "come_to_syn_sent" ZjQ Zoi:=⟨_,_,F52,b52,mg_of X G a52⟩
  have F53:=Zx (st:=ZjP) l53 c53 k53
  have b53:=F53.binds (ps:=Zoh) fun _ _ _ _ _ _=>us2 fun _ _=>rfl
  have D53:Def0 K mg "answers_syn" ZjP Zoh:=⟨_,_,F53,b53,mg_of X G a53⟩
  have F54:=Zx (st:=ZjO) l54 c54 k54
  have b54:=F54.binds (ps:=Zog) fun _ _ _ _ _ _=>us2 fun _ _=>rfl
  have D54:Def0 K mg "refuse" ZjO Zog:=⟨_,_,F54,b54,mg_of X G a54⟩
  have F55:=Zx (st:=ZjN) l55 c55 k55
  have b55:=F55.binds (ps:=Zof) fun _ _ _ _ _ _=>us3 fun _ _ _=>rfl
  have D55:Def0 K mg "go_on_from_syn_sent" ZjN Zof:=⟨_,_,F55,b55,mg_of X G a55⟩
  have F56:=Zx (st:=ZjM) l56 c56 k56
  have b56:=F56.binds (ps:=Zoe) fun _ _ _ _ _ _=>us3 fun _ _ _=>rfl
  have D56:Def0 K mg "arrive" ZjM Zoe:=⟨_,_,F56,b56,mg_of X G a56⟩
  have F57:=Zx (st:=ZjL) l57 c57 k57
  have b57:=F57.binds (ps:=Zod) fun _ _ _ _ _ _=>us2 fun _ _=>rfl
  have D57:Def0 K mg "is_for" ZjL Zod:=⟨_,_,F57,b57,mg_of X G a57⟩
  have F58:=Zx (st:=ZjK) l58 c58 k58
  have b58:=F58.binds (ps:=Zoc) fun _ _ _ _ _ _=>us3 fun _ _ _=>rfl
  have D58:Def0 K mg "come_to_stream" ZjK Zoc:=⟨_,_,F58,b58,mg_of X G a58⟩
  have F59:=Zx (st:=ZjJ) l59 c59 k59
  have b59:=F59.binds (ps:=Zob) fun _ _ _ _ _ _=>us2 fun _ _=>rfl
  have D59:Def0 K mg "fits" ZjJ Zob:=⟨_,_,F59,b59,mg_of X G a59⟩
  have F60:=Zx (st:=ZjI) l60 c60 k60
  have b60:=F60.binds (ps:=Zoa) fun _ _ _ _ _ _=>us2 fun _ _=>rfl
  have D60:Def0 K mg "is_in_window" ZjI Zoa:=⟨_,_,F60,b60,mg_of X G a60⟩
  have F61:=Zx (st:=ZjH) l61 c61 k61
  have b61:=F61.binds (ps:=Zn9) fun _ _ _ _ _ _=>us3 fun _ _ _=>rfl
  have D61:Def0 K mg "turn_away" ZjH Zn9:=⟨_,_,F61,b61,mg_of X G a61⟩
  have F62:=Zx (st:=ZjG) l62 c62 k62
  have b62:=F62.binds (ps:=Zn8) fun _ _ _ _ _ _=>us2 fun _ _=>rfl
  have D62:Def0 K mg "hear_reset" ZjG Zn8:=⟨_,_,F62,b62,mg_of X G a62⟩
  have F63:=Zx (st:=ZjF) l63 c63 k63
  have b63:=F63.binds (ps:=Zn7) fun _ _ _ _ _ _=>us3 fun _ _ _=>rfl
  have D63:Def0 K mg "goes_on_behind_answer" ZjF Zn7:=⟨_,_,F63,b63,mg_of X G a63⟩
  have F64:=Zx (st:=ZjE) l64 c64 k64
  have b64:=F64.binds (ps:=Zn6) fun _ _ _ _ _ _=>us2 fun _ _=>rfl
  have D64:Def0 K mg "has_answered_syn" ZjE Zn6:=⟨_,_,F64,b64,mg_of X G a64⟩
  have F65:=Zx (st:=ZjD) l65 c65 k65
  have b65:=F65.binds (ps:=Zn5) fun _ _ _ _ _ _=>us2 fun _ _=>rfl
  have D65:Def0 K mg "take_window" ZjD Zn5:=⟨_,_,F65,b65,mg_of X G a65⟩
  have F66:=Zx (st:=ZjC) l66 c66 k66
  have b66:=F66.binds (ps:=Zn4) fun _ _ _ _ _ _=>us3 fun _ _ _=>rfl
  have D66:Def0 K mg "hear_answer" ZjC Zn4:=⟨_,_,F66,b66,mg_of X G a66⟩
  have F67:=Zx (st:=ZjB) l67 c67 k67
  have b67:=F67.binds (ps:=Zn3) fun _ _ _ _ _ _=>us2 fun _ _=>rfl
  have D67:Def0 K mg "is_newer" ZjB Zn3:=⟨_,_,F67,b67,mg_of X G a67⟩
  have F68:=Zx (st:=ZjA) l68 c68 k68
  have b68:=F68.binds (ps:=Zn2) fun _ _ _ _ _ _=>us2 fun _ _=>rfl
  have D68:Def0 K mg "end_what_is_acknowledged" ZjA Zn2:=⟨_,_,F68,b68,mg_of X G a68⟩
  have F69:=Zx (st:=Zjz) l69 c69 k69
  have b69:=F69.binds (ps:=Zn1) fun _ _ _ _ _ _=>us3 fun _ _ _=>rfl
  have D69:Def0 K mg "hear_stream" Zjz Zn1:=⟨_,_,F69,b69,mg_of X G a69⟩
  have F70:=Zx (st:=Zjy) l70 c70 k70
  have b70:=F70.binds (ps:=Zn0) fun _ _ _ _ _ _=>us2 fun _ _=>rfl
  have D70:Def0 K mg "keep_data" Zjy Zn0:=⟨_,_,F70,b70,mg_of X G a70⟩
  have F71:=Zx (st:=Zjx) l71 c71 k71
  have b71:=F71.binds (ps:=ZnZ) fun _ _ _ _ _ _=>us2 fun _ _=>rfl
  have D71:Def0 K mg "keep_fin" Zjx ZnZ:=⟨_,_,F71,b71,mg_of X G a71⟩
  have F72:=Zx (st:=Zjw) l72 c72 k72
  have b72:=F72.binds (ps:=ZnY) fun _ _ _ _ _ _=>us1 fun _=>rfl
  have D72:Def0 K mg "draw_in_order" Zjw ZnY:=⟨_,_,F72,b72,mg_of X G a72⟩
  have F73:=Zx (st:=Zjv) l73 c73 k73
  have b73:=F73.binds (ps:=ZnX) fun _ _ _ _ _ _=>us2 fun _ _=>rfl
  have D73:Def0 K mg "hear_fin" Zjv ZnX:=⟨_,_,F73,b73,mg_of X G a73⟩
  have F74:=Zx (st:=Zju) l74 c74 k74
  have b74:=F74.binds (ps:=ZnW) fun _ _ _ _ _ _=>us4 fun _ _ _ _=>rfl
  have D74:Def0 K mg "opened" Zju ZnW:=⟨_,_,F74,b74,mg_of X G a74⟩
  have F75:=Zx (st:=Zjt) l75 c75 k75
  have b75:=F75.binds (ps:=ZnV) fun _ _ _ _ _ _=>us2 fun _ _=>rfl
  have D75:Def0 K mg "write" Zjt ZnV:=⟨_,_,F75,b75,mg_of X G a75⟩
  have F76:=Zx (st:=Zjs) l76 c76 k76
  have b76:=F76.binds (ps:=ZnU) fun _ _ _ _ _ _=>us2 fun _ _=>rfl
  have D76:Def0 K mg "_law_cell" Zjs ZnU:=⟨_,_,F76,b76,mg_of X G a76⟩
  have F77:=Zx (st:=Zjr) l77 c77 k77
  have b77:=F77.binds (ps:=ZnT) fun _ _ _ _ _ _=>us2 fun _ _=>rfl
  have D77:Def0 K mg "_law_mix" Zjr ZnT:=⟨_,_,F77,b77,mg_of X G a77⟩
  have F78:=Zx (st:=Zjq) l78 c78 k78
  have b78:=F78.binds (ps:=ZnS) fun _ _ _ _ _ _=>us1 fun _=>rfl
  have D78:Def0 K mg "_law_two" Zjq ZnS:=⟨_,_,F78,b78,mg_of X G a78⟩
  have F79:=Zx (st:=Zjp) l79 c79 k79
  have b79:=F79.binds (ps:=ZnR) fun _ _ _ _ _ _=>us1 fun _=>rfl
  have D79:Def0 K mg "_law_folded" Zjp ZnR:=⟨_,_,F79,b79,mg_of X G a79⟩
  have F80:=Zx (st:=Zjo) l80 c80 k80
  have b80:=F80.binds (ps:=ZnQ) fun _ _ _ _ _ _=>us1 fun _=>rfl
  have D80:Def0 K mg "_law_bytes" Zjo ZnQ:=⟨_,_,F80,b80,mg_of X G a80⟩
  have F81:=Zx (st:=ZhW) l81 c81 k81
  have b81:=F81.binds (ps:=ZnP) fun _ _ _ _ _ _=>us1 fun _=>rfl
  have D81:Def0 K mg "_law_read" ZhW ZnP:=⟨_,_,F81,b81,mg_of X G a81⟩
  have F82:=Zx (st:=Zjn) l82 c82 k82
  have b82:=F82.binds (ps:=ZnO) fun _ _ _ _ _ _=>us1 fun _=>rfl
  have D82:Def0 K mg "_law_byte" Zjn ZnO:=⟨_,_,F82,b82,mg_of X G a82⟩
  have F83:=Zx (st:=Zjm) l83 c83 k83
  have b83:=F83.binds (ps:=ZnN) fun _ _ _ _ _ _=>us2 fun _ _=>rfl
  have D83:Def0 K mg "_law_plus" Zjm ZnN:=⟨_,_,F83,b83,mg_of X G a83⟩
  have F84:=Zx (st:=Zjl) l84 c84 k84
  have b84:=F84.binds (ps:=ZnM) fun _ _ _ _ _ _=>us1 fun _=>rfl
  have D84:Def0 K mg "_law_first" Zjl ZnM:=⟨_,_,F84,b84,mg_of X G a84⟩
  have F85:=Zx (st:=Zjk) l85 c85 k85
  have b85:=F85.binds (ps:=ZnL) fun _ _ _ _ _ _=>us6 fun _ _ _ _ _ _=>rfl
  have D85:Def0 K mg "_law_segment" Zjk ZnL:=⟨_,_,F85,b85,mg_of X G a85⟩
  have F86:=Zx (st:=Zjj) l86 c86 k86
  have b86:=F86.binds (ps:=ZnK) fun _ _ _ _ _ _=>us2 fun _ _=>rfl
  have D86:Def0 K mg "_law_given" Zjj ZnK:=⟨_,_,F86,b86,mg_of X G a86⟩
  have F87:=Zx (st:=Zji) l87 c87 k87
  have b87:=F87.binds (ps:=ZnJ) fun _ _ _ _ _ _=>us4 fun _ _ _ _=>rfl
  have D87:Def0 K mg "_law_opened" Zji ZnJ:=⟨_,_,F87,b87,mg_of X G a87⟩
  have F88:=Zx (st:=Zjh) l88 c88 k88
  have b88:=F88.binds (ps:=ZnI) fun _ _ _ _ _ _=>us5 fun _ _ _ _ _=>rfl
  have D88:Def0 K mg "_law_sent" Zjh ZnI:=⟨_,_,F88,b88,mg_of X G a88⟩
  have F89:=Zx (st:=ZgM) l89 c89 k89
  have b89:=F89.binds (ps:=ZnH) fun _ _ _ _ _ _=>us1 fun _=>rfl
  have D89:Def0 K mg "law" ZgM ZnH:=⟨_,_,F89,b89,mg_of X G a89⟩
  refine ⟨fnOf "law" "law" (Zr ZgM) (Zn ZgM) (Zg ZgM) .none kV89 dc89 pm89 an89 cd89 ct89,fun s v=>.of_eq rfl,fun base _ _=>?_⟩
  exact ZrJ law_true (ZtJ F89 D0 D1 D2 D3 D4 D5 D6 D7 D8 D9 D10 D11 D12 D13 D14 D15 D16 D17 D18 D19 D20 D21 D22 D23 D24 D25 D26 D27 D28 D29 D30 D31 D32 D33 D34 D35 D36 D37 D38 D39 D40 D41 D42 D43 D44 D45 D46 D47 D48 D49 D50 D51 D52 D53 D54 D55 D56 D57 D58 D59 D60 D61 D62 D63 D64 D65 D66 D67 D68 D69 D70 D71 D72 D73 D74 D75 D76 D77 D78 D79 D80 D81 D82 D83 D84 D85 D86 D87 D88 g)
theorem Zye {l:OpenLaw} {q:Program} {loose:List Str} {XP:(Str→Option Value)→Heap→Prop} {YP:World→Heap→Prop} {d:DefRec} {K:Params→Frag} (hn:l.most=some 63) (hdf:d.params.defaults=[])
    (hY:∀(w:World) (h:Heap),YP w h→(K w.params).In h)
    (F:∀(w:World) (mg:Str→Option Value) (fa:Addr) (h:Heap),(K w.params).In h→h.Ns mainGlobals mg→mg d.name=some (.ref fa)→
      ∃fd:FuncData,(∀(s:Shared) (u:Value),BindsTo s fd ⟨[u],[]⟩ [("_law_script",u)])∧∀base:Heap,(K w.params).In base→base.Ns mainGlobals mg→FnOk l.prog w (K w.params) mg base CX0 11 fa fd ["_law_script"] (Zmi (K w.params))) :
    WalkO q loose XP YP l.row.toRowW d [] (fun f vs=>PySem.call f vs):=
  L2.ZqU (n:=63) (k:=11) (x:="_law_script") (CX:=fun _=>CX0) (sp:=fun w=>Zmi (K w.params)) hn (by decide) hdf ⟨rfl,by decide,by decide⟩ hY F (fun _ H a ns hl hO hS=>⟨a,ns,rfl,hO,hS,hl,fun _=>rfl⟩) fun _ _ _ _ _ z=>z
end My
open PySem PySem.W PyProof.Rows
set_option maxRecDepth 100000 in
set_option maxHeartbeats 0 in
theorem PySem.Challenge.cw_wirestream_k19_windows_told_holds : PySem.Challenge.rw_wirestream_k19_windows_told.Holds := by
  w_on; o_law; k_head; (case hw=>w_witness2)
  k_fill
  refine My.Zye (l:=PySem.Challenge.rw_wirestream_k19_windows_told) rfl rfl (fun w h Y=>PySem.W.kIn_of Y) ?F
  case F=>
    intro w mg fa h KX G hmg
    refine' My.ZtZ KX G hmg ?aC_End ?aC_Pile ?a0 ?i0 ?l0 ?c0 ?k0 ?a1 ?l1 ?c1 ?k1 ?a2 ?l2 ?c2 ?k2 ?a3 ?l3 ?c3 ?k3 ?a4 ?l4 ?c4 ?k4 ?a5 ?l5 ?c5 ?k5 ?a6 ?l6 ?c6 ?k6 ?a7 ?i7 ?l7 ?c7 ?k7 ?a8 ?l8 ?c8 ?k8 ?a9 ?l9 ?c9 ?k9 ?a10 ?l10 ?c10 ?k10 ?a11 ?l11 ?c11 ?k11 ?a12 ?l12 ?c12 ?k12 ?a13 ?l13 ?c13 ?k13 ?a14 ?l14 ?c14 ?k14 ?a15 ?l15 ?c15 ?k15 ?a16 ?l16 ?c16 ?k16 ?a17 ?l17 ?c17 ?k17 ?a18 ?l18 ?c18 ?k18 ?a19 ?l19 ?c19 ?k19 ?a20 ?l20 ?c20 ?k20 ?a21 ?l21 ?c21 ?k21 ?a22 ?l22 ?c22 ?k22 ?a23 ?l23 ?c23 ?k23 ?a24 ?l24 ?c24 ?k24 ?a25 ?l25 ?c25 ?k25 ?a26 ?l26 ?c26 ?k26 ?a27 ?l27 ?c27 ?k27 ?a28 ?l28 ?c28 ?k28 ?a29 ?l29 ?c29 ?k29 ?a30 ?l30 ?c30 ?k30 ?a31 ?l31 ?c31 ?k31 ?a32 ?l32 ?c32 ?k32 ?a33 ?l33 ?c33 ?k33 ?a34 ?l34 ?c34 ?k34 ?a35 ?l35 ?c35 ?k35 ?a36 ?l36 ?c36 ?k36 ?a37 ?l37 ?c37 ?k37 ?a38 ?l38 ?c38 ?k38 ?a39 ?l39 ?c39 ?k39 ?a40 ?l40 ?c40 ?k40 ?a41 ?l41 ?c41 ?k41 ?a42 ?l42 ?c42 ?k42 ?a43 ?l43 ?c43 ?k43 ?a44 ?l44 ?c44 ?k44 ?a45 ?l45 ?c45 ?k45 ?a46 ?l46 ?c46 ?k46 ?a47 ?l47 ?c47 ?k47 ?a48 ?l48 ?c48 ?k48 ?a49 ?l49 ?c49 ?k49 ?a50 ?l50 ?c50 ?k50 ?a51 ?l51 ?c51 ?k51 ?a52 ?l52 ?c52 ?k52 ?a53 ?l53 ?c53 ?k53 ?a54 ?l54 ?c54 ?k54 ?a55 ?l55 ?c55 ?k55 ?a56 ?l56 ?c56 ?k56 ?a57 ?l57 ?c57 ?k57 ?a58 ?l58 ?c58 ?k58 ?a59 ?l59 ?c59 ?k59 ?a60 ?l60 ?c60 ?k60 ?a61 ?l61 ?c61 ?k61 ?a62 ?l62 ?c62 ?k62 ?a63 ?l63 ?c63 ?k63 ?a64 ?l64 ?c64 ?k64 ?a65 ?l65 ?c65 ?k65 ?a66 ?l66 ?c66 ?k66 ?a67 ?l67 ?c67 ?k67 ?a68 ?l68 ?c68 ?k68 ?a69 ?l69 ?c69 ?k69 ?a70 ?l70 ?c70 ?k70 ?a71 ?l71 ?c71 ?k71 ?a72 ?l72 ?c72 ?k72 ?a73 ?l73 ?c73 ?k73 ?a74 ?l74 ?c74 ?k74 ?a75 ?l75 ?c75 ?k75 ?a76 ?l76 ?c76 ?k76 ?a77 ?l77 ?c77 ?k77 ?a78 ?l78 ?c78 ?k78 ?a79 ?l79 ?c79 ?k79 ?a80 ?l80 ?c80 ?k80 ?a81 ?l81 ?c81 ?k81 ?a82 ?l82 ?c82 ?k82 ?a83 ?l83 ?c83 ?k83 ?a84 ?l84 ?c84 ?k84 ?a85 ?l85 ?c85 ?k85 ?a86 ?l86 ?c86 ?k86 ?a87 ?l87 ?c87 ?k87 ?a88 ?l88 ?c88 ?k88 ?a89 ?l89 ?c89 ?k89 ?pg_End ?hd_End ?po_End ?sa_End ?mk_End ?kc_End ?pg_Pile ?hd_Pile ?po_Pile ?sa_Pile ?mk_Pile ?kc_Pile ?zA0 ?zA1 ?zA2 ?zA3 ?zA4 ?zA5 ?zA6 ?zA7 ?zA8 ?zA9 ?zA10 ?zA11 ?zA12 ?zA13 ?zA14 ?zA15 ?zA16 ?zA17 ?zA18 ?zA19 ?zA20 ?zA21 ?zA22 ?zA23 ?zA24 ?zA25 ?zg0 ?zg1 ?zg2 ?zg3 ?zg4 ?zg5 ?zg6 ?zg7 ?zg8 ?zg9 ?zg10 ?zg11 ?zg12 ?zg13 ?zg14 ?zg15 ?zg16 ?zg17 ?zg18 ?zg19 ?zg20 ?zg21 ?zg22 ?zg23 ?zg24 ?zg25 ?zg26 ?zg27 ?zg28 ?zg29 ?zg30 ?zg31 ?zg32 ?zg33 ?zg34 ?zg35 ?zg36 ?zg37 ?zg38 ?zg39 ?zg40 ?zg41 ?zg42 ?zg43 ?z_all ?z_bool ?z_enumerate ?z_int ?z_isinstance ?z_len ?z_list ?z_max ?z_min ?z_range ?z_sum ?z_tuple
    case aC_End | aC_Pile | a0 | i0 | l0 | c0 | k0 | a1 | l1 | c1 | k1 | a2 | l2 | c2 | k2 | a3 | l3 | c3 | k3 | a4 | l4 | c4 | k4 | a5 | l5 | c5 | k5 | a6 | l6 | c6 | k6 | a7 | i7 | l7 | c7 | k7 | a8 | l8 | c8 | k8 | a9 | l9 | c9 | k9 | a10 | l10 | c10 | k10 | a11 | l11 | c11 | k11 | a12 | l12 | c12 | k12 | a13 | l13 | c13 | k13 | a14 | l14 | c14 | k14 | a15 | l15 | c15 | k15 | a16 | l16 | c16 | k16 | a17 | l17 | c17 | k17 | a18 | l18 | c18 | k18 | a19 | l19 | c19 | k19 | a20 | l20 | c20 | k20 | a21 | l21 | c21 | k21 | a22 | l22 | c22 | k22 | a23 | l23 | c23 | k23 | a24 | l24 | c24 | k24 | a25 | l25 | c25 | k25 | a26 | l26 | c26 | k26 | a27 | l27 | c27 | k27 | a28 | l28 | c28 | k28 | a29 | l29 | c29 | k29 | a30 | l30 | c30 | k30 | a31 | l31 | c31 | k31 | a32 | l32 | c32 | k32 | a33 | l33 | c33 | k33 | a34 | l34 | c34 | k34 | a35 | l35 | c35 | k35 | a36 | l36 | c36 | k36 | a37 | l37 | c37 | k37 | a38 | l38 | c38 | k38 | a39 | l39 | c39 | k39 | a40 | l40 | c40 | k40 | a41 | l41 | c41 | k41 | a42 | l42 | c42 | k42 | a43 | l43 | c43 | k43 | a44 | l44 | c44 | k44 | a45 | l45 | c45 | k45 | a46 | l46 | c46 | k46 | a47 | l47 | c47 | k47 | a48 | l48 | c48 | k48 | a49 | l49 | c49 | k49 | a50 | l50 | c50 | k50 | a51 | l51 | c51 | k51 | a52 | l52 | c52 | k52 | a53 | l53 | c53 | k53 | a54 | l54 | c54 | k54 | a55 | l55 | c55 | k55 | a56 | l56 | c56 | k56 | a57 | l57 | c57 | k57 | a58 | l58 | c58 | k58 | a59 | l59 | c59 | k59 | a60 | l60 | c60 | k60 | a61 | l61 | c61 | k61 | a62 | l62 | c62 | k62 | a63 | l63 | c63 | k63 | a64 | l64 | c64 | k64 | a65 | l65 | c65 | k65 | a66 | l66 | c66 | k66 | a67 | l67 | c67 | k67 | a68 | l68 | c68 | k68 | a69 | l69 | c69 | k69 | a70 | l70 | c70 | k70 | a71 | l71 | c71 | k71 | a72 | l72 | c72 | k72 | a73 | l73 | c73 | k73 | a74 | l74 | c74 | k74 | a75 | l75 | c75 | k75 | a76 | l76 | c76 | k76 | a77 | l77 | c77 | k77 | a78 | l78 | c78 | k78 | a79 | l79 | c79 | k79 | a80 | l80 | c80 | k80 | a81 | l81 | c81 | k81 | a82 | l82 | c82 | k82 | a83 | l83 | c83 | k83 | a84 | l84 | c84 | k84 | a85 | l85 | c85 | k85 | a86 | l86 | c86 | k86 | a87 | l87 | c87 | k87 | a88 | l88 | c88 | k88 | a89 | l89 | c89 | k89 | pg_End | hd_End | po_End | sa_End | mk_End | kc_End | pg_Pile | hd_Pile | po_Pile | sa_Pile | mk_Pile | kc_Pile | zA0 | zA1 | zA2 | zA3 | zA4 | zA5 | zA6 | zA7 | zA8 | zA9 | zA10 | zA11 | zA12 | zA13 | zA14 | zA15 | zA16 | zA17 | zA18 | zA19 | zA20 | zA21 | zA22 | zA23 | zA24 | zA25 | zg0 | zg1 | zg2 | zg3 | zg4 | zg5 | zg6 | zg7 | zg8 | zg9 | zg10 | zg11 | zg12 | zg13 | zg14 | zg15 | zg16 | zg17 | zg18 | zg19 | zg20 | zg21 | zg22 | zg23 | zg24 | zg25 | zg26 | zg27 | zg28 | zg29 | zg30 | zg31 | zg32 | zg33 | zg34 | zg35 | zg36 | zg37 | zg38 | zg39 | zg40 | zg41 | zg42 | zg43 | z_all | z_bool | z_enumerate | z_int | z_isinstance | z_len | z_list | z_max | z_min | z_range | z_sum | z_tuple=>k_is
#print axioms PySem.Challenge.cw_wirestream_k19_windows_told_holds
