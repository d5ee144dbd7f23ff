import PyProof.Rows.All
import Wide.All
import OpenK.AllK
import Wide.FinOn
import Lean
import PyProof.EqAt
import PyProof.EqKinds
import PyProof.TupleCall
import PySem.Challenge.RW_wirestream_k11_three_ways
set_option Elab.async false
set_option linter.all false
set_option maxRecDepth 100000
namespace L2
open PySem PySem.Spec PyProof.Rows
abbrev Key:=Sum Int Str
def keyIs:Key→Value→Bool
  | .inl k,v=>Value.isInt k v
  | .inr x,v=>Value.isStrOf x v
def keyH (w:World):Key→Int
  | .inl k=>hashInt k
  | .inr x=>hashStr w x
theorem keyIs_shape:∀{k:Key} {v:Value},keyIs k v=true→(∃i t,k=Sum.inl i∧v=Value.int i t)∨(∃x t,k=Sum.inr x∧v=Value.str x t)
  | .inl i,v,h=>by
    obtain ⟨t,e⟩:=Value.isInt_shape (k:=i) (v:=v) h
    exact .inl ⟨i,t,rfl,e⟩
  | .inr x,v,h=>by
    obtain ⟨t,e⟩:=Value.isStrOf_shape (x:=x) (v:=v) h
    exact .inr ⟨x,t,rfl,e⟩
theorem keyIs_int (i:Int) (t:Tok):keyIs (.inl i) (.int i t)=true:=by simp [keyIs,Value.isInt]
theorem keyIs_str (x:Str) (t:Tok):keyIs (.inr x) (.str x t)=true:=by simp [keyIs,Value.isStrOf]
theorem key_ll (a b:Int):decide ((Sum.inl a:Key)=Sum.inl b)=(a == b):=by
  by_cases e:a=b
  · subst e; simp
  · have h:¬(Sum.inl a:Key)=Sum.inl b:=fun q=>e (Sum.inl.inj q)
    rw [decide_eq_false h]
    exact (beq_eq_false_iff_ne.mpr e).symm
theorem key_rr (a b:Str):decide ((Sum.inr a:Key)=Sum.inr b)=decide (a=b):=by
  by_cases e:a=b
  · subst e; simp
  · have h:¬(Sum.inr a:Key)=Sum.inr b:=fun q=>e (Sum.inr.inj q)
    rw [decide_eq_false h,decide_eq_false e]
theorem key_lr (a:Int) (b:Str):decide ((Sum.inl a:Key)=Sum.inr b)=false:=decide_eq_false (fun q=>nomatch q)
theorem key_rl (a:Str) (b:Int):decide ((Sum.inr a:Key)=Sum.inl b)=false:=decide_eq_false (fun q=>nomatch q)
def mixKind (prog:Program) (w:World):PySem.KeyKind prog w Key where
  is:=keyIs
  hash:=keyH w
  inj:=fun v a b ha hb=>by
    rcases keyIs_shape ha with ⟨i,t,rfl,rfl⟩ | ⟨x,t,rfl,rfl⟩
    · rcases keyIs_shape hb with ⟨j,u,rfl,e⟩ | ⟨y,u,rfl,e⟩
      · injection e with e1 _; rw [e1]
      · exact nomatch e
    · rcases keyIs_shape hb with ⟨j,u,rfl,e⟩ | ⟨y,u,rfl,e⟩
      · exact nomatch e
      · injection e with e1 _; rw [e1]
  byValue:=fun k v h=>by
    rcases keyIs_shape h with ⟨i,t,rfl,rfl⟩ | ⟨x,t,rfl,rfl⟩<;>rfl
  pyHash:=fun hv h=>by
    rcases keyIs_shape hv with ⟨i,t,rfl,rfl⟩ | ⟨x,t,rfl,rfl⟩
    · exact wpAny_pyHash_int h
    · exact wpAny_pyHash_str h
  eqBool:=fun hu hv h=>by
    rcases keyIs_shape hu with ⟨i,t,rfl,rfl⟩ | ⟨x,t,rfl,rfl⟩
    · rcases keyIs_shape hv with ⟨j,u,rfl,rfl⟩ | ⟨y,u,rfl,rfl⟩
      · rw [key_ll] at h; exact wpAny_eqBool_int h
      · rw [key_lr] at h; exact SeqAt.EqAt.int_str i t y u _ _ _ _ h
    · rcases keyIs_shape hv with ⟨j,u,rfl,rfl⟩ | ⟨y,u,rfl,rfl⟩
      · rw [key_rl] at h; exact SeqAt.EqAt.str_int x t j u _ _ _ _ h
      · rw [key_rr] at h; exact wpAny_eqBool_str h
  «strs»:=fun k x t v h=>by
    rcases keyIs_shape h with ⟨i,u,rfl,e⟩ | ⟨y,u,rfl,e⟩
    · exact nomatch e
    · injection e with e1 _
      subst e1
      cases v<;>rfl
theorem mixKind_int (prog:Program) (w:World) (i:Int) (t:Tok):(mixKind prog w).is (.inl i) (.int i t)=true:=keyIs_int i t
theorem mixKind_str (prog:Program) (w:World) (x:Str) (t:Tok):(mixKind prog w).is (.inr x) (.str x t)=true:=keyIs_str x t
end L2
namespace L2
open PySem PySem.Spec PyProof.Rows
inductive V where
  | non | bl (b:Bool) | int (i:Int) | str (x:Str) | byt (b:Array UInt8) | flt (b:UInt64) | ref (a:Addr) | ty (n:String)
  deriving DecidableEq
def RelV:V→Value→Prop
  | .non,u=>u=Value.none
  | .bl b,u=>u=Value.bool b
  | .int i,u=>∃t,u=Value.int i t
  | .str x,u=>∃t,u=Value.str x t
  | .byt b,u=>∃t,u=Value.bytes b t
  | .flt b,u=>∃t,u=Value.float b t
  | .ref a,u=>u=Value.ref a
  | .ty n,u=>u=Value.type n
abbrev Vals:List V→List Value→Prop:=Paired RelV
theorem Vals.length {xs:List V} {us:List Value} (r:Vals xs us):xs.length=us.length:=Paired.length r
theorem Vals.get:∀{xs:List V} {us:List Value} {i:Nat} {x:V},Vals xs us→xs[i]?=some x→∃u,us[i]?=some u∧RelV x u
  | _,_,_,_,.nil,e=>by simp at e
  | _,_,0,_,.cons r _,e=>by simp at e; subst e; exact ⟨_,rfl,r⟩
  | _,_,i+1,x,.cons _ t,e=>by
    obtain ⟨u,h1,h2⟩:=Vals.get (i:=i) (x:=x) t (by simpa using e)
    exact ⟨u,by simpa using h1,h2⟩
theorem Vals.set {x:V} {u:Value} (r:RelV x u):∀{xs:List V} {us:List Value} (i:Nat),Vals xs us→Vals (xs.set i x) (us.set i u)
  | _,_,_,.nil=>.nil
  | _,_,0,.cons _ t=>.cons r t
  | _,_,i+1,.cons q t=>.cons q (Vals.set r i t)
theorem Vals.append:∀{xs ys:List V} {us ws:List Value},Vals xs us→Vals ys ws→Vals (xs++ys) (us++ws)
  | _,_,_,_,.nil,s=>s
  | _,_,_,_,.cons r t,s=>.cons r (Vals.append t s)
theorem Vals.take:∀{xs:List V} {us:List Value} (n:Nat),Vals xs us→Vals (xs.take n) (us.take n)
  | _,_,0,_=>.nil
  | _,_,_+1,.nil=>.nil
  | _,_,n+1,.cons r t=>.cons r (Vals.take n t)
theorem Vals.drop:∀{xs:List V} {us:List Value} (n:Nat),Vals xs us→Vals (xs.drop n) (us.drop n)
  | _,_,0,r=>r
  | _,_,_+1,.nil=>.nil
  | _,_,n+1,.cons _ t=>Vals.drop n t
theorem Vals.none_of:∀{xs:List V} {us:List Value} {i:Nat},Vals xs us→xs[i]?=none→us[i]?=none:=fun {xs us i} r e=>by
  have h1:=r.length
  have h2:xs.length≤i:=List.getElem?_eq_none_iff.mp e
  exact List.getElem?_eq_none_iff.mpr (by omega)
def RelO:Option V→Option Value→Prop
  | some v,some u=>RelV v u
  | none,none=>True
  | _,_=>False
def KV {κ:Type}:List (κ×V)→List (κ×Value)→Prop:=Paired fun (p:κ×V) (q:κ×Value)=>p.1=q.1∧RelV p.2 q.2
def kV:Key→V
  | .inl i=>.int i
  | .inr x=>.str x
inductive HO where
  | lst (xs:List V)
  | tup (xs:List V)
  | dK (kvs:List (Key×V)) | dT (kvs:List (List Key×V))
  | set (S:Int→Bool) (n:Nat)
  | ins (C dx:Addr) (fs:List (Str×V))
  | own (x:Addr)
  | xd (fs:List (Str×V))
  | met (f x:Addr)
  | rng (lo hi:Int)
  | frz (o:Obj) (u:HO)
  | tbl (ps:Array Value)
  | ext (φ:Heap→Prop)
abbrev Hp:=Addr→Option HO
def upd (H:Hp) (a:Addr) (o:HO):Hp:=fun b=>if b=a then some o else H b
theorem upd_same {H:Hp} {a:Addr} {o:HO}:upd H a o a=some o:=by unfold upd; rw [if_pos rfl]
theorem upd_ne {H:Hp} {a b:Addr} {o:HO} (h:b≠a):upd H a o b=H b:=by unfold upd; rw [if_neg h]
theorem ne_of_none {H:Hp} {a b:Addr} {o:HO} (h:H a=some o) (h':H b=none):a≠b:=by
  intro e; subst e; rw [h] at h'; cases h'
section
variable (P:Program) (w:World)
def ObjOk (H:Hp) (h:Heap) (a:Addr):HO→Prop
  | .lst xs=>xs.length≤sizeLine∧∃(its:List Value) (n:Nat),Vals xs its∧h.get? a=some { cls:=.type "list",data:=.seq its.toArray n }
  | .tup xs=>xs.length≤sizeLine∧∃its:List Value,Vals xs its∧IsTup h a its.toArray
  | .dK kvs=>kvs.length≤sizeLine∧(a == sysModules)=false∧∃vs,KV kvs vs∧h.DictOf (mixKind P w) a vs
  | .dT kvs=>kvs.length≤sizeLine∧(a == sysModules)=false∧∃xs:List (List Key×Addr×Value),
      Paired (fun (p:List Key×V) (q:List Key×Addr×Value)=>p.1=q.1∧H q.2.1=some (.tup (p.1.map kV))∧RelV p.2 q.2.2) kvs xs∧
      ∃o es ep,h.get? a=some o∧o.ExactDict∧o.data=.dict es ep∧es.toList=xs.map (entryOfKey (tupleKind (mixKind P w)))∧(xs.map (·.1)).Nodup
  | .set S n=>h.SetOf (intKind P w) a S n
  | .ins C dx fs=>H dx=some (.own a)∧fs.length≤1000∧dx≠a∧h.get? a=some (PySem.W.instObj C dx)∧
      ∃mA,h.Ns1 dx mA∧(∀f,RelO (fs.lookup f) (mA f))∧PySem.Within mA (fs.map (·.1))
  | .own _=>∃o,h.get? a=some o
  | .xd fs=>∃mA,h.Ns1 a mA∧∀f,RelO (fs.lookup f) (mA f)
  | .rng lo hi=>∃t u v,h.get? a=some { cls:=.type "range",data:=.fields #[.int lo t,.int hi u,.int 1 v] }
  | .frz o u=>h.get? a=some o∧ObjOk H h a u
  | .tbl ps=>h.get? a=some { cls:=.none,data:=.fields ps }
  | .met f x=>h.get? a=some (PySem.W.methodObj (.ref f) (.ref x))
  | .ext φ=>φ h∧(∃o,h.get? a=some o)∧∀h1 h2:Heap,φ h1→(∀o,h1.get? a=some o→h2.get? a=some o)→φ h2
def HOk (H:Hp) (h:Heap):Prop:=∀a o,H a=some o→ObjOk P w H h a o
end
section
variable {P:Program} {w:World} {H H':Hp} {h h':Heap} {a:Addr} {o:HO}
theorem ObjOk.lt (x:ObjOk P w H h a o):a<h.objs.size:=by
  cases o with
  | lst xs=>obtain ⟨_,_,_,_,e⟩:=x; exact Heap.lt_size e
  | tup xs=>obtain ⟨_,_,_,p⟩:=x; exact p.lt
  | dK kvs=>obtain ⟨_,_,_,_,o,_,_,e,_⟩:=x; exact Heap.lt_size e
  | dT kvs=>obtain ⟨_,_,_,_,o,_,_,e,_⟩:=x; exact Heap.lt_size e
  | set S n=>obtain ⟨o,_,_,_,e,_⟩:=x; exact Heap.lt_size e
  | ins C dx fs=>obtain ⟨_,_,_,e,_⟩:=x; exact Heap.lt_size e
  | own y=>obtain ⟨_,e⟩:=x; exact Heap.lt_size e
  | xd fs=>obtain ⟨_,⟨_,_,_,e,_⟩,_⟩:=x; exact Heap.lt_size e
  | rng lo hi=>obtain ⟨_,_,_,e⟩:=x; exact Heap.lt_size e
  | frz ob u=>obtain ⟨e,_⟩:=x; exact Heap.lt_size e
  | tbl ps=>exact Heap.lt_size (show h.get? a=some _ from x)
  | met f y=>exact Heap.lt_size (show h.get? a=some _ from x)
  | ext φ=>obtain ⟨_,⟨_,e⟩,_⟩:=x; exact Heap.lt_size e
theorem Paired.mapP {α β:Type} {F G:α→β→Prop}:∀{l₁:List α} {l₂:List β},Paired F l₁ l₂→(∀a b,F a b→G a b)→Paired G l₁ l₂
  | _,_,.nil,_=>.nil
  | _,_,.cons r t,f=>.cons (f _ _ r) (Paired.mapP t f)
theorem ObjOk.stay (x:ObjOk P w H h a o) (k:∀b u,(b=a∨H b=some (.own a))→h.get? b=some u→h'.get? b=some u)
    (ho:∀b,H b=some (.own a)→H' b=some (.own a)) (ht:∀b xs,H b=some (.tup xs)→H' b=some (.tup xs)):ObjOk P w H' h' a o:=by
  induction o with
  | lst xs=>obtain ⟨z,its,n,r,e⟩:=x; exact ⟨z,its,n,r,k _ _ (.inl rfl) e⟩
  | tup xs=>obtain ⟨z,its,r,ob,e,c⟩:=x; exact ⟨z,its,r,ob,k _ _ (.inl rfl) e,c⟩
  | dK kvs=>obtain ⟨z,y,vs,r,ob,es,ep,e,c⟩:=x; exact ⟨z,y,vs,r,ob,es,ep,k _ _ (.inl rfl) e,c⟩
  | dT kvs=>
    obtain ⟨z,y,xs,r,ob,es,ep,e,c⟩:=x
    exact ⟨z,y,xs,Paired.mapP r fun p q z=>⟨z.1,ht _ _ z.2.1,z.2.2⟩,ob,es,ep,k _ _ (.inl rfl) e,c⟩
  | set S n=>obtain ⟨ob,es,ep,t,e,c⟩:=x; exact ⟨ob,es,ep,t,k _ _ (.inl rfl) e,c⟩
  | ins C dx fs=>
    obtain ⟨d,z,ne,e,mA,⟨od,es,ep,e2,c⟩,r⟩:=x
    exact ⟨ho _ d,z,ne,k _ _ (.inl rfl) e,mA,⟨od,es,ep,k _ _ (.inr d) e2,c⟩,r⟩
  | own y=>obtain ⟨ob,e⟩:=x; exact ⟨ob,k _ _ (.inl rfl) e⟩
  | xd fs=>obtain ⟨mA,⟨od,es,ep,e,c⟩,r⟩:=x; exact ⟨mA,⟨od,es,ep,k _ _ (.inl rfl) e,c⟩,r⟩
  | rng lo hi=>obtain ⟨t,u,v,e⟩:=x; exact ⟨t,u,v,k _ _ (.inl rfl) e⟩
  | frz ob u ih=>obtain ⟨e,q⟩:=x; exact ⟨k _ _ (.inl rfl) e,ih q⟩
  | tbl ps=>
    have e:h.get? a=some { cls:=.none,data:=.fields ps }:=x
    show h'.get? a=some { cls:=.none,data:=.fields ps }
    exact k a _ (.inl rfl) e
  | met f y=>
    have e:h.get? a=some (PySem.W.methodObj (.ref f) (.ref y)):=x
    show h'.get? a=some (PySem.W.methodObj (.ref f) (.ref y))
    exact k a _ (.inl rfl) e
  | ext φ=>obtain ⟨p,⟨o,e⟩,st⟩:=x; exact ⟨st _ _ p fun o q=>k _ _ (.inl rfl) q,⟨o,k _ _ (.inl rfl) e⟩,st⟩
theorem HOk.lt (x:HOk P w H h) (e:H a=some o):a<h.objs.size:=(x a o e).lt
theorem HOk.fresh (x:HOk P w H h) (e:h.objs.size≤a):H a=none:=by
  cases q:H a with
  | none=>rfl
  | some u=>exact absurd (Nat.lt_of_lt_of_le (x.lt q) e) (Nat.lt_irrefl _)
theorem HOk.kept (x:HOk P w H h) (k:∀b u,h.get? b=some u→h'.get? b=some u):HOk P w H h':=fun a o e=>
  (x a o e).stay (fun b u _ q=>k b u q) (fun _ q=>q) fun _ _ q=>q
theorem HOk.laid (x:HOk P w H h) (k:∀b u,h.get? b=some u→h'.get? b=some u) (hp:h.objs.size≤a) (new:ObjOk P w (upd H a o) h' a o):HOk P w (upd H a o) h':=fun b u e=>by
  have hn:=x.fresh hp
  by_cases hb:b=a
  · subst hb; rw [upd_same] at e; cases e; exact new
  · rw [upd_ne hb] at e
    exact (x b u e).stay (fun c v _ q=>k c v q) (fun c q=>by rw [upd_ne (ne_of_none q hn)]; exact q) fun c xs q=>by rw [upd_ne (ne_of_none q hn)]; exact q
end
def Rd (H:Hp) (a:Addr) (u:HO):Prop:=H a=some u∨∃o,H a=some (.frz o u)
theorem Rd.of {H:Hp} {a:Addr} {u:HO} (h:H a=some u):Rd H a u:=.inl h
theorem Rd.ok {P:Program} {w:World} {H:Hp} {h:Heap} {a:Addr} {u:HO} (r:Rd H a u) (x:HOk P w H h):ObjOk P w H h a u:=by
  rcases r with r | ⟨o,r⟩
  · exact x a u r
  · obtain ⟨_,q⟩:=x a _ r
    exact q
def Mut:Option HO→Prop
  | some (.lst _)=>True
  | some (.dK _)=>True
  | some (.dT _)=>True
  | some (.set _ _)=>True
  | some (.ins _ _ _)=>True
  | some (.ext _)=>True
  | _=>False
section
variable {P:Program} {w:World} {H:Hp} {h h':Heap} {x e:Addr} {o':HO}
theorem HOk.write (ok:HOk P w H h) (mu:Mut (H x)) (he:e=x∨H e=some (.own x)) (k:∀b u,b≠e→h.get? b=some u→h'.get? b=some u) (heo:∃u,h'.get? e=some u)
    (new:ObjOk P w (upd H x o') h' x o'):HOk P w (upd H x o') h':=fun b u q=>by
  have nown:∀c y,H c=some (.own y)→c≠x:=fun c y r z=>by subst z; rw [r] at mu; exact mu
  have ntup:∀c xs,H c=some (.tup xs)→c≠x:=fun c xs r z=>by subst z; rw [r] at mu; exact mu
  by_cases hb:b=x
  · subst hb; rw [upd_same] at q; cases q; exact new
  · rw [upd_ne hb] at q
    by_cases hbe:b=e
    · have q':H b=some (.own x):=by
        rcases he with z | z
        · exact absurd (hbe.trans z) hb
        · rw [hbe]; exact z
      rw [q] at q'; cases q'
      obtain ⟨v,hv⟩:=heo
      exact ⟨v,by rw [hbe]; exact hv⟩
    · refine (ok b u q).stay (fun c v hc r=>k c v ?_ r) (fun c r=>by rw [upd_ne (nown c b r)]; exact r) fun c xs r=>by rw [upd_ne (ntup c xs r)]; exact r
      rcases hc with rfl | hc
      · exact hbe
      · rintro rfl
        rcases he with z | z
        · exact nown c b hc z
        · rw [hc] at z; cases z; exact hb rfl
end
structure Un (fs ex:List Addr) (H H':Hp) (h h':Heap):Prop where
  keep:∀b o,h.get? b=some o→H b=none→b∉fs→b∉ex→h'.get? b=some o
  slot:∀b o,h.get? b=some o→H b=none→b∈fs→b∉ex→∃sl,h'.get? b=some { o with slots:=sl }
  free:∀b o,h.get? b=some o→H b=none→b∉ex→H' b=none
  there:∀b o,h.get? b=some o→b∉ex→∃o',h'.get? b=some o'
  tups:∀b xs,H b=some (.tup xs)→H' b=some (.tup xs)
  frzs:∀b o u,H b=some (.frz o u)→H' b=some (.frz o u)
  tbls:∀b ps,H b=some (.tbl ps)→∃more,H' b=some (.tbl (ps++more))
section
variable {fs fs' ex ex':List Addr} {H H1 H2:Hp} {h h1 h2 h':Heap} {a x e:Addr} {o:HO}
theorem Un.any (u:Un fs ex H H1 h h1) {b:Addr} {ob:Obj} (q:h.get? b=some ob) (n:H b=none) (hx:b∉ex):∃sl,h1.get? b=some { ob with slots:=sl }:=by
  by_cases hb:b∈fs
  · exact u.slot b ob q n hb hx
  · exact ⟨ob.slots,u.keep b ob q n hb hx⟩
theorem Un.trans (a:Un fs ex H H1 h h1) (b:Un fs ex H1 H2 h1 h2):Un fs ex H H2 h h2 where
  keep:=fun c ob q n hc hx=>b.keep c ob (a.keep c ob q n hc hx) (a.free c ob q n hx) hc hx
  slot:=fun c ob q n hc hx=>by
    obtain ⟨sl,e1⟩:=a.slot c ob q n hc hx
    obtain ⟨sl',e2⟩:=b.slot c _ e1 (a.free c ob q n hx) hc hx
    exact ⟨sl',e2⟩
  free:=fun c ob q n hx=>by
    obtain ⟨o',e1⟩:=a.there c ob q hx
    exact b.free c o' e1 (a.free c ob q n hx) hx
  there:=fun c ob q hx=>by
    obtain ⟨o',e1⟩:=a.there c ob q hx
    exact b.there c o' e1 hx
  tups:=fun c xs q=>b.tups c xs (a.tups c xs q)
  frzs:=fun c ob xs q=>b.frzs c ob xs (a.frzs c ob xs q)
  tbls:=fun c ps q=>by
    obtain ⟨m1,e1⟩:=a.tbls c ps q
    obtain ⟨m2,e2⟩:=b.tbls c _ e1
    exact ⟨m1++m2,by rw [e2,Array.append_assoc]⟩
theorem Un.kept (k:∀b u,h.get? b=some u→h'.get? b=some u):Un fs ex H H h h':=
  ⟨fun b ob q _ _ _=>k b ob q,fun b ob q _ _ _=>⟨ob.slots,k b ob q⟩,fun _ _ _ n _=>n,fun b ob q _=>⟨ob,k b ob q⟩,fun _ _ q=>q,fun _ _ _ q=>q,fun _ ps q=>⟨#[],by rw [q]; simp⟩⟩
theorem Un.refl:Un fs ex H H h h:=Un.kept fun _ _ q=>q
theorem Un.laid (k:∀b u,h.get? b=some u→h'.get? b=some u) (hp:h.objs.size≤a) (hn:H a=none):Un fs ex H (upd H a o) h h' where
  keep:=fun b u q _ _ _=>k b u q
  slot:=fun b u q _ _ _=>⟨u.slots,k b u q⟩
  free:=fun b u q n _=>by rw [upd_ne (Nat.ne_of_lt (Nat.lt_of_lt_of_le (Heap.lt_size q) hp))]; exact n
  there:=fun b u q _=>⟨u,k b u q⟩
  tups:=fun b xs q=>by rw [upd_ne (ne_of_none q hn)]; exact q
  frzs:=fun b u xs q=>by rw [upd_ne (ne_of_none q hn)]; exact q
  tbls:=fun b ps q=>⟨#[],by rw [upd_ne (ne_of_none q hn),q]; simp⟩
theorem Un.write (mu:Mut (H x)) (he:e=x∨H e=some (.own x)) (k:∀b u,b≠e→h.get? b=some u→h'.get? b=some u) (heo:∃u,h'.get? e=some u):Un fs ex H (upd H x o) h h':=by
  have hx:∀b,H b=none→b≠x:=fun b n z=>by subst z; rw [n] at mu; exact mu
  have hb:∀b,H b=none→b≠e:=fun b n z=>by
    subst z
    rcases he with r | r
    · exact hx b n r
    · rw [n] at r; cases r
  have hm:∀b u,H b=some u→¬Mut (some u)→b≠x:=fun b u q nm z=>by subst z; rw [q] at mu; exact nm mu
  refine ⟨fun b u q n _ _=>k b u (hb b n) q,fun b u q n _ _=>⟨u.slots,k b u (hb b n) q⟩,fun b u q n _=>by rw [upd_ne (hx b n)]; exact n,fun b u q _=>?_,
    fun b xs q=>by rw [upd_ne (hm b _ q fun z=>z)]; exact q,fun b u xs q=>by rw [upd_ne (hm b _ q fun z=>z)]; exact q,fun b ps q=>⟨#[],by rw [upd_ne (hm b _ q fun z=>z),q]; simp⟩⟩
  by_cases hbe:b=e
  · subst hbe; exact heo
  · exact ⟨u,k b u hbe q⟩
theorem Un.mono (u:Un fs ex H H1 h h1) (hs:∀b∈fs,b∈fs') (hx:∀b∈ex,b∈ex'):Un fs' ex' H H1 h h1:=
  ⟨fun b ob q n hb he=>u.keep b ob q n (fun z=>hb (hs b z)) fun z=>he (hx b z),fun _ _ q n _ he=>u.any q n fun z=>he (hx _ z),fun b ob q n he=>u.free b ob q n fun z=>he (hx b z),fun b ob q he=>u.there b ob q fun z=>he (hx b z),u.tups,u.frzs,u.tbls⟩
end
def trk (h:Heap) (H:Hp):List Addr:=(List.range h.objs.size).filter fun a=>(H a).isSome
def hidT (h:Heap) (H:Hp):Heap:=PySem.W.hideAll h (trk h H)
theorem hidT_size (h:Heap) (H:Hp):(hidT h H).objs.size=h.objs.size:=PySem.W.hideAll_size _ _
theorem hidT_get {h:Heap} {H:Hp} {b:Addr} {o:Obj} (e:h.get? b=some o) (n:H b=none):(hidT h H).get? b=some o:=
  PySem.W.hideAll_get _ e fun hm=>by
    have q:(H b).isSome=true:=(List.mem_filter.mp hm).2
    rw [n] at q; simp at q
theorem of_hidT {h:Heap} {H:Hp} {b:Addr} {o:Obj} (e:(hidT h H).get? b=some o):h.get? b=some o∧H b=none:=by
  have e':h.get? b=some o:=PySem.W.of_hideAll (trk h H) e
  refine ⟨e',?_⟩
  cases q:H b with
  | none=>rfl
  | some x=>
    have hm:b∈trk h H:=List.mem_filter.mpr ⟨List.mem_range.mpr (Heap.lt_size e'),by simp [q]⟩
    have z:(hidT h H).get? b=none:=PySem.W.hideAll_none (trk h H) hm
    rw [z] at e; cases e
def allNews (g h:Heap) (L:Addr):List (Addr×Obj):=(List.range h.objs.size).filterMap fun a=>if a=L∨(g.get? a).isSome=true then none else (h.get? a).map fun o=>(a,o)
def rest (g h:Heap) (L d:Addr):List (Addr×Obj):=(allNews g h L).filter fun p=>decide (p.1≠d)
end L2
namespace L2
open PySem PySem.Spec PyProof.Rows
structure Mod (K:PySem.W.Frag) (mg:Str→Option Value) (base:Heap):Prop where
  kin:K.In base
  glob:base.Ns mainGlobals mg
  blt:∃mb,base.Ns builtinsNs mb∧∀x:Str,x≠"__name__"→mb x=bootBuiltins x
  nolimit:base.NoLimit
structure Cx where
  prog:Program
  w:World
  K:PySem.W.Frag
  mg:Str→Option Value
  base:Heap
  A:Around
  N:List Str
  s₀:Shared
  H₀:Hp
  env:Env
  outer:List Env
  stack:List Env
  ex:List Addr
  fn:Str→Bool
  calm:Bool
  pn:List (Addr×Obj)
  xe:Value→Shared→Prop
def frs (l:List Env):List Addr:=l.filterMap (·.frame)
abbrev Cx.fs (X:Cx):List Addr:=frs X.outer
def Vis (sc:Scope) (x:Str):Prop:=sc.names.lookup x=some .local∨sc.names.lookup x=some .cell∨sc.names.lookup x=some .free
def Loc (sc:Scope) (x:Str):Prop:=sc.names.lookup x=some .local∨sc.names.lookup x=some .cell
def Look (env:Env) (h:Heap) (m:Str→Option Value) (x:Str) (u:Value):Prop:=
  (env.kindOf x=some .local∧m x=some u)∨((env.kindOf x=some .cell∨env.kindOf x=some .free)∧∃c,env.cells.lookup x=some c∧h.IsCell c (some u))
structure Cx.Ok (X:Cx):Prop where
  mod:Mod X.K X.mg X.base
  kind:X.env.scope.kind=.function
  glob:X.env.globals=mainGlobals
  blt:X.env.builtins=builtinsNs
  above:X.s₀.heap.objs.size≤X.env.locals
  inj:∀x y c,X.env.cells.lookup x=some c→X.env.cells.lookup y=some c→x=y
  has:∀x,(X.env.kindOf x=some .cell∨X.env.kindOf x=some .free)→∃c,X.env.cells.lookup x=some c
  cab:∀x c,X.fn x=true→X.env.cells.lookup x=some c→X.s₀.heap.objs.size≤c
  hd:X.calm=true→X.A.handled=none
  frames:X.A.frames=some X.stack
  stk:X.stack=X.outer∨(X.stack=X.env::X.outer∧X.env.frame=some X.env.locals)
  exf:∀b∈X.ex,b≠X.env.locals∧∀x c,X.env.cells.lookup x=some c→c≠b
  bs:∀b o,X.base.get? b=some o→X.s₀.heap.get? b=some o∧X.H₀ b=none
  bsz:X.base.objs.size≤X.s₀.heap.objs.size
  noex:∀b o,X.base.get? b=some o→b∉X.ex
  exfs:∀b∈X.ex,b∉X.fs
  funs:X.s₀.heap.FunFrames X.base X.outer
  frf:∀b∈X.fs,X.H₀ b=none
structure Inv (X:Cx) (pins:List (Addr×Obj)) (σ:List (Option V)) (H:Hp) (s:Shared):Prop where
  ok:X.Ok
  os:s.os=X.s₀.os
  bare:AllBare s.gens
  base:Un X.fs X.ex X.H₀ H X.s₀.heap s.heap
  loc:∃m,s.heap.Ns X.env.locals m∧∀(i:Nat) (x:Str) (v:V),X.N[i]?=some x→σ[i]?=some (some v)→Vis X.env.scope x→∃u,RelV v u∧Look X.env s.heap m x u
  cell:∀x c,X.env.cells.lookup x=some c→∃v,s.heap.IsCell c v
  free:H X.env.locals=none
  freeC:∀x c,X.env.cells.lookup x=some c→H c=none
  pin:∀p∈X.pn++pins,s.heap.get? p.1=some p.2∧H p.1=none∧p.1≠X.env.locals∧p.1∉X.fs∧∀v,p.2.data≠.cell v
  hok:HOk X.prog X.w H s.heap
  len:σ.length=X.N.length
section
variable {X:Cx} {pins:List (Addr×Obj)} {σ:List (Option V)} {H H':Hp} {s:Shared} {h':Heap}
theorem Cx.Ok.nofr (ok:X.Ok) {b:Addr} {o:Obj} (e:X.base.get? b=some o):b∉X.fs:=fun hb=>by
  have:=(ok.funs.mem hb).1
  rw [e] at this; cases this
theorem Inv.bs (I:Inv X pins σ H s):∀b o,X.base.get? b=some o→s.heap.get? b=some o∧H b=none:=fun b o e=>
  ⟨I.base.keep b o (I.ok.bs b o e).1 (I.ok.bs b o e).2 (I.ok.nofr e) (I.ok.noex b o e),I.base.free b o (I.ok.bs b o e).1 (I.ok.bs b o e).2 (I.ok.noex b o e)⟩
theorem Inv.bk (I:Inv X pins σ H s):∀b o,X.base.get? b=some o→s.heap.get? b=some o:=fun b o e=>(I.bs b o e).1
theorem Inv.mod (I:Inv X pins σ H s):Mod X.K X.mg X.base:=I.ok.mod
theorem Inv.kIn (I:Inv X pins σ H s):X.K.In s.heap:=I.ok.mod.kin.keeps I.bk
theorem Inv.nolimit (I:Inv X pins σ H s):s.heap.NoLimit:=I.ok.mod.nolimit.keeps I.bk
theorem Inv.fr (I:Inv X pins σ H s):∃m,Fr X.base X.env.locals s.heap m:=
  let ⟨m,hn,_⟩:=I.loc
  ⟨m,hn,I.bk,Nat.le_trans I.ok.bsz I.ok.above⟩
theorem Inv.lt (I:Inv X pins σ H s):X.env.locals<s.heap.objs.size:=let ⟨_,hn,_⟩:=I.loc; hn.lt
theorem Inv.sz (I:Inv X pins σ H s):X.s₀.heap.objs.size≤s.heap.objs.size:=Nat.le_trans I.ok.above (Nat.le_of_lt I.lt)
theorem Inv.nofs (I:Inv X pins σ H s) {a:Addr} (h:s.heap.objs.size≤a):a∉X.fs:=fun hb=>by
  obtain ⟨_,o,ho,_⟩:=I.ok.funs.mem hb
  exact absurd (Nat.lt_of_lt_of_le (Heap.lt_size ho) (Nat.le_trans I.sz h)) (Nat.lt_irrefl _)
theorem Inv.cne (I:Inv X pins σ H s):∀x c,X.env.cells.lookup x=some c→c≠X.env.locals:=fun x c e z=>by
  obtain ⟨v,o,ho,hd⟩:=I.cell x c e
  obtain ⟨m,⟨o',es,ep,ho',hd',_⟩,_⟩:=I.loc
  rw [z,ho'] at ho; cases ho; rw [hd'] at hd; cases hd
theorem Inv.funs (I:Inv X pins σ H s):s.heap.FunFrames X.base X.outer:=by
  have all:∀(l:List Env),(∀b∈frs l,b∈X.fs)→X.s₀.heap.FunFrames X.base l→s.heap.FunFrames X.base l:=by
    intro l
    induction l with
    | nil=>intro _ _; trivial
    | cons env r ih=>
      intro hs hl
      obtain ⟨hk,⟨L,o,hf,hn,ho,hd⟩,hr⟩:=hl
      have hL:L∈X.fs:=hs L (by unfold frs; rw [List.filterMap_cons,hf]; exact List.mem_cons_self)
      obtain ⟨sl,e⟩:=I.base.slot L o ho (I.ok.frf L hL) hL fun z=>I.ok.exfs L z hL
      exact ⟨hk,⟨L,_,hf,hn,e,hd⟩,ih (fun b hb=>hs b (by unfold frs; rw [List.filterMap_cons,hf]; exact List.mem_cons_of_mem _ hb)) hr⟩
  exact all X.outer (fun _ hb=>hb) I.ok.funs
theorem Inv.stack (I:Inv X pins σ H s):s.heap.FunFrames X.base X.stack:=by
  rcases I.ok.stk with e | ⟨e,hf⟩
  · rw [e]; exact I.funs
  · rw [e]
    obtain ⟨m,hn,_⟩:=I.loc
    refine .cons (by rw [I.ok.kind]; decide) hf hn ?_ I.funs
    exact Heap.get?_none_of_le (Nat.le_trans I.ok.bsz I.ok.above)
theorem Inv.stkSub (I:Inv X pins σ H s):∀b∈frs X.stack,b∈X.env.locals::X.fs:=fun b hb=>by
  rcases I.ok.stk with e | ⟨e,hf⟩
  · rw [e] at hb; exact List.mem_cons_of_mem _ hb
  · rw [e] at hb
    unfold frs at hb
    rw [List.filterMap_cons,hf] at hb
    exact hb
theorem Inv.stkFree (I:Inv X pins σ H s):∀b∈frs X.stack,H b=none:=fun b hb=>by
  rcases List.mem_cons.mp (I.stkSub b hb) with e | hb
  · rw [e]; exact I.free
  · obtain ⟨_,o,ho,_⟩:=I.ok.funs.mem hb
    exact I.base.free b o ho (I.ok.frf b hb) fun z=>I.ok.exfs b z hb
theorem Inv.step {g':Array GenState} {t':Nat} {d':Drawn} {ch:List Addr} (I:Inv X pins σ H s)
    (hch:∀b∈ch,(b∈X.ex∨X.s₀.heap.objs.size≤b)∧b≠X.env.locals∧(∀x c,X.env.cells.lookup x=some c→c≠b)∧∀p∈X.pn++pins,p.1≠b)
    (keep:∀b o,b≠X.env.locals→b∉X.fs→b∉ch→s.heap.get? b=some o→H b=none→h'.get? b=some o)
    (slot:∀b o,b≠X.env.locals→b∈X.fs→b∉ch→s.heap.get? b=some o→H b=none→∃sl,h'.get? b=some { o with slots:=sl }) (free:∀b o,b∉ch→s.heap.get? b=some o→H b=none→H' b=none)
    (there:∀b o,b∉ch→s.heap.get? b=some o→∃o',h'.get? b=some o')
    (tups:∀b xs,H b=some (.tup xs)→H' b=some (.tup xs)) (frzs:∀b o u,H b=some (.frz o u)→H' b=some (.frz o u)) (tbls:∀b ps,H b=some (.tbl ps)→∃more,H' b=some (.tbl (ps++more)))
    (ns:∀m,s.heap.Ns X.env.locals m→h'.Ns X.env.locals m) (hok:HOk X.prog X.w H' h') (hg:AllBare g') :
    Inv X pins σ H' { s with heap:=h',gens:=g',drawn:=d',toks:=t' }:=by
  have neL:∀b o,X.s₀.heap.get? b=some o→b≠X.env.locals:=fun b o e=>Nat.ne_of_lt (Nat.lt_of_lt_of_le (Heap.lt_size e) I.ok.above)
  have neC:∀b o,X.s₀.heap.get? b=some o→b∉X.ex→b∉ch:=fun b o e hx hb=>by
    rcases (hch b hb).1 with z | z
    · exact hx z
    · exact absurd (Nat.lt_of_lt_of_le (Heap.lt_size e) z) (Nat.lt_irrefl _)
  have cellK:∀x c,X.env.cells.lookup x=some c→∀v,s.heap.IsCell c v→h'.IsCell c v:=fun x c e v ⟨o,ho,hd⟩=>by
    have nch:c∉ch:=fun z=>(hch c z).2.2.1 x c e rfl
    by_cases hc:c∈X.fs
    · obtain ⟨sl,q⟩:=slot c o (I.cne x c e) hc nch ho (I.freeC x c e)
      exact ⟨_,q,hd⟩
    · exact ⟨o,keep c o (I.cne x c e) hc nch ho (I.freeC x c e),hd⟩
  refine ⟨I.ok,I.os,hg,⟨fun b o e n hb hx=>?_,fun b o e n hb hx=>?_,fun b o e n hx=>?_,fun b o e hx=>?_,fun b xs e=>tups b xs (I.base.tups b xs e),fun b o xs e=>frzs b o xs (I.base.frzs b o xs e),fun b ps e=>?_⟩,?_,fun x c e=>?_,?_,fun x c e=>?_,fun p hp=>?_,hok,I.len⟩
  · exact keep b o (neL b o e) hb (neC b o e hx) (I.base.keep b o e n hb hx) (I.base.free b o e n hx)
  · obtain ⟨sl,e1⟩:=I.base.slot b o e n hb hx
    obtain ⟨sl',e2⟩:=slot b _ (neL b o e) hb (neC b o e hx) e1 (I.base.free b o e n hx)
    exact ⟨sl',e2⟩
  · obtain ⟨o',e1⟩:=I.base.there b o e hx
    exact free b o' (neC b o e hx) e1 (I.base.free b o e n hx)
  · obtain ⟨o',e1⟩:=I.base.there b o e hx
    exact there b o' (neC b o e hx) e1
  · obtain ⟨m1,e1⟩:=I.base.tbls b ps e
    obtain ⟨m2,e2⟩:=tbls b _ e1
    exact ⟨m1++m2,by rw [e2,Array.append_assoc]⟩
  · obtain ⟨m,hn,hl⟩:=I.loc
    refine ⟨m,ns m hn,fun i x v e1 e2 e3=>?_⟩
    obtain ⟨u,r,l⟩:=hl i x v e1 e2 e3
    refine ⟨u,r,?_⟩
    rcases l with l | ⟨k,c,e,z⟩
    · exact .inl l
    · exact .inr ⟨k,c,e,cellK x c e _ z⟩
  · obtain ⟨v,z⟩:=I.cell x c e
    exact ⟨v,cellK x c e v z⟩
  · obtain ⟨m,⟨o,_,_,ho,_⟩,_⟩:=I.loc
    exact free _ o (fun z=>(hch _ z).2.1 rfl) ho I.free
  · obtain ⟨v,o,ho,hd⟩:=I.cell x c e
    exact free c o (fun z=>(hch c z).2.2.1 x c e rfl) ho (I.freeC x c e)
  · obtain ⟨e,n,ne,nf,d⟩:=I.pin p hp
    have nch:p.1∉ch:=fun z=>(hch p.1 z).2.2.2 p hp rfl
    exact ⟨keep p.1 p.2 ne nf nch e n,free p.1 p.2 nch e n,ne,nf,d⟩
theorem Inv.un {t':Nat} (I:Inv X pins σ H s) (u:Un X.fs [] H H' s.heap h') (hok:HOk X.prog X.w H' h'):Inv X pins σ H' { s with heap:=h',toks:=t' }:=by
  obtain ⟨m,⟨o,es,ep,ho,r⟩,_⟩:=id I.loc
  obtain ⟨sl,hL⟩:=u.any ho I.free (by simp)
  exact I.step (g':=s.gens) (d':=s.drawn) (ch:=[]) (fun _ z=>nomatch z) (fun b o _ hb _ e n=>u.keep b o e n hb (by simp)) (fun b o _ hb _ e n=>u.slot b o e n hb (by simp)) (fun b o _ e n=>u.free b o e n (by simp)) (fun b o _ e=>u.there b o e (by simp)) u.tups u.frzs u.tbls (fun m' hm=>by
    obtain ⟨o',es',ep',ho',r'⟩:=hm
    rw [ho] at ho'; cases ho'
    exact ⟨_,es',ep',hL,r'⟩) hok I.bare
theorem Inv.call {g':Array GenState} {t':Nat} {d':Drawn} {ch:List Addr} (I:Inv X pins σ H s) (u:Un (frs X.stack) ch H H' s.heap h') (hok:HOk X.prog X.w H' h') (hg:AllBare g')
    (hch:∀b∈ch,(b∈X.ex∨X.s₀.heap.objs.size≤b)∧b≠X.env.locals∧(∀x c,X.env.cells.lookup x=some c→c≠b)∧∀p∈X.pn++pins,p.1≠b) :
    Inv X pins σ H' { s with heap:=h',gens:=g',drawn:=d',toks:=t' }:=by
  obtain ⟨m,⟨o,es,ep,ho,r⟩,_⟩:=id I.loc
  obtain ⟨sl,hL⟩:=u.any ho I.free fun z=>(hch _ z).2.1 rfl
  exact I.step (ch:=ch) hch (fun b o hL hb hc e n=>u.keep b o e n (fun z=>(List.mem_cons.mp (I.stkSub b z)).elim hL hb) hc) (fun b o _ _ hc e n=>u.any e n hc) (fun b o hc e n=>u.free b o e n hc) (fun b o hc e=>u.there b o e hc) u.tups u.frzs u.tbls (fun m' hm=>by
    obtain ⟨o',es',ep',ho',r'⟩:=hm
    rw [ho] at ho'; cases ho'
    exact ⟨_,es',ep',hL,r'⟩) hok hg
theorem Inv.turned {t':Nat} {it:Addr} (I:Inv X pins σ H s) (k:∀b o,b≠it→s.heap.get? b=some o→h'.get? b=some o) (hn:H it=none) (hL:it≠X.env.locals)
    (h1:it∈X.ex∨X.s₀.heap.objs.size≤it) (h2:∀x c,X.env.cells.lookup x=some c→c≠it) (h3:∀p∈X.pn++pins,p.1≠it):Inv X pins σ H { s with heap:=h',toks:=t' }:=by
  have nit:∀b u,H b=some u→b≠it:=fun b u e z=>by rw [z,hn] at e; cases e
  refine I.step (g':=s.gens) (d':=s.drawn) (ch:=[it]) (fun b hb=>?_) (fun b o _ _ hc e _=>k b o (fun z=>hc (by simp [z])) e) (fun b o _ _ hc e _=>⟨o.slots,k b o (fun z=>hc (by simp [z])) e⟩) (fun _ _ _ _ n=>n)
    (fun b o hc e=>⟨o,k b o (fun z=>hc (by simp [z])) e⟩) (fun _ _ e=>e) (fun _ _ _ e=>e) (fun b ps e=>⟨#[],by rw [e]; simp⟩) (fun m hm=>?_) (fun b u e=>?_) I.bare
  · have e:b=it:=by simpa using hb
    subst e
    exact ⟨h1,hL,h2,h3⟩
  · obtain ⟨o,es,ep,ho,r⟩:=hm
    exact ⟨o,es,ep,k _ o (Ne.symm hL) ho,r⟩
  · refine (I.hok b u e).stay (fun c v hc q=>k c v ?_ q) (fun _ q=>q) fun _ _ q=>q
    rcases hc with z | z
    · rw [z]; exact nit b u e
    · exact nit c _ z
theorem Inv.tok (I:Inv X pins σ H s) (t:Nat):Inv X pins σ H { s with toks:=t }:=I.un (h':=s.heap) (t':=t) Un.refl I.hok
theorem Inv.kept {t':Nat} (I:Inv X pins σ H s) (k:∀b u,s.heap.get? b=some u→h'.get? b=some u):Inv X pins σ H { s with heap:=h',toks:=t' }:=I.un (Un.kept k) (I.hok.kept k)
theorem Inv.laid {a:Addr} {o:HO} {t':Nat} (I:Inv X pins σ H s) (k:∀b u,s.heap.get? b=some u→h'.get? b=some u) (hp:s.heap.objs.size≤a) (new:ObjOk X.prog X.w (upd H a o) h' a o) :
    Inv X pins σ (upd H a o) { s with heap:=h',toks:=t' }:=I.un (Un.laid k hp (I.hok.fresh hp)) (I.hok.laid k hp new)
theorem Inv.write {x e:Addr} {o:HO} {t':Nat} (I:Inv X pins σ H s) (mu:Mut (H x)) (he:e=x∨H e=some (.own x)) (k:∀b u,b≠e→s.heap.get? b=some u→h'.get? b=some u) (heo:∃u,h'.get? e=some u)
    (new:ObjOk X.prog X.w (upd H x o) h' x o):Inv X pins σ (upd H x o) { s with heap:=h',toks:=t' }:=I.un (Un.write mu he k heo) (I.hok.write mu he k heo new)
theorem Inv.pins_of {pins':List (Addr×Obj)} (I:Inv X pins σ H s) (h:∀p∈pins',s.heap.get? p.1=some p.2∧H p.1=none∧p.1≠X.env.locals∧p.1∉X.fs∧∀v,p.2.data≠.cell v):Inv X pins' σ H s:=
  ⟨I.ok,I.os,I.bare,I.base,I.loc,I.cell,I.free,I.freeC,fun p hp=>(List.mem_append.mp hp).elim (fun z=>I.pin p (List.mem_append_left _ z)) (h p),I.hok,I.len⟩
theorem nodup_ix {N:List Str} (hN:N.Nodup) {i j:Nat} {x:Str} (a:N[i]?=some x) (b:N[j]?=some x):i=j:=by
  obtain ⟨h1,e1⟩:=List.getElem?_eq_some_iff.mp a
  obtain ⟨h2,e2⟩:=List.getElem?_eq_some_iff.mp b
  exact (List.getElem_inj hN).mp (e1.trans e2.symm)
theorem store_ok2 {M:Model} {A:Around} {E:Value→Shared→Prop} {i:Nat} {x:Str} {v:V} {u:Value} {Q:Unit→Shared→Prop} (I:Inv X pins σ H s) (hN:X.N.Nodup) (hi:X.N[i]?=some x) (hx:Loc X.env.scope x) (r:RelV v u)
    (h:∀s',Inv X pins (σ.set i (some v)) H s'→(∃a,Heap.SameBut a s.heap s'.heap∧(a=X.env.locals∨X.env.cells.lookup x=some a))→Q () s') (hf:X.fn x=true∨X.env.scope.names.lookup x=some .local:=by first | exact .inl rfl | exact .inr rfl | assumption):wpAny M A (storeName X.env x u) Q E s:=by
  obtain ⟨m,hn,hl⟩:=id I.loc
  have hcls:(X.env.scope.kind == .class || (X.env.scope.kind == .module && X.env.locals != X.env.globals))=false:=by rw [I.ok.kind]; rfl
  have hiσ:i < σ.length:=by rw [I.len]; exact (List.getElem?_eq_some_iff.mp hi).1
  have cne:=I.cne
  have tracked:∀{a:Addr} {h':Heap},(∃o,s.heap.get? a=some o∧H a=none)→Heap.SameBut a s.heap h'→HOk X.prog X.w H h':=fun {a h'} ha hs b ob e=>by
    obtain ⟨_,_,hfree⟩:=ha
    refine (I.hok b ob e).stay (fun c w' hc q=>(hs.2 c ?_).trans q) (fun _ q=>q) fun _ _ q=>q
    rintro rfl
    rcases hc with rfl | hc
    · rw [hfree] at e; cases e
    · rw [hfree] at hc; cases hc
  rcases hx with hk | hk
  · refine wpAny_storeName_local hk hn (fun h' hn' hs=>?_) hcls
    obtain ⟨oL,_,_,hoL,_⟩:=id hn
    refine h _ ⟨I.ok,I.os,I.bare,⟨fun b o e n hb hx=>?_,fun b o e n hb hx=>?_,I.base.free,fun b o e hx=>?_,I.base.tups,I.base.frzs,I.base.tbls⟩,⟨_,hn',fun j y v' e1 e2 e3=>?_⟩,fun y c e=>?_,I.free,I.freeC,fun p hp=>?_,tracked ⟨oL,hoL,I.free⟩ hs,by simpa using I.len⟩ ⟨_,hs,.inl rfl⟩
    · exact (hs.2 b (Nat.ne_of_lt (Nat.lt_of_lt_of_le (Heap.lt_size e) I.ok.above))).trans (I.base.keep b o e n hb hx)
    · obtain ⟨sl,e1⟩:=I.base.slot b o e n hb hx
      exact ⟨sl,(hs.2 b (Nat.ne_of_lt (Nat.lt_of_lt_of_le (Heap.lt_size e) I.ok.above))).trans e1⟩
    · obtain ⟨o',e1⟩:=I.base.there b o e hx
      exact ⟨o',(hs.2 b (Nat.ne_of_lt (Nat.lt_of_lt_of_le (Heap.lt_size e) I.ok.above))).trans e1⟩
    · by_cases hj:j=i
      · subst hj
        rw [hi] at e1; cases e1
        rw [List.getElem?_set_self hiσ] at e2
        cases e2
        exact ⟨u,r,.inl ⟨hk,by simp⟩⟩
      · rw [List.getElem?_set_ne (Ne.symm hj)] at e2
        obtain ⟨u',r',q⟩:=hl j y v' e1 e2 e3
        refine ⟨u',r',?_⟩
        rcases q with ⟨k,e⟩ | ⟨k,c,e,z⟩
        · refine .inl ⟨k,?_⟩
          have:y≠x:=fun e=>hj (nodup_ix hN e1 (e ▸ hi))
          simp [this,e]
        · exact .inr ⟨k,c,e,z.sameBut hs (cne y c e)⟩
    · obtain ⟨w',z⟩:=I.cell y c e
      exact ⟨w',z.sameBut hs (cne y c e)⟩
    · obtain ⟨e,n,ne,nf,d⟩:=I.pin p hp
      exact ⟨(hs.2 p.1 ne).trans e,n,ne,nf,d⟩
  · have hfn:X.fn x=true:=by
      rcases hf with z | z
      · exact z
      · rw [z] at hk; cases hk
    obtain ⟨c,hc⟩:=I.ok.has x (.inl hk)
    obtain ⟨w',z⟩:=I.cell x c hc
    refine wpAny_storeName_cell I.ok.kind hk hc z (fun h' hc' hs=>?_)
    obtain ⟨oc,hoc,hocd⟩:=id z
    refine h { s with heap:=h' } ⟨I.ok,I.os,I.bare,⟨fun b o e n hb hx=>?_,fun b o e n hb hx=>?_,I.base.free,fun b o e hx=>?_,I.base.tups,I.base.frzs,I.base.tbls⟩,⟨m,hn.sameBut hs (Ne.symm (cne x c hc)),fun j y v' e1 e2 e3=>?_⟩,fun y c' e=>?_,I.free,I.freeC,fun p hp=>?_,tracked ⟨oc,hoc,I.freeC x c hc⟩ hs,by simpa using I.len⟩ ⟨c,hs,.inr hc⟩
    · exact (hs.2 b (Nat.ne_of_lt (Nat.lt_of_lt_of_le (Heap.lt_size e) (I.ok.cab x c hfn hc)))).trans (I.base.keep b o e n hb hx)
    · obtain ⟨sl,e1⟩:=I.base.slot b o e n hb hx
      exact ⟨sl,(hs.2 b (Nat.ne_of_lt (Nat.lt_of_lt_of_le (Heap.lt_size e) (I.ok.cab x c hfn hc)))).trans e1⟩
    · obtain ⟨o',e1⟩:=I.base.there b o e hx
      exact ⟨o',(hs.2 b (Nat.ne_of_lt (Nat.lt_of_lt_of_le (Heap.lt_size e) (I.ok.cab x c hfn hc)))).trans e1⟩
    · by_cases hj:j=i
      · subst hj
        rw [hi] at e1; cases e1
        rw [List.getElem?_set_self hiσ] at e2
        cases e2
        exact ⟨u,r,.inr ⟨.inl hk,c,hc,hc'⟩⟩
      · rw [List.getElem?_set_ne (Ne.symm hj)] at e2
        obtain ⟨u',r',q⟩:=hl j y v' e1 e2 e3
        refine ⟨u',r',?_⟩
        rcases q with q | ⟨k,c',e,z'⟩
        · exact .inl q
        · refine .inr ⟨k,c',e,z'.sameBut hs ?_⟩
          rintro rfl
          exact hj (nodup_ix hN e1 (I.ok.inj _ _ _ e hc ▸ hi))
    · by_cases hcc:c'=c
      · subst hcc; exact ⟨_,hc'⟩
      · obtain ⟨w2,z2⟩:=I.cell y c' e
        exact ⟨w2,z2.sameBut hs hcc⟩
    · obtain ⟨e,n,ne,nf,d⟩:=I.pin p hp
      refine ⟨(hs.2 p.1 ?_).trans e,n,ne,nf,d⟩
      intro q
      rw [q,hoc] at e
      have q':oc=p.2:=Option.some.inj e
      exact d w' (by rw [←q']; exact hocd)
theorem store_ok {M:Model} {A:Around} {E:Value→Shared→Prop} {i:Nat} {x:Str} {v:V} {u:Value} {Q:Unit→Shared→Prop} (I:Inv X pins σ H s) (hN:X.N.Nodup) (hi:X.N[i]?=some x) (hx:Loc X.env.scope x) (r:RelV v u)
    (h:∀s',Inv X pins (σ.set i (some v)) H s'→Q () s') (hf:X.fn x=true∨X.env.scope.names.lookup x=some .local:=by first | exact .inl rfl | exact .inr rfl | assumption):wpAny M A (storeName X.env x u) Q E s:=
  store_ok2 I hN hi hx r (fun s' I' _=>h s' I') hf
theorem Inv.call' {s':Shared} {ch:List Addr} (I:Inv X pins σ H s) (ho:s'.os=s.os) (u:Un (frs X.stack) ch H H' s.heap s'.heap) (hok:HOk X.prog X.w H' s'.heap) (hg:AllBare s'.gens)
    (hch:∀b∈ch,(b∈X.ex∨X.s₀.heap.objs.size≤b)∧b≠X.env.locals∧(∀x c,X.env.cells.lookup x=some c→c≠b)∧∀p∈X.pn++pins,p.1≠b):Inv X pins σ H' s':=by
  obtain ⟨h',g',d',t',o'⟩:=s'
  have e:o'=s.os:=ho
  subst e
  exact I.call (g':=g') (t':=t') (d':=d') u hok hg hch
end
abbrev XK:=Value→Option Addr→Hp→Prop
abbrev St:=List (Option V)
abbrev VK:=V→Hp→Prop
abbrev TE:=St→Hp→VK→Prop
abbrev TT:=St→Hp→(Bool→Hp→Prop)→Prop
abbrev TA:=St→Hp→(List V→Hp→Prop)→Prop
structure Ends where
  nx:St→Hp→Prop
  rt:VK
  bk:St→Hp→Prop:=fun _ _=>False
  ct:St→Hp→Prop:=fun _ _=>False
abbrev TS:=Ends→St→Hp→Prop
def EP (X:Cx) (pins:List (Addr×Obj)) (σ:St) (Q:VK) (u:Value) (s':Shared):Prop:=∃v H',Inv X pins σ H' s'∧RelV v u∧Q v H'
def TP (X:Cx) (pins:List (Addr×Obj)) (σ:St) (Q:Bool→Hp→Prop) (b:Bool) (s':Shared):Prop:=∃H',Inv X pins σ H' s'∧Q b H'
def AP (X:Cx) (pins:List (Addr×Obj)) (σ:St) (Q:List V→Hp→Prop) (us:List Value) (s':Shared):Prop:=∃vs H',Inv X pins σ H' s'∧Vals vs us∧Q vs H'
def SP (X:Cx) (pins:List (Addr×Obj)) (D:Ends) (f:Flow) (s':Shared):Prop:=
  match f with
  | .next=>∃σ' H',Inv X pins σ' H' s'∧D.nx σ' H'
  | .brk=>∃σ' H',Inv X pins σ' H' s'∧D.bk σ' H'
  | .cont=>∃σ' H',Inv X pins σ' H' s'∧D.ct σ' H'
  | .ret u=>∃v σ' H',Inv X pins σ' H' s'∧RelV v u∧D.rt v H'
def PE (X:Cx) (e:Expr) (t:TE):Prop:=
  ∀(pins:List (Addr×Obj)) (s:Shared) (σ:St) (H:Hp) (Q:VK),Inv X pins σ H s→t σ H Q→wpAny (model X.prog X.w) X.A (eval e X.env) (EP X pins σ Q) X.xe s
def PT (X:Cx) (e:Expr) (t:TT):Prop:=
  ∀(pins:List (Addr×Obj)) (s:Shared) (σ:St) (H:Hp) (Q:Bool→Hp→Prop),Inv X pins σ H s→t σ H Q→wpAny (model X.prog X.w) X.A (isTrue e X.env (eval e X.env)) (TP X pins σ Q) X.xe s
def PW (X:Cx) (e:Expr) (t:TT):Prop:=
  ∀(whole:Sem Value) (pins:List (Addr×Obj)) (s:Shared) (σ:St) (H:Hp) (Q:Bool→Hp→Prop),Inv X pins σ H s→t σ H Q→wpAny (model X.prog X.w) X.A (isTrue e X.env whole) (TP X pins σ Q) X.xe s
theorem PW.pt {X:Cx} {e:Expr} {t:TT} (h:PW X e t):PT X e t:=h _
def PA (X:Cx) (es:List Expr) (t:TA):Prop:=
  ∀(pos:Pos) (pins:List (Addr×Obj)) (s:Shared) (σ:St) (H:Hp) (Q:List V→Hp→Prop),Inv X pins σ H s→t σ H Q→wpAny (model X.prog X.w) X.A (spliced (backTo pos (starEach es X.env))) (AP X pins σ Q) X.xe s
def PS (X:Cx) (st:Stmt) (t:TS):Prop:=
  ∀(pins:List (Addr×Obj)) (s:Shared) (σ:St) (H:Hp) (D:Ends),Inv X pins σ H s→t D σ H→wpAny (model X.prog X.w) X.A (exec st X.env) (SP X pins D) X.xe s
def PSs (X:Cx) (st:List Stmt) (t:TS):Prop:=
  ∀(pins:List (Addr×Obj)) (s:Shared) (σ:St) (H:Hp) (D:Ends),Inv X pins σ H s→t D σ H→wpAny (model X.prog X.w) X.A (execs st X.env) (SP X pins D) X.xe s
theorem thn {α:Type} {t:Sem α} {Q Q':α→Shared→Prop} {M:Model} {A:Around} {E:Value→Shared→Prop} {s:Shared} (h:wpAny M A t Q E s) (hQ:∀a s,Q a s→Q' a s):wpAny M A t Q' E s:=wpAny_mono h hQ fun _ _ x=>x
end L2
namespace L2
open PySem PySem.Spec PyProof.Rows
section
variable {X:Cx}
theorem bin {a b:Expr} {ta tb:TE} (ha:PE X a ta) (hb:PE X b tb) {pins:List (Addr×Obj)} {s:Shared} {σ:St} {H:Hp} {R:V→V→Hp→Prop} (I:Inv X pins σ H s) (h:ta σ H fun x H1=>tb σ H1 fun y H2=>R x y H2)
    {α:Type} {Q:α→Shared→Prop} {f:Value→Value→Sem α}
    (hf:∀v u s2 x y H2,Inv X pins σ H2 s2→RelV x v→RelV y u→R x y H2→wpAny (model X.prog X.w) X.A (f v u) Q X.xe s2) :
    wpAny (model X.prog X.w) X.A (eval a X.env) (fun v s₁=>wpAny (model X.prog X.w) X.A (eval b X.env) (fun u s₂=>wpAny (model X.prog X.w) X.A (f v u) Q X.xe s₂) X.xe s₁) X.xe s:=by
  refine thn (ha pins s σ H _ I h) fun v s1 ⟨x,H1,I1,r1,q1⟩=>?_
  refine thn (hb pins s1 σ H1 _ I1 q1) fun u s2 ⟨y,H2,I2,r2,q2⟩=>?_
  exact hf v u s2 x y H2 I2 r1 r2 q2
def tVar (i:Nat):TE:=fun σ H Q=>∃v,σ[i]?=some (some v)∧Q v H
def tC (v:V):TE:=fun _ H Q=>Q v H
theorem pe_var {i:Nat} {x:Str} {pos:Pos} (hN:X.N[i]?=some x) (hv:Vis X.env.scope x) (hd:(x == ("__debug__":Str))=false:=by decide) (hcd:(x == ("__classdict__":Str))=false:=by decide):PE X (.Name x pos) (tVar i):=by
  intro pins s σ H Q I h
  obtain ⟨v,e,h⟩:=h
  obtain ⟨m,hn,hl⟩:=I.loc
  obtain ⟨u,r,l⟩:=hl i x v hN e hv
  have fin:EP X pins σ Q u s:=⟨v,H,I,r,h⟩
  rcases l with ⟨hk,hm⟩ | ⟨hk,c,hc,hcell⟩
  · exact wpAny_Name (wpAny_loadName_local I.ok.kind hk hn hm fin) hd
  · rcases hk with hk | hk
    · exact wpAny_Name (wpAny_loadName_cell I.ok.kind hk hc hcell fin) hd
    · exact wpAny_Name (wpAny_loadName_free I.ok.kind hk hc hcell fin hcd) hd
theorem pe_int {i j pos}:PE X (.Constant (.int i) j pos) (tC (.int i)):=fun _ _ _ H _ I h=>wpAny_Constant_int ⟨.int i,H,I.tok _,⟨_,rfl⟩,h⟩
theorem pe_bl {b j pos}:PE X (.Constant (.bool b) j pos) (tC (.bl b)):=fun _ _ _ H _ I h=>Constant_bool ⟨.bl b,H,I,rfl,h⟩
theorem pe_non {j pos}:PE X (.Constant .none j pos) (tC .non):=fun _ _ _ H _ I h=>Constant_none ⟨.non,H,I,rfl,h⟩
theorem pe_str {x j pos}:PE X (.Constant (.str x) j pos) (tC (.str x)):=fun _ _ _ H _ I h=>Calls.Constant_str ⟨.str x,H,I.tok _,⟨_,rfl⟩,h⟩
def Gl (X:Cx) (x:Str):Prop:=X.env.kindOf x=some .globalImplicit
theorem ld_glob {E:Value→Shared→Prop} {pins:List (Addr×Obj)} {s:Shared} {σ:St} {H:Hp} {x:Str} {u:Value} {pos:Pos} {Q:Value→Shared→Prop} (I:Inv X pins σ H s) (hg:Gl X x) (hm:X.mg x=some u) (h:Q u s)
    (hd:(x == ("__debug__":Str))=false:=by decide):wpAny (model X.prog X.w) X.A (eval (.Name x pos) X.env) Q E s:=
  Calls.Name_function_global I.ok.kind hg (Calls.loadGlobal_global (by rw [I.ok.glob]; exact I.mod.glob.keeps I.bk) hm h) hd
theorem ld_blt {E:Value→Shared→Prop} {pins:List (Addr×Obj)} {s:Shared} {σ:St} {H:Hp} {x:Str} {u:Value} {pos:Pos} {Q:Value→Shared→Prop} (I:Inv X pins σ H s) (hg:Gl X x) (hm:X.mg x=none) (hv:bootBuiltins x=some u) (h:Q u s)
    (hn:x≠"__name__":=by decide) (hd:(x == ("__debug__":Str))=false:=by decide):wpAny (model X.prog X.w) X.A (eval (.Name x pos) X.env) Q E s:=by
  obtain ⟨mb,h1,h2⟩:=I.mod.blt
  exact Calls.Name_function_global I.ok.kind hg (Calls.loadGlobal_builtin (by rw [I.ok.glob]; exact I.mod.glob.keeps I.bk) hm (by rw [I.ok.blt]; exact h1.keeps I.bk) ((h2 x hn).trans hv) h) hd
theorem pe_glob {x:Str} {v:V} {u:Value} {pos:Pos} (hg:Gl X x) (hm:X.mg x=some u) (r:RelV v u) (hd:(x == ("__debug__":Str))=false:=by decide):PE X (.Name x pos) (tC v):=
  fun _ _ _ H _ I h=>ld_glob I hg hm ⟨v,H,I,r,h⟩ hd
variable {a b:Expr} {ta tb:TE} {pos:Pos}
def PC (X:Cx) (op:CmpOp) (a b:Expr) (t:TE):Prop:=
  ∀(pins:List (Addr×Obj)) (s:Shared) (σ:St) (H:Hp) (Q:VK),Inv X pins σ H s→t σ H Q→
    wpAny (model X.prog X.w) X.A (eval a X.env) (fun v s₁=>wpAny (model X.prog X.w) X.A (eval b X.env) (fun u s₂=>wpAny (model X.prog X.w) X.A (compareOp op v u) (EP X pins σ Q) X.xe s₂) X.xe s₁) X.xe s
theorem nobehind (b:Expr) {op:CmpOp} (h:op≠.In) (h2:op≠.NotIn):behindInMarks op b=false:=by
  have e1:(op == CmpOp.In)=false:=by cases op<;>first | rfl | exact absurd rfl h
  have e2:(op == CmpOp.NotIn)=false:=by cases op<;>first | rfl | exact absurd rfl h2
  cases b<;>simp [behindInMarks,e1,e2]
def tB (t:TE):TT:=fun σ H Q=>t σ H fun x H1=>∃c,x=.bl c∧Q c H1
theorem pt_cmp {op:CmpOp} {t:TE} (h:PC X op a b t) (h1:behindInMarks op b=false:=by first | exact nobehind _ (by decide) (by decide) | rfl):PT X (.Compare a [op] [b] pos) (tB t):=by
  intro pins s σ H Q I hw
  refine wpAny_isTrue_Compare1 (thn (h pins s σ H _ I hw) fun v s1 h1=>thn h1 fun u s2 h2=>thn h2 fun c s3 ⟨x,H1,I1,r1,q1⟩=>?_) h1
  obtain ⟨d,rfl,q⟩:=q1
  cases r1
  exact wpAny_truthy_bool ⟨H1,I1,q⟩
variable {tA tB':TT} {rest:List Expr}
def tAnd (t u:TT):TT:=fun σ H Q=>t σ H fun c H1=>if c=true then u σ H1 Q else Q false H1
def tOr (t u:TT):TT:=fun σ H Q=>t σ H fun c H1=>if c=true then Q true H1 else u σ H1 Q
def tNot (t:TT):TT:=fun σ H Q=>t σ H fun c H1=>Q (!c) H1
theorem pw_and1 (ha:PT X a tA):PW X (.BoolOp .And [a] pos) tA:=by
  intro wh pins s σ H Q I h
  refine isTrue_and (thn (ha pins s σ H Q I h) fun c s1 e=>?_)
  cases c with
  | true=>exact isTrue_and_nil e
  | false=>exact e
theorem pw_or1 (ha:PT X a tA):PW X (.BoolOp .Or [a] pos) tA:=by
  intro wh pins s σ H Q I h
  refine isTrue_or (thn (ha pins s σ H Q I h) fun c s1 e=>?_)
  cases c with
  | false=>exact isTrue_or_nil e
  | true=>exact e
theorem pw_and (ha:PT X a tA) (hb:PW X (.BoolOp .And (b::rest) pos) tB'):PW X (.BoolOp .And (a::b::rest) pos) (tAnd tA tB'):=by
  intro wh pins s σ H Q I h
  refine isTrue_and (thn (ha pins s σ H _ I h) fun c s1 ⟨H1,I1,q1⟩=>?_)
  cases c with
  | true=>exact hb wh pins s1 σ H1 Q I1 q1
  | false=>exact ⟨H1,I1,q1⟩
theorem pw_or (ha:PT X a tA) (hb:PW X (.BoolOp .Or (b::rest) pos) tB'):PW X (.BoolOp .Or (a::b::rest) pos) (tOr tA tB'):=by
  intro wh pins s σ H Q I h
  refine isTrue_or (thn (ha pins s σ H _ I h) fun c s1 ⟨H1,I1,q1⟩=>?_)
  cases c with
  | true=>exact ⟨H1,I1,q1⟩
  | false=>exact hb wh pins s1 σ H1 Q I1 q1
theorem pt_not (ha:PT X a tA):PT X (.UnaryOp .Not a pos) (tNot tA):=by
  intro pins s σ H Q I h
  exact isTrue_not (ha pins s σ H (fun c H1=>Q (!c) H1) I h)
def tAndV (ta tb:TE):TE:=fun σ H Q=>ta σ H fun x H1=>∃c,x=.bl c∧if c=true then tb σ H1 Q else Q (.bl false) H1
def tOrV (ta tb:TE):TE:=fun σ H Q=>ta σ H fun x H1=>∃c,x=.bl c∧if c=true then Q (.bl true) H1 else tb σ H1 Q
theorem pe_one {op} {t:TE} (h:PE X a t):PE X (.BoolOp op [a] pos) t:=fun pins s σ H Q I hw=>BoolOp_one (h pins s σ H Q I hw)
theorem pe_and (ha:PE X a ta) (hb:PE X (.BoolOp .And (b::rest) pos) tb):PE X (.BoolOp .And (a::b::rest) pos) (tAndV ta tb):=by
  intro pins s σ H Q I h
  refine BoolOp_and (thn (ha pins s σ H _ I h) fun v s1 ⟨x,H1,I1,r1,q1⟩=>?_)
  obtain ⟨c,rfl,q1⟩:=q1
  cases r1
  refine wpAny_truthy_bool ?_
  cases c with
  | true=>exact hb pins s1 σ H1 Q I1 q1
  | false=>exact ⟨.bl false,H1,I1,rfl,q1⟩
theorem pe_or (ha:PE X a ta) (hb:PE X (.BoolOp .Or (b::rest) pos) tb):PE X (.BoolOp .Or (a::b::rest) pos) (tOrV ta tb):=by
  intro pins s σ H Q I h
  refine BoolOp_or (thn (ha pins s σ H _ I h) fun v s1 ⟨x,H1,I1,r1,q1⟩=>?_)
  obtain ⟨c,rfl,q1⟩:=q1
  cases r1
  refine wpAny_truthy_bool ?_
  cases c with
  | false=>exact hb pins s1 σ H1 Q I1 q1
  | true=>exact ⟨.bl true,H1,I1,rfl,q1⟩
def tIf (t:TT) (ta tb:TE):TE:=fun σ H Q=>t σ H fun c H1=>if c=true then ta σ H1 Q else tb σ H1 Q
theorem pe_ifExp {c:Expr} (hc:PT X c tA) (ha:PE X a ta) (hb:PE X b tb):PE X (.IfExp c a b pos) (tIf tA ta tb):=by
  intro pins s σ H Q I h
  refine wpAny_IfExp (thn (hc pins s σ H _ I h) fun d s1 ⟨H1,I1,q1⟩=>?_)
  cases d with
  | true=>exact ha pins s1 σ H1 Q I1 q1
  | false=>exact hb pins s1 σ H1 Q I1 q1
end
end L2
namespace L2
open PySem PySem.Spec PyProof.Rows
def SqL (K:PySem.W.Frag) (H:Hp) (a:Addr) (xs:List V):Prop:=
  Rd H a (.lst xs)∨
    ∃(o:Obj) (its:Array Value) (n:Nat),K.lookup a=some o∧o.cls=.type "list"∧o.dict=none∧o.data=.seq its n∧its.size≤sizeLine∧Vals xs its.toList
def SqT (K:PySem.W.Frag) (H:Hp) (a:Addr) (xs:List V):Prop:=
  Rd H a (.tup xs)∨
    ∃(o:Obj) (its:Array Value) (n:Nat),K.lookup a=some o∧o.cls=.type "tuple"∧o.data=.seq its n∧its.size≤sizeLine∧Vals xs its.toList
def absV:Value→Option V
  | .none=>some .non
  | .bool b=>some (.bl b)
  | .int i _=>some (.int i)
  | .str x _=>some (.str x)
  | .bytes b _=>some (.byt b)
  | .float b _=>some (.flt b)
  | .ref a=>some (.ref a)
  | .type n=>some (.ty n)
  | _=>none
theorem RelV.abs {x:V} {u:Value} (r:RelV x u):absV u=some x:=by
  cases x with
  | non=>cases r; rfl
  | bl _=>cases r; rfl
  | int _=>obtain ⟨t,rfl⟩:=r; rfl
  | str _=>obtain ⟨t,rfl⟩:=r; rfl
  | byt _=>obtain ⟨t,rfl⟩:=r; rfl
  | flt _=>obtain ⟨t,rfl⟩:=r; rfl
  | ref _=>cases r; rfl
  | ty _=>cases r; rfl
theorem RelV.inj {x y:V} {u:Value} (r:RelV x u) (q:RelV y u):x=y:=Option.some.inj (r.abs.symm.trans q.abs)
theorem Vals.inj:∀{xs ys:List V} {us:List Value},Vals xs us→Vals ys us→xs=ys
  | _,_,_,.nil,.nil=>rfl
  | _,_,_,.cons r t,.cons r' t'=>by rw [r.inj r',Vals.inj t t']
section
variable {X:Cx} {pins:List (Addr×Obj)} {σ:St} {H:Hp} {s:Shared} {a:Addr} {xs ys:List V}
theorem SqL.of {K:PySem.W.Frag} (h:H a=some (.lst xs)):SqL K H a xs:=.inl (.inl h)
theorem SqT.of {K:PySem.W.Frag} (h:H a=some (.tup xs)):SqT K H a xs:=.inl (.inl h)
theorem Inv.list (I:Inv X pins σ H s) (h:SqL X.K H a xs):∃its:List Value,Vals xs its∧PlainL s.heap a its.toArray∧xs.length≤sizeLine:=by
  rcases h with h | ⟨o,its,n,hk,hc,hd,hs,hz,r⟩
  · obtain ⟨z,its,n,r,e⟩:=h.ok I.hok
    exact ⟨its,r,⟨_,n,e,rfl,rfl,rfl⟩,z⟩
  · refine ⟨its.toList,r,⟨o,n,I.kIn a o hk,hc,hd,by simpa using hs⟩,?_⟩
    have e:=r.length
    simp only [Array.length_toList] at e
    omega
theorem Inv.tuple (I:Inv X pins σ H s) (h:SqT X.K H a xs):∃its:List Value,Vals xs its∧IsTup s.heap a its.toArray∧xs.length≤sizeLine:=by
  rcases h with h | ⟨o,its,n,hk,hc,hs,hz,r⟩
  · obtain ⟨z,its,r,p⟩:=h.ok I.hok
    exact ⟨its,r,p,z⟩
  · refine ⟨its.toList,r,⟨o,I.kIn a o hk,hc,n,by simpa using hs⟩,?_⟩
    have e:=r.length
    simp only [Array.length_toList] at e
    omega
theorem Inv.list_inj (I:Inv X pins σ H s) (h:SqL X.K H a xs) (h':SqL X.K H a ys):xs=ys:=by
  obtain ⟨its,r,⟨o,n,e,_,_,d⟩,_⟩:=I.list h
  obtain ⟨its',r',⟨o',n',e',_,_,d'⟩,_⟩:=I.list h'
  rw [e] at e'; cases e'
  rw [d] at d'
  injection d' with d1 _
  have:its=its':=by simpa using congrArg Array.toList d1
  subst this
  exact r.inj r'
theorem Inv.tuple_inj (I:Inv X pins σ H s) (h:SqT X.K H a xs) (h':SqT X.K H a ys):xs=ys:=by
  obtain ⟨its,r,⟨o,e,_,n,d⟩,_⟩:=I.tuple h
  obtain ⟨its',r',⟨o',e',_,n',d'⟩,_⟩:=I.tuple h'
  rw [e] at e'; cases e'
  rw [d] at d'
  injection d' with d1 _
  have:its=its':=by simpa using congrArg Array.toList d1
  subst this
  exact r.inj r'
end
abbrev Cx.wish (X:Cx) (E:Value→Shared→Prop):Cx:={ X with xe:=E }
abbrev Cx.nox (X:Cx):Cx:=X.wish fun _ _=>False
theorem Cx.Ok.wish {X:Cx} (ok:X.Ok) (E:Value→Shared→Prop):(X.wish E).Ok:=
  ⟨ok.mod,ok.kind,ok.glob,ok.blt,ok.above,ok.inj,ok.has,ok.cab,ok.hd,ok.frames,ok.stk,ok.exf,ok.bs,ok.bsz,ok.noex,ok.exfs,ok.funs,ok.frf⟩
theorem Cx.Ok.unwish {X:Cx} {E:Value→Shared→Prop} (ok:(X.wish E).Ok):X.Ok:=
  ⟨ok.mod,ok.kind,ok.glob,ok.blt,ok.above,ok.inj,ok.has,ok.cab,ok.hd,ok.frames,ok.stk,ok.exf,ok.bs,ok.bsz,ok.noex,ok.exfs,ok.funs,ok.frf⟩
section
variable {X:Cx} {pins:List (Addr×Obj)} {σ:St} {H:Hp} {s:Shared} {E:Value→Shared→Prop}
theorem Inv.wish (I:Inv X pins σ H s) (E:Value→Shared→Prop):Inv (X.wish E) pins σ H s:=⟨I.ok.wish E,I.os,I.bare,I.base,I.loc,I.cell,I.free,I.freeC,I.pin,I.hok,I.len⟩
theorem Inv.unwish (I:Inv (X.wish E) pins σ H s):Inv X pins σ H s:=⟨I.ok.unwish,I.os,I.bare,I.base,I.loc,I.cell,I.free,I.freeC,I.pin,I.hok,I.len⟩
theorem SP.unwish {D:Ends} {f:Flow} {s':Shared} (h:SP (X.wish E) pins D f s'):SP X pins D f s':=by
  cases f with
  | next=>obtain ⟨σ',H',I,q⟩:=h; exact ⟨σ',H',I.unwish,q⟩
  | brk=>obtain ⟨σ',H',I,q⟩:=h; exact ⟨σ',H',I.unwish,q⟩
  | cont=>obtain ⟨σ',H',I,q⟩:=h; exact ⟨σ',H',I.unwish,q⟩
  | ret u=>obtain ⟨v,σ',H',I,r,q⟩:=h; exact ⟨v,σ',H',I.unwish,r,q⟩
theorem PE.nox {e:Expr} {t:TE} (h:PE X.nox e t):PE X e t:=fun pins s σ H Q I hw=>
  wpAny_mono (h pins s σ H Q (I.wish _) hw) (fun _ _ ⟨v,H',I',r,q⟩=>⟨v,H',I'.unwish,r,q⟩) fun _ _ z=>False.elim z
theorem PT.nox {e:Expr} {t:TT} (h:PT X.nox e t):PT X e t:=fun pins s σ H Q I hw=>
  wpAny_mono (h pins s σ H Q (I.wish _) hw) (fun _ _ ⟨H',I',q⟩=>⟨H',I'.unwish,q⟩) fun _ _ z=>False.elim z
theorem PSs.nox {st:List Stmt} {t:TS} (h:PSs X.nox st t):PSs X st t:=fun pins s σ H D I hw=>
  wpAny_mono (h pins s σ H D (I.wish _) hw) (fun _ _ q=>q.unwish) fun _ _ z=>False.elim z
end
section
variable {X:Cx} {st:Stmt} {rest:List Stmt} {t u:TS} {e:Expr} {te:TE} {pos:Pos}
def tNext:TS:=fun D σ H=>D.nx σ H
def tSeq (t u:TS):TS:=fun D σ H=>t { D with nx:=u D } σ H
theorem pss_nil:PSs X [] tNext:=fun _ _ σ H _ I h=>wpAny_execs_nil ⟨σ,H,I,h⟩
theorem pss_cons (h1:PS X st t) (h2:PSs X rest u):PSs X (st::rest) (tSeq t u):=by
  intro pins s σ H D I h
  refine wpAny_execs_cons (thn (h1 pins s σ H { D with nx:=u D } I h) fun f s1 q=>?_)
  cases f with
  | next=>
    obtain ⟨σ',H',I',q⟩:=q
    exact h2 pins s1 σ' H' D I' q
  | ret v=>exact q
  | brk=>exact q
  | cont=>exact q
theorem pss_one (h1:PS X st t):PSs X [st] t:=by
  intro pins s σ H D I h
  refine wpAny_execs_cons (thn (h1 pins s σ H D I h) fun f s1 q=>?_)
  cases f with
  | next=>exact wpAny_execs_nil q
  | ret v=>exact q
  | brk=>exact q
  | cont=>exact q
theorem Inv.quiet {pins:List (Addr×Obj)} {σ:St} {H:Hp} {s:Shared} (I:Inv X pins σ H s):interactive X.env=false:=by simp [interactive,I.ok.kind]
def tDrop (te:TE):TS:=fun D σ H=>te σ H fun _ H1=>D.nx σ H1
theorem ps_expr (he:PE X e te) (hs:swapsWith e none pos.line X.env=pure false:=by rfl):PS X (.Expr e pos) (tDrop te):=by
  intro pins s σ H D I h
  exact wpAny_Expr_any (thn (he pins s σ H _ I h) fun v s1 ⟨x,H1,I1,r1,q1⟩=>⟨σ,H1,I1,q1⟩) I.quiet hs
def tRet (te:TE):TS:=fun D σ H=>te σ H D.rt
theorem ps_ret (he:PE X e te):PS X (.Return (some e) pos) (tRet te):=by
  intro pins s σ H D I h
  exact wpAny_Return_some (thn (he pins s σ H _ I h) fun v s1 ⟨x,H1,I1,r1,q1⟩=>⟨x,σ,H1,I1,r1,q1⟩)
def tRetN:TS:=fun D _ H=>D.rt .non H
theorem ps_retN:PS X (.Return none pos) tRetN:=fun _ _ σ H _ I h=>wpAny_Return_none ⟨.non,σ,H,I,rfl,h⟩
def tIfS (c:TT) (t u:TS):TS:=fun D σ H=>c σ H fun b H1=>if b=true then t D σ H1 else u D σ H1
theorem ps_if {c:Expr} {a b:List Stmt} {tc:TT} (hc:PT X c tc) (ha:PSs X a t) (hb:PSs X b u):PS X (.If c a b pos) (tIfS tc t u):=by
  intro pins s σ H D I h
  refine wpAny_If (thn (hc pins s σ H _ I h) fun d s1 ⟨H1,I1,q1⟩=>?_)
  cases d with
  | true=>exact ha pins s1 σ H1 D I1 q1
  | false=>exact hb pins s1 σ H1 D I1 q1
end
abbrev TG:=V→St→Hp→(St→Hp→Prop)→Prop
abbrev TGs:=List V→St→Hp→(St→Hp→Prop)→Prop
def PG (X:Cx) (target:Expr) (t:TG):Prop:=
  ∀(pins:List (Addr×Obj)) (s:Shared) (σ:St) (H:Hp) (v:V) (u:Value) (Q:St→Hp→Prop),Inv X pins σ H s→RelV v u→t v σ H Q→
    wpAny (model X.prog X.w) X.A (assign target X.env u) (fun _ s'=>∃σ' H',Inv X pins σ' H' s'∧Q σ' H') X.xe s
def PGs (X:Cx) (ts:List Expr) (t:TGs):Prop:=
  ∀(pins:List (Addr×Obj)) (s:Shared) (σ:St) (H:Hp) (vs:List V) (us:List Value) (Q:St→Hp→Prop),Inv X pins σ H s→Vals vs us→t vs σ H Q→
    wpAny (model X.prog X.w) X.A (assignInOrder ((assignEach ts X.env).map (·.2)) us) (fun _ s'=>∃σ' H',Inv X pins σ' H' s'∧Q σ' H') X.xe s
section
variable {X:Cx} {pos:Pos}
def gName (i:Nat):TG:=fun v σ H Q=>Q (σ.set i (some v)) H
theorem pg_name {i:Nat} {x:Str} (hN:X.N.Nodup) (hi:X.N[i]?=some x) (hx:Loc X.env.scope x) (hf:X.fn x=true∨X.env.scope.names.lookup x=some .local:=by first | exact .inl rfl | exact .inr rfl | assumption):PG X (.Name x pos) (gName i):=by
  intro pins s σ H v u Q I r h
  exact wpAny_assign_Name (store_ok I hN hi hx r (fun s' I'=>⟨_,H,I',h⟩) hf)
def gNil:TGs:=fun vs σ H Q=>vs=[]∧Q σ H
def gCons (t:TG) (u:TGs):TGs:=fun vs σ H Q=>∃v r,vs=v::r∧t v σ H fun σ' H'=>u r σ' H' Q
theorem pgs_nil:PGs X [] gNil:=by
  intro pins s σ H vs us Q I r h
  obtain ⟨e,h⟩:=h
  subst e
  cases r
  exact assignInOrder_nil ⟨σ,H,I,h⟩
theorem pgs_cons {e:Expr} {es:List Expr} {t:TG} {u:TGs} (h1:PG X e t) (h2:PGs X es u)
    (hs:(assignEach (e::es) X.env).map (·.2)=assign e X.env::(assignEach es X.env).map (·.2):=by rfl):PGs X (e::es) (gCons t u):=by
  intro pins s σ H vs us Q I r h
  obtain ⟨v,vr,e1,h⟩:=h
  subst e1
  cases r with
  | cons r rr=>
    rw [hs]
    refine assignInOrder_cons (thn (h1 pins s σ H _ _ _ I r h) fun _ s1 ⟨σ1,H1,I1,q1⟩=>?_)
    exact h2 pins s1 σ1 H1 _ _ Q I1 rr q1
def gTup (K:PySem.W.Frag) (n:Nat) (t:TGs):TG:=fun v σ H Q=>∃a xs,v=.ref a∧SqT K H a xs∧xs.length=n∧t xs σ H Q
theorem pg_tup {es:List Expr} {k:Nat} {t:TGs} {n:Nat} (hc:X.calm=true) (h:PGs X es t)
    (hn:(assignEach es X.env).length=n:=by rfl) (hst:(assignEach es X.env).findIdx? (·.1)=none:=by rfl):PG X (.Tuple es k pos) (gTup X.K n t):=by
  intro pins s σ H v u Q I r hw
  obtain ⟨a,xs,e1,hq,hl,hw⟩:=hw
  subst e1
  cases r
  obtain ⟨its,rv,ht,hz⟩:=I.tuple hq
  refine assign_Tuple_tuple (I.ok.hd hc) ht (by simp [hn,←hl,rv.length]) hst fun h' hx=>?_
  have I1:Inv X pins σ H { s with heap:=h' }:=I.kept (t':=s.toks) fun b o e=>hx b o (Nat.ne_of_lt (Heap.lt_size e)) e
  exact h pins _ σ H xs _ Q I1 (by simpa using rv) hw
def tAsg (te:TE) (g:TG):TS:=fun D σ H=>te σ H fun x H1=>g x σ H1 D.nx
theorem ps_set {i:Nat} {x:Str} {e:Expr} {te:TE} {pos':Pos} (hN:X.N.Nodup) (hi:X.N[i]?=some x) (hx:Loc X.env.scope x) (he:PE X e te) (hs:swapsWith e (some (.Name x pos')) pos.line X.env=pure false:=by rfl) (hf:X.fn x=true∨X.env.scope.names.lookup x=some .local:=by first | exact .inl rfl | exact .inr rfl | assumption) :
    PS X (.Assign [.Name x pos'] e pos) (tAsg te (gName i)):=by
  intro pins s σ H D I h
  refine wpAny_Assign_Name (thn (he pins s σ H _ I h) fun v s1 ⟨y,H1,I1,r1,q1⟩=>?_) hs
  exact store_ok I1 hN hi hx r1 (fun s2 I2=>⟨_,H1,I2,q1⟩) hf
end
section
variable {X:Cx} {pos:Pos}
def tWhile (c:TT) (tb:TS):TS:=fun D σ H=>∃W:Nat→St→Hp→Prop,(∃m,W m σ H)∧∀m σ H,W m σ H→
  c σ H fun b H1=>if b=true then ∃N:St→Hp→Prop,(∀σ' H',N σ' H'→∃m',m'<m∧W m' σ' H')∧tb { D with nx:=N,ct:=N,bk:=D.nx } σ H1 else D.nx σ H1
theorem ps_while {c:Expr} {body:List Stmt} {tc:TT} {tb:TS} (hp:PassesOwn (model X.prog X.w) X.A X.env X.xe) (hc:PT X c tc) (hb:PSs X body tb):PS X (.While c body [] pos) (tWhile tc tb):=by
  intro pins s σ H D I h
  obtain ⟨W,⟨m0,w0⟩,turn⟩:=h
  refine wpAny_While (codeAny_whileLoop (fun n s'=>∃σ' H',Inv X pins σ' H' s'∧W n σ' H') ?_ m0 ⟨σ,H,I,w0⟩)
  rintro n s1 ⟨σ1,H1,I1,w1⟩
  refine wpAny_passesOwn hp (thn (hc pins s1 σ1 H1 _ I1 (turn n σ1 H1 w1)) fun b s2 ⟨H2,I2,q2⟩=>?_)
  cases b with
  | true=>
    obtain ⟨N,hN,q2⟩:=q2
    rw [if_pos rfl]
    refine wpAny_passesOwn hp (thn (hb pins s2 σ1 H2 _ I2 q2) fun f s3 q3=>?_)
    cases f with
    | next=>
      obtain ⟨σ3,H3,I3,n3⟩:=q3
      obtain ⟨m',hm,w3⟩:=hN σ3 H3 n3
      exact ⟨m',hm,σ3,H3,I3,w3⟩
    | cont=>
      obtain ⟨σ3,H3,I3,n3⟩:=q3
      obtain ⟨m',hm,w3⟩:=hN σ3 H3 n3
      exact ⟨m',hm,σ3,H3,I3,w3⟩
    | brk=>exact q3
    | ret v=>exact q3
  | false=>
    rw [if_neg Bool.false_ne_true]
    exact wpAny_execs_nil ⟨σ1,H2,I2,q2⟩
end
structure It where
  go:Nat→Hp→Prop
  yld:Nat→Hp→V→Hp→Prop
  stop:Nat→Hp→Prop
def FpOk (X:Cx) (pins:List (Addr×Obj)) (H:Hp) (b:Addr):Prop:=
  H b=none∧b≠X.env.locals∧b∉X.fs∧(b∈X.ex∨X.s₀.heap.objs.size≤b)∧(∀x c,X.env.cells.lookup x=some c→c≠b)∧∀p∈X.pn++pins,p.1≠b
theorem Inv.fpOk {X:Cx} {pins:List (Addr×Obj)} {σ:St} {H H':Hp} {s:Shared} {b:Addr} (I:Inv X pins σ H s) (hb:s.heap.objs.size≤b) (hn:H' b=none):FpOk X pins H' b:=by
  refine ⟨hn,Nat.ne_of_gt (Nat.lt_of_lt_of_le I.lt hb),I.nofs hb,.inr (Nat.le_trans I.sz hb),fun x c e z=>?_,fun p hp z=>?_⟩
  · obtain ⟨v,q⟩:=I.cell x c e
    exact absurd (Nat.lt_of_lt_of_le q.lt (by rw [z]; exact hb)) (Nat.lt_irrefl _)
  · exact absurd (Nat.lt_of_lt_of_le (Heap.lt_size (I.pin p hp).1) (by rw [z]; exact hb)) (Nat.lt_irrefl _)
structure Turn (P:Program) (w:World) (K:PySem.W.Frag) (tg:Expr) (J:It) (fp:List Addr) (it:Addr) (tn:Nat→Heap→Prop):Prop where
  mem:it∈fp
  obj:∀i h,tn i h→∀b∈fp,∃o,h.get? b=some o∧∀v,o.data≠.cell v
  keep:∀i h h',tn i h→(∀b∈fp,∀o,h.get? b=some o→h'.get? b=some o)→tn i h'
  item:∀(X:Cx),X.prog=P→X.w=w→X.K=K→X.calm=true→∀(i:Nat) (pins:List (Addr×Obj)) (s:Shared) (σ:St) (H:Hp) (E:Value→Shared→Prop),Inv X pins σ H s→(∀b∈fp,FpOk X pins H b)→tn i s.heap→J.go i H→
    wpAny (model P w) X.A (pyNext (.ref it)) (fun r s1=>∃u,r=some u∧
      wpAny (model P w) X.A (letOwnedTupleGo tg (.ref it) u) (fun _ s2=>∃x H',Inv X pins σ H' s2∧RelV x u∧J.yld i H x H'∧tn (i+1) s2.heap∧∀b∈fp,H' b=none) E s1) E s
  done:∀(X:Cx),X.prog=P→X.w=w→X.K=K→X.calm=true→∀(i:Nat) (pins:List (Addr×Obj)) (s:Shared) (σ:St) (H:Hp) (E:Value→Shared→Prop),Inv X pins σ H s→(∀b∈fp,FpOk X pins H b)→tn i s.heap→J.stop i H→
    wpAny (model P w) X.A (pyNext (.ref it)) (fun r s1=>r=none∧Inv X pins σ H s1) E s
  self:∀(A:Around) (i:Nat) (s:Shared) (Q:Value→Shared→Prop) (E:Value→Shared→Prop),tn i s.heap→Q (.ref it) s→wpAny (model P w) A (pyIter (.ref it)) Q E s
abbrev TI:=St→Hp→(It→Hp→Prop)→Prop
def PIE (X:Cx) (pins:List (Addr×Obj)) (σ:St) (tg:Expr) (R:It→Hp→Prop) (itv:Value) (s2:Shared):Prop:=
  ∃(it:Addr) (fp:List Addr) (tn:Nat→Heap→Prop) (J:It) (H':Hp),itv=.ref it∧Inv X pins σ H' s2∧Turn X.prog X.w X.K tg J fp it tn∧tn 0 s2.heap∧(∀b∈fp,FpOk X pins H' b)∧R J H'
def PI (X:Cx) (tg iter:Expr) (wi:TI):Prop:=
  ∀(pins:List (Addr×Obj)) (s:Shared) (σ:St) (H:Hp) (R:It→Hp→Prop),Inv X pins σ H s→wi σ H R→
    wpAny (model X.prog X.w) X.A (eval iter X.env) (fun v s1=>wpAny (model X.prog X.w) X.A (pyIter v) (PIE X pins σ tg R) X.xe s1) X.xe s
theorem go_of {M:Model} {A:Around} {E:Value→Shared→Prop} {s:Shared} {tg:Expr} {it:Addr} {u:Value} {o:Obj} {n:String} {vs:Array Value} {Q:Unit→Shared→Prop} (ho:s.heap.get? it=some o) (hc:o.cls=.type n) (hd:o.data=.fields vs)
    (hn:["enumerate","zip","dict_itemiterator","dict_reverseitemiterator","odict_iterator","itertools.zip_longest","itertools.pairwise"].contains n=false) (hQ:Q () s):wpAny M A (letOwnedTupleGo tg (.ref it) u) Q E s:=by
  unfold letOwnedTupleGo
  cases tg<;>first
    | exact wpAny_pure hQ
    | (cases u<;>first
        | exact wpAny_pure hQ
        | (refine wpAny_bind (wpAny_load ho ?_)
           rw [hc,hd]
           show wpAny M A (if (["enumerate","zip","dict_itemiterator","dict_reverseitemiterator","odict_iterator","itertools.zip_longest","itertools.pairwise"].contains n && vs[0]? == some (rawInt _))=true then _ else _) Q E s
           rw [if_neg (by intro h; rw [hn,Bool.false_and] at h; cases h)]
           exact wpAny_pure hQ))
def Itl (K:PySem.W.Frag) (a:Addr):It:=
  ⟨fun i H=>∃xs x,SqL K H a xs∧xs[i]?=some x,fun i H x H'=>H'=H∧∀xs,SqL K H a xs→xs[i]?=some x,fun i H=>∃xs,SqL K H a xs∧xs.length≤i⟩
def Itt (K:PySem.W.Frag) (a:Addr):It:=
  ⟨fun i H=>∃xs x,SqT K H a xs∧xs[i]?=some x,fun i H x H'=>H'=H∧∀xs,SqT K H a xs→xs[i]?=some x,fun i H=>∃xs,SqT K H a xs∧xs.length≤i⟩
def Itr (lo:Int) (n:Nat):It:=⟨fun i _=>i<n,fun i H x H'=>H'=H∧x=.int (lo+i),fun i _=>n≤i⟩
theorem turn_list {P:Program} {w:World} {K:PySem.W.Frag} {tg:Expr} (a it:Addr):Turn P w K tg (Itl K a) [it] it (fun i h=>h.IsListIter it a i) where
  mem:=by simp
  obj:=fun i h st b hb=>by
    have e:b=it:=by simpa using hb
    subst e
    obtain ⟨o,e,c,d⟩:=st
    exact ⟨o,e,fun v z=>by rw [d] at z; cases z⟩
  keep:=fun i h h' st k=>st.at fun o e=>k it (by simp) o e
  item:=by
    intro X hP hw hK hc i pins s σ H E I hf st hg
    subst hP hw hK
    obtain ⟨xs,x,hq,hx⟩:=hg
    obtain ⟨its,rv,p,hz⟩:=I.list hq
    obtain ⟨u,hu,ru⟩:=rv.get hx
    obtain ⟨f0,f1,f2,f3,f4,f5⟩:=hf it (by simp)
    refine wpAny_pyNext_list_item st p.isList (x:=u) (by simpa using hu) fun h' st' sb=>?_
    have I1:Inv X pins σ H { s with heap:=h' }:=I.turned (t':=s.toks) (fun b o hb e=>(sb.2 b hb).trans e) f0 f1 f3 f4 f5
    obtain ⟨o,e,c,d⟩:=id st'
    exact ⟨u,rfl,go_of (s:={ s with heap:=h' }) e c d (by decide) ⟨x,H,I1,ru,⟨rfl,fun ys hy=>by rw [I.list_inj hy hq]; exact hx⟩,st',fun b hb=>(hf b hb).1⟩⟩
  done:=by
    intro X hP hw hK hc i pins s σ H E I hf st hg
    subst hP hw hK
    obtain ⟨xs,hq,hx⟩:=hg
    obtain ⟨its,rv,p,hz⟩:=I.list hq
    obtain ⟨f0,f1,f2,f3,f4,f5⟩:=hf it (by simp)
    have hl:=rv.length
    exact wpAny_pyNext_list_end (I.ok.hd hc) st p.isList (by simp; omega) fun h' eb=>⟨rfl,I.turned (t':=s.toks) (fun b o hb e=>eb b o hb e) f0 f1 f3 f4 f5⟩
  self:=fun _ _ _ _ _ st h=>wpAny_pyIter_listiter st h
theorem turn_tuple {P:Program} {w:World} {K:PySem.W.Frag} {tg:Expr} (a it:Addr):Turn P w K tg (Itt K a) [it] it (fun i h=>h.IsTupleIter it a i) where
  mem:=by simp
  obj:=fun i h st b hb=>by
    have e:b=it:=by simpa using hb
    subst e
    obtain ⟨o,e,c,d⟩:=st
    exact ⟨o,e,fun v z=>by rw [d] at z; cases z⟩
  keep:=fun i h h' st k=>st.at fun o e=>k it (by simp) o e
  item:=by
    intro X hP hw hK hc i pins s σ H E I hf st hg
    subst hP hw hK
    obtain ⟨xs,x,hq,hx⟩:=hg
    obtain ⟨its,rv,p,hz⟩:=I.tuple hq
    obtain ⟨u,hu,ru⟩:=rv.get hx
    obtain ⟨f0,f1,f2,f3,f4,f5⟩:=hf it (by simp)
    refine wpAny_pyNext_tuple_item st (show s.heap.IsTuple a its.toArray from p) (x:=u) (by simpa using hu) fun h' st' sb=>?_
    have I1:Inv X pins σ H { s with heap:=h' }:=I.turned (t':=s.toks) (fun b o hb e=>(sb.2 b hb).trans e) f0 f1 f3 f4 f5
    obtain ⟨o,e,c,d⟩:=id st'
    exact ⟨u,rfl,go_of (s:={ s with heap:=h' }) e c d (by decide) ⟨x,H,I1,ru,⟨rfl,fun ys hy=>by rw [I.tuple_inj hy hq]; exact hx⟩,st',fun b hb=>(hf b hb).1⟩⟩
  done:=by
    intro X hP hw hK hc i pins s σ H E I hf st hg
    subst hP hw hK
    obtain ⟨xs,hq,hx⟩:=hg
    obtain ⟨its,rv,p,hz⟩:=I.tuple hq
    obtain ⟨f0,f1,f2,f3,f4,f5⟩:=hf it (by simp)
    have hl:=rv.length
    exact wpAny_pyNext_tuple_end (I.ok.hd hc) st (show s.heap.IsTuple a its.toArray from p) (by simp; omega) fun h' eb=>⟨rfl,I.turned (t':=s.toks) (fun b o hb e=>eb b o hb e) f0 f1 f3 f4 f5⟩
  self:=fun _ _ _ _ _ st h=>wpAny_pyIter_tupleiter st h
theorem turn_range {P:Program} {w:World} {K:PySem.W.Frag} {tg:Expr} (it:Addr) (lo:Int) (n:Nat):Turn P w K tg (Itr lo n) [it] it (fun i h=>IsRangeIter h it (lo+(i:Nat)*1) ((n:Int)-(i:Nat)) 1) where
  mem:=by simp
  obj:=fun i h st b hb=>by
    have e:b=it:=by simpa using hb
    subst e
    exact ⟨_,st,fun v z=>by
      have z':Data.fields _=Data.cell v:=z
      cases z'⟩
  keep:=fun i h h' st k=>k it (by simp) _ st
  item:=by
    intro X hP hw hK hc i pins s σ H E I hf st hg
    subst hP hw hK
    obtain ⟨f0,f1,f2,f3,f4,f5⟩:=hf it (by simp)
    have W:=Walks.range (prog:=X.prog) (w:=X.w) (I.ok.hd hc) it lo 1 n
    refine W.item i s _ _ hg st fun v h' tk hv st' kk=>?_
    obtain ⟨t,rfl⟩:=hv
    have I1:Inv X pins σ H { s with heap:=h',toks:=tk }:=I.turned (fun b o hb e=>kk b o (by simpa using hb) e) f0 f1 f3 f4 f5
    refine ⟨_,rfl,go_of (s:={ s with heap:=h',toks:=tk }) (n:="range_iterator") st' rfl rfl (by decide) ⟨.int (lo+i),H,I1,⟨t,?_⟩,⟨rfl,rfl⟩,st',fun b hb=>(hf b hb).1⟩⟩
    rw [Int.mul_one]
  done:=by
    intro X hP hw hK hc i pins s σ H E I hf st hg
    subst hP hw hK
    obtain ⟨f0,f1,f2,f3,f4,f5⟩:=hf it (by simp)
    exact wpAny_pyNext_range_end (I.ok.hd hc) st (by have:n≤i:=hg; omega) fun h' eb=>⟨rfl,I.turned (t':=s.toks) (fun b o hb e=>eb b o hb e) f0 f1 f3 f4 f5⟩
  self:=fun _ _ _ _ _ st h=>wpAny_pyIter_rangeiter st h
end L2
namespace L2
open PySem PySem.Spec PyProof.Rows
section
variable {X:Cx} {tg:Expr}
theorem range_it {pins:List (Addr×Obj)} {σ:St} {H:Hp} {s:Shared} {R:It→Hp→Prop} {E:Value→Shared→Prop} {lo hi:Int} {t u v:Tok} {tk:Nat} (I:Inv X pins σ H s) (h1 : -(2 ^ 62)≤lo) (h2:lo<2 ^ 62) (h3 : -(2 ^ 62)≤hi) (h4:hi<2 ^ 62)
    (q:R (Itr lo (hi-lo).toNat) H):wpAny (model X.prog X.w) X.A (pyIter (.ref s.heap.objs.size)) (PIE X pins σ tg R) E { s with heap:=s.heap.push { cls:=.type "range",data:=.fields #[.int lo t,.int hi u,.int 1 v] },toks:=tk }:=by
  refine wpAny_pyIter_range (IsRange.new ..) (small_one h1 h2 h3 h4) ?_
  have I1:Inv X pins σ H { s with heap:=s.heap.push { cls:=.type "range",data:=.fields #[.int lo t,.int hi u,.int 1 v] },toks:=tk }:=I.kept fun b o e=>Heap.get?_push_of_some _ e
  refine ⟨(s.heap.push { cls:=.type "range",data:=.fields #[.int lo t,.int hi u,.int 1 v] }).objs.size,[(s.heap.push { cls:=.type "range",data:=.fields #[.int lo t,.int hi u,.int 1 v] }).objs.size],_,_,H,rfl,
    I1.kept (t':=tk) fun b o e=>Heap.get?_push_of_some _ e,turn_range _ lo (hi-lo).toNat,?_,fun b hb=>?_,q⟩
  · have e1:lo+((0:Nat):Int)*1=lo:=by simp
    have e2:(((hi-lo).toNat:Nat):Int)-((0:Nat):Int)=Builtin.Range.rangeSize lo hi 1:=by rw [rangeSize_one]; split<;>omega
    show IsRangeIter _ _ (lo+((0:Nat):Int)*1) ((((hi-lo).toNat:Nat):Int)-((0:Nat):Int)) 1
    rw [e1,e2]
    exact Heap.get?_push_size _ rfl
  · have e:b=(s.heap.push { cls:=.type "range",data:=.fields #[.int lo t,.int hi u,.int 1 v] }).objs.size:=by simpa using hb
    subst e
    exact I1.fpOk (Nat.le_refl _) (I1.hok.fresh (Nat.le_refl _))
def iRng1 (ta:TA):TI:=fun σ H R=>ta σ H fun vs H1=>∃j:Int,vs=[.int j]∧-(2 ^ 62)≤j∧j<2 ^ 62∧R (Itr 0 j.toNat) H1
theorem pi_range1 {a:Expr} {ta:TA} {p pos:Pos} (hg:Gl X "range") (hm:X.mg "range"=none) (ha:PA X [a] ta) (hs:starEach [a] X.env=[(false,eval a X.env)]:=by rfl):PI X tg (.Call (.Name "range" p) [a] [] pos) (iRng1 ta):=by
  intro pins s σ H R I h
  refine Call_ (ld_blt I hg hm boot_range (PyProof.Rows.callWith_type1 (thn (ha pos pins s σ H _ I h) fun us s1 ⟨vs,H1,I1,r1,q1⟩=>?_) hs rfl))
  obtain ⟨j,e,q1,q2,q⟩:=q1
  subst e
  cases r1 with
  | cons r rr=>
    cases rr
    obtain ⟨t,rfl⟩:=r
    exact call_range_1 (range_it I1 (by omega) (by omega) q1 q2 (by simpa using q))
def tFor (wi:TI) (g:TG) (tb:TS):TS:=fun D σ H=>wi σ H fun J H1=>∃W:Nat→Nat→St→Hp→Prop,(∃m,W 0 m σ H1)∧∀i m σ H,W i m σ H→
  (J.stop i H∧D.nx σ H)∨(J.go i H∧∃N:St→Hp→Prop,(∀σ' H',N σ' H'→∃m',m'<m∧W (i+1) m' σ' H')∧∀x H',J.yld i H x H'→g x σ H' fun σ2 H2=>tb { D with nx:=N,ct:=N,bk:=D.nx } σ2 H2)
def pinsAt (fp:List Addr) (h:Heap):List (Addr×Obj):=fp.filterMap fun b=>(h.get? b).map fun o=>(b,o)
theorem mem_pinsAt {fp:List Addr} {h:Heap} {b:Addr} {o:Obj} (hb:b∈fp) (e:h.get? b=some o):(b,o)∈pinsAt fp h:=List.mem_filterMap.mpr ⟨b,hb,by rw [e]; rfl⟩
theorem of_pinsAt {fp:List Addr} {h:Heap} {p:Addr×Obj} (hp:p∈pinsAt fp h):p.1∈fp∧h.get? p.1=some p.2:=by
  obtain ⟨b,hb,e⟩:=List.mem_filterMap.mp hp
  cases q:h.get? b with
  | none=>rw [q] at e; cases e
  | some o=>
    rw [q] at e
    have e':(b,o)=p:=Option.some.inj e
    subst e'
    exact ⟨hb,q⟩
theorem Inv.pinned {pins:List (Addr×Obj)} {σ:St} {H:Hp} {s:Shared} {fp:List Addr} (I:Inv X pins σ H s) (hf:∀b∈fp,FpOk X pins H b) (ho:∀b∈fp,∃o,s.heap.get? b=some o∧∀v,o.data≠.cell v):Inv X (pins++pinsAt fp s.heap) σ H s:=
  I.pins_of fun p hp=>(List.mem_append.mp hp).elim (fun z=>I.pin p (List.mem_append_right _ z)) fun z=>by
    obtain ⟨hb,e⟩:=of_pinsAt z
    obtain ⟨f0,f1,f2,_⟩:=hf p.1 hb
    obtain ⟨o,e',d⟩:=ho p.1 hb
    rw [e] at e'; cases e'
    exact ⟨e,f0,f1,f2,d⟩
theorem Inv.unpinned {pins pl:List (Addr×Obj)} {σ:St} {H:Hp} {s:Shared} (I:Inv X (pins++pl) σ H s):Inv X pins σ H s:=I.pins_of fun p hp=>I.pin p (List.mem_append_right _ (List.mem_append_left _ hp))
theorem ps_for {iter:Expr} {body:List Stmt} {wi:TI} {g:TG} {tb:TS} {pos:Pos} (hp:PassesOwn (model X.prog X.w) X.A X.env X.xe) (hc:X.calm=true) (hi:PI X tg iter wi) (hg:PG X tg g) (hb:PSs X body tb)
    (hs:∀x,foldedSetIterable iter X.env x=pure x:=by intro _; rfl):PS X (.For tg iter body [] pos) (tFor wi g tb):=by
  intro pins s σ H D I h
  refine wpAny_For (thn (hi pins s σ H _ I h) fun v s1 h1=>thn h1 fun itv s2 h2=>?_) hs
  obtain ⟨it,fp,tn,J,H2,e,I2,T,st2,f2,W,⟨m0,w0⟩,turn⟩:=h2
  subst e
  have stat:∀{H':Hp},(∀b∈fp,H' b=none)→∀b∈fp,FpOk X pins H' b:=fun hn b hb=>⟨hn b hb,(f2 b hb).2⟩
  refine codeAny_forLoop_any (fun n s'=>∃i σ' H',Inv X pins σ' H' s'∧tn i s'.heap∧(∀b∈fp,H' b=none)∧W i n σ' H') ?_ m0 ⟨0,σ,H2,I2,st2,fun b hb=>(f2 b hb).1,w0⟩
  rintro n s3 ⟨i,σ3,H3,I3,st3,fr3,w3⟩
  rcases turn i n σ3 H3 w3 with ⟨stop,qn⟩ | ⟨go,N,hN,step⟩
  · refine wpAny_passesOwn hp (thn (T.done X rfl rfl rfl hc i pins s3 σ3 H3 X.xe I3 (stat fr3) st3 stop) fun r s4 ⟨hr,I4⟩=>?_)
    subst hr
    exact wpAny_execs_nil ⟨σ3,H3,I4,qn⟩
  · refine wpAny_passesOwn hp (thn (T.item X rfl rfl rfl hc i pins s3 σ3 H3 X.xe I3 (stat fr3) st3 go) fun r s4 ⟨u,hr,h4⟩=>?_)
    subst hr
    refine wpAny_passesOwn hp (thn h4 fun _ s5 ⟨x,H5,I5,r5,y5,st5,fr5⟩=>?_)
    have I5':=I5.pinned (stat fr5) (T.obj _ _ st5)
    refine wpAny_passesOwn hp (thn (hg _ s5 σ3 H5 x u _ I5' r5 (step x H5 y5)) fun _ s6 ⟨σ6,H6,I6,q6⟩=>?_)
    refine wpAny_passesOwn hp (thn (hb _ s6 σ6 H6 _ I6 q6) fun f s7 q7=>?_)
    have again:∀{σ7:St} {H7:Hp},Inv X (pins++pinsAt fp s5.heap) σ7 H7 s7→N σ7 H7→∃m,m<n∧∃i σ' H',Inv X pins σ' H' s7∧tn i s7.heap∧(∀b∈fp,H' b=none)∧W i m σ' H':=fun {σ7 H7} I7 n7=>by
      obtain ⟨m',hm,w7⟩:=hN σ7 H7 n7
      refine ⟨m',hm,i+1,σ7,H7,I7.unpinned,T.keep _ _ _ st5 fun b hb o e=>(I7.pin (b,o) (List.mem_append_right _ (List.mem_append_right _ (mem_pinsAt hb e)))).1,fun b hb=>?_,w7⟩
      obtain ⟨o,e,d⟩:=T.obj _ _ st5 b hb
      exact (I7.pin (b,o) (List.mem_append_right _ (List.mem_append_right _ (mem_pinsAt hb e)))).2.1
    cases f with
    | next=>obtain ⟨σ7,H7,I7,n7⟩:=q7; exact again I7 n7
    | cont=>obtain ⟨σ7,H7,I7,n7⟩:=q7; exact again I7 n7
    | brk=>obtain ⟨σ7,H7,I7,q7⟩:=q7; exact ⟨σ7,H7,I7.unpinned,q7⟩
    | ret v=>obtain ⟨x7,σ7,H7,I7,r7,q7⟩:=q7; exact ⟨x7,σ7,H7,I7.unpinned,r7,q7⟩
end
end L2
namespace L2
open PySem PySem.Spec PyProof.Rows
abbrev R2:=V→V→Hp→VK→Prop
def OpR (X:Cx) (f:Value→Value→Sem Value) (r:R2):Prop:=
  ∀(pins:List (Addr×Obj)) (s:Shared) (σ:St) (H:Hp) (x y:V) (v u:Value) (Q:VK),Inv X pins σ H s→RelV x v→RelV y u→r x y H Q→
    wpAny (model X.prog X.w) X.A (f v u) (EP X pins σ Q) X.xe s
def CallR (X:Cx) (f:Value) (r:List V→Hp→VK→Prop):Prop:=
  ∀(pins:List (Addr×Obj)) (s:Shared) (σ:St) (H:Hp) (xs:List V) (us:List Value) (Q:VK),Inv X pins σ H s→Vals xs us→r xs H Q→
    wpAny (model X.prog X.w) X.A (call f us) (EP X pins σ Q) X.xe s
def TruR (X:Cx) (r:V→Hp→(Bool→Hp→Prop)→Prop):Prop:=
  ∀(pins:List (Addr×Obj)) (s:Shared) (σ:St) (H:Hp) (x:V) (v:Value) (Q:Bool→Hp→Prop),Inv X pins σ H s→RelV x v→r x H Q→
    wpAny (model X.prog X.w) X.A (truthy v) (TP X pins σ Q) X.xe s
def tOp (r:R2) (ta tb:TE):TE:=fun σ H Q=>ta σ H fun x H1=>tb σ H1 fun y H2=>r x y H2 Q
def rI (C:Int→Int→Prop) (g:Int→Int→V):R2:=fun x y H Q=>∃i j,x=.int i∧y=.int j∧C i j∧Q (g i j) H
def rI0 (g:Int→Int→V):R2:=fun x y H Q=>∃i j,x=.int i∧y=.int j∧Q (g i j) H
section
variable {X:Cx} {a b c:Expr} {ta tb tc:TE} {pos:Pos}
theorem binT (ha:PE X a ta) (hb:PE X b tb) {pins:List (Addr×Obj)} {s:Shared} {σ:St} {H:Hp} {R:V→V→Hp→Prop} (I:Inv X pins σ H s)
    (h:ta σ H fun x H1=>tb σ H1 fun y H2=>R x y H2) {Q:Value→Shared→Prop} {f:Value→Value→Sem Value}
    (hf:∀v u s2 x y H2,Inv X pins σ H2 s2→RelV x v→RelV y u→R x y H2→wpAny (model X.prog X.w) X.A (f v u) Q X.xe s2) :
    wpAny (model X.prog X.w) X.A (eval a X.env) (fun v s₁=>wpAny (model X.prog X.w) X.A (eval b X.env) (fun u s₂=>wpAny (model X.prog X.w) X.A (f v u) Q X.xe s₂) X.xe s₁) X.xe s:=by
  refine thn (ha pins s σ H _ I h) fun v s1 ⟨x,H1,I1,r1,q1⟩=>?_
  refine thn (hb pins s1 σ H1 _ I1 q1) fun u s2 ⟨y,H2,I2,r2,q2⟩=>?_
  exact hf v u s2 x y H2 I2 r1 r2 q2
theorem pe_op {op:Operator} {r:R2} (ho:OpR X (binaryOp op) r) (ha:PE X a ta) (hb:PE X b tb):PE X (.BinOp a op b pos) (tOp r ta tb):=by
  intro pins s σ H Q I h
  exact wpAny_BinOp (binT ha hb I h fun v u s2 x y H2 I2 rx ry q=>ho pins s2 σ H2 x y v u Q I2 rx ry q)
theorem opI {f:Value→Value→Sem Value} {C:Int→Int→Prop} {g:Int→Int→Int}
    (rule:∀(i j:Int) (t u:Tok) (s:Shared) (Q:Value→Shared→Prop) (E:Value→Shared→Prop),C i j→Q (.int (g i j) s.toks) { s with toks:=s.toks+1 }→wpAny (model X.prog X.w) X.A (f (.int i t) (.int j u)) Q E s) :
    OpR X f (rI C fun i j=>.int (g i j)):=by
  intro pins s σ H x y v u Q I rx ry h
  obtain ⟨i,j,rfl,rfl,hc,q⟩:=h
  obtain ⟨t,rfl⟩:=rx
  obtain ⟨t',rfl⟩:=ry
  exact rule i j t t' s _ _ hc ⟨.int (g i j),H,I.tok _,⟨_,rfl⟩,q⟩
theorem opI0 {f:Value→Value→Sem Value} {g:Int→Int→Int}
    (rule:∀(i j:Int) (t u:Tok) (s:Shared) (Q:Value→Shared→Prop) (E:Value→Shared→Prop),Q (.int (g i j) s.toks) { s with toks:=s.toks+1 }→wpAny (model X.prog X.w) X.A (f (.int i t) (.int j u)) Q E s) :
    OpR X f (rI0 fun i j=>.int (g i j)):=by
  intro pins s σ H x y v u Q I rx ry h
  obtain ⟨i,j,rfl,rfl,q⟩:=h
  obtain ⟨t,rfl⟩:=rx
  obtain ⟨t',rfl⟩:=ry
  exact rule i j t t' s _ _ ⟨.int (g i j),H,I.tok _,⟨_,rfl⟩,q⟩
theorem opB0 {f:Value→Value→Sem Value} {g:Int→Int→Bool}
    (rule:∀(i j:Int) (t u:Tok) (s:Shared) (Q:Value→Shared→Prop) (E:Value→Shared→Prop),Q (.bool (g i j)) s→wpAny (model X.prog X.w) X.A (f (.int i t) (.int j u)) Q E s) :
    OpR X f (rI0 fun i j=>.bl (g i j)):=by
  intro pins s σ H x y v u Q I rx ry h
  obtain ⟨i,j,rfl,rfl,q⟩:=h
  obtain ⟨t,rfl⟩:=rx
  obtain ⟨t',rfl⟩:=ry
  exact rule i j t t' s _ _ ⟨.bl (g i j),H,I,rfl,q⟩
def CMul (i j:Int):Prop:=(-(2 ^ 64)<i∧i<2 ^ 64)∨(-(2 ^ 64)<j∧j<2 ^ 64)
theorem CMul.ok {i j:Int} (h:CMul i j):IntMulOk i j:=by
  rcases h with ⟨h1,h2⟩ | ⟨h1,h2⟩
  · exact .of_left (intBits_le_64 h1 h2)
  · exact .of_right (intBits_le_64 h1 h2)
theorem op_add:OpR X (binaryOp .Add) (rI0 fun i j=>.int (i+j)):=opI0 fun _ _ _ _ _ _ _ q=>add_int q
theorem op_sub:OpR X (binaryOp .Sub) (rI0 fun i j=>.int (i-j)):=opI0 fun _ _ _ _ _ _ _ q=>sub_int q
theorem op_mul:OpR X (binaryOp .Mult) (rI CMul fun i j=>.int (i*j)):=opI fun _ _ _ _ _ _ _ hc q=>mul_int q hc.ok
theorem op_mod:OpR X (binaryOp .Mod) (rI (fun _ j=>0<j) fun i j=>.int (i % j)):=opI fun i j _ _ _ _ _ hc q=>by
  have h1:(0:Int)<j:=hc
  exact mod_int' (by omega) (by rw [Int.fmod_eq_emod_of_nonneg i (by omega)]; exact q)
theorem op_and:OpR X (binaryOp .BitAnd) (rI0 fun i j=>.int (Builtin.bitAnd i j)):=opI0 fun _ _ _ _ _ _ _ q=>and_int q
end
section
variable {X:Cx} {a b c:Expr} {ta tb tc:TE} {pos:Pos}
theorem fin_bl {pins:List (Addr×Obj)} {σ:St} {H:Hp} {s:Shared} {Q:VK} {k k':Bool} (I:Inv X pins σ H s) (q:Q (.bl k) H) (e:k=k'):EP X pins σ Q (.bool k') s:=by
  subst e
  exact ⟨.bl k,H,I,rfl,q⟩
theorem op_lt:OpR X (compareOp .Lt) (rI0 fun i j=>.bl (decide (i<j))):=opB0 fun _ _ _ _ _ _ _ q=>lt_int q
theorem op_le:OpR X (compareOp .LtE) (rI0 fun i j=>.bl (decide (i≤j))):=opB0 fun _ _ _ _ _ _ _ q=>le_int q
theorem op_gt:OpR X (compareOp .Gt) (rI0 fun i j=>.bl (decide (j<i))):=opB0 fun _ _ _ _ _ _ _ q=>gt_int q
theorem op_ge:OpR X (compareOp .GtE) (rI0 fun i j=>.bl (decide (j≤i))):=opB0 fun _ _ _ _ _ _ _ q=>ge_int q
theorem op_isN:OpR X (compareOp .Is) (fun x y H Q=>y=.non∧Q (.bl (decide (x=.non))) H):=by
  intro pins s σ H x y v u Q I rx ry h
  obtain ⟨rfl,q⟩:=h
  cases ry
  refine is_none_gen (fin_bl I q ?_)
  cases x<;>first
    | (cases rx; rfl)
    | (obtain ⟨t,rfl⟩:=rx; rfl)
theorem op_notN:OpR X (compareOp .IsNot) (fun x y H Q=>y=.non∧Q (.bl (!decide (x=.non))) H):=by
  intro pins s σ H x y v u Q I rx ry h
  obtain ⟨rfl,q⟩:=h
  cases ry
  refine isnot_none_gen (fin_bl I q ?_)
  cases x<;>first
    | (cases rx; rfl)
    | (obtain ⟨t,rfl⟩:=rx; rfl)
theorem OpR.or {f:Value→Value→Sem Value} {r r':R2} (h:OpR X f r) (h':OpR X f r'):OpR X f (fun x y H Q=>r x y H Q∨r' x y H Q):=by
  intro pins s σ H x y v u Q I rx ry q
  rcases q with q | q
  · exact h pins s σ H x y v u Q I rx ry q
  · exact h' pins s σ H x y v u Q I rx ry q
theorem nomark (b:Expr) {op:CmpOp} (h:op≠.In:=by decide) (h2:op≠.NotIn:=by decide):behindInMarks op b=false:=by
  have e1:(op == CmpOp.In)=false:=by cases op<;>first | rfl | exact absurd rfl h
  have e2:(op == CmpOp.NotIn)=false:=by cases op<;>first | rfl | exact absurd rfl h2
  cases b<;>simp [behindInMarks,e1,e2]
theorem pe_cmpR {op:CmpOp} {r:R2} (ho:OpR X (compareOp op) r) (ha:PE X a ta) (hb:PE X b tb) (hm:behindInMarks op b=false):PE X (.Compare a [op] [b] pos) (tOp r ta tb):=by
  intro pins s σ H Q I h
  exact wpAny_Compare1 (binT ha hb I h fun v u s2 x y H2 I2 rx ry q=>ho pins s2 σ H2 x y v u Q I2 rx ry q) hm
def tTest (t:TE):TT:=fun σ H Q=>t σ H fun x H'=>∃k,x=.bl k∧Q k H'
theorem pt_cmpR {op:CmpOp} {r:R2} (ho:OpR X (compareOp op) r) (ha:PE X a ta) (hb:PE X b tb) (hm:behindInMarks op b=false):PT X (.Compare a [op] [b] pos) (tTest (tOp r ta tb)):=by
  intro pins s σ H Q I h
  refine wpAny_isTrue_Compare1 (thn (ha pins s σ H _ I h) fun v s1 ⟨x,H1,I1,r1,q1⟩=>thn (hb pins s1 σ H1 _ I1 q1) fun u s2 ⟨y,H2,I2,r2,q2⟩=>
    thn (ho pins s2 σ H2 x y v u _ I2 r1 r2 q2) fun c s3 ⟨z,H3,I3,r3,k,e,q3⟩=>?_) hm
  subst e
  cases r3
  exact wpAny_truthy_bool ⟨H3,I3,q3⟩
def tChain (r r':R2) (ta tb tc:TE):TE:=fun σ H Q=>ta σ H fun x H1=>tb σ H1 fun y H2=>r x y H2 fun z H3=>∃k,z=.bl k∧
  (if k=true then tc σ H3 fun w' H4=>r' y w' H4 Q else Q (.bl false) H3)
theorem pe_chain {op op':CmpOp} {r r':R2} (ho:OpR X (compareOp op) r) (ho':OpR X (compareOp op') r') (ha:PE X a ta) (hb:PE X b tb) (hc:PE X c tc)
    (hm:lastMarks [op,op'] [b,c]=false:=by with_unfolding_all rfl):PE X (.Compare a [op,op'] [b,c] pos) (tChain r r' ta tb tc):=by
  intro pins s σ H Q I h
  refine Compare_chain (thn (ha pins s σ H _ I h) fun v s1 ⟨x,H1,I1,r1,q1⟩=>chain_link (thn (hb pins s1 σ H1 _ I1 q1) fun u s2 ⟨y,H2,I2,r2,q2⟩=>
    thn (ho pins s2 σ H2 x y v u _ I2 r1 r2 q2) fun d s3 ⟨z,H3,I3,r3,k,e,q3⟩=>?_)) hm
  subst e
  cases r3
  refine wpAny_truthy_bool ?_
  cases k with
  | false=>exact ite_ff ⟨.bl false,H3,I3,rfl,q3⟩
  | true=>exact ite_tt (chain_last (thn (hc pins s3 σ H3 _ I3 q3) fun w' s4 ⟨z',H4,I4,r4,q4⟩=>ho' pins s4 σ H4 y z' u w' Q I4 r2 r4 q4))
def TruV (K:PySem.W.Frag) (x:V) (H:Hp) (k:Bool):Prop:=
  match x with
  | .non=>k=false
  | .bl b=>k=b
  | .int i=>k=(i != 0)
  | .str y=>y.length≤sizeLine∧k=((y.length:Int) != 0)
  | .byt y=>y.size≤sizeLine∧k=((y.size:Int) != 0)
  | .ref p=>(∃xs,SqL K H p xs∧k=!xs.isEmpty)∨(∃xs,SqT K H p xs∧k=!xs.isEmpty)∨∃kvs,H p=some (.dK kvs)∧k=!kvs.isEmpty
  | _=>False
theorem isEmpty_kv {κ:Type} {kvs:List (κ×V)} {vs:List (κ×Value)} (r:KV kvs vs):(!vs.isEmpty)=!kvs.isEmpty:=by
  cases r<;>rfl
theorem isEmpty_of {xs:List V} {its:List Value} (r:Vals xs its):(!its.toArray.isEmpty)=!xs.isEmpty:=by
  cases r<;>simp
theorem line63:(sizeLine:Nat)<2 ^ 63:=by rw [sizeLine_eq]; decide
theorem tru_ok:TruR X (fun x H Q=>∃k,TruV X.K x H k∧Q k H):=by
  intro pins s σ H x v Q I rx h
  obtain ⟨k,e,q⟩:=h
  have hl:=line63
  have hs:sizeLine=16777216:=sizeLine_eq
  cases x with
  | non=>
    cases rx
    have e':k=false:=e
    subst e'
    exact truthy_none ⟨H,I,q⟩
  | bl b=>
    cases rx
    have e':k=b:=e
    subst e'
    exact wpAny_truthy_bool ⟨H,I,q⟩
  | int i=>
    obtain ⟨t,rfl⟩:=rx
    have e':k=(i != 0):=e
    subst e'
    exact PySem.P.truthy_int ⟨H,I,q⟩
  | str y=>
    obtain ⟨t,rfl⟩:=rx
    obtain ⟨hy,e'⟩:y.length≤sizeLine∧k=((y.length:Int) != 0):=e
    subst e'
    exact PySem.P.truthy_str (by omega) ⟨H,I.tok _,q⟩
  | byt y=>
    obtain ⟨t,rfl⟩:=rx
    obtain ⟨hy,e'⟩:y.size≤sizeLine∧k=((y.size:Int) != 0):=e
    subst e'
    exact PySem.W.truthy_bytes (by omega) ⟨H,I.tok _,q⟩
  | ref p=>
    cases rx
    have e':(∃xs,SqL X.K H p xs∧k=!xs.isEmpty)∨(∃xs,SqT X.K H p xs∧k=!xs.isEmpty)∨∃kvs,H p=some (.dK kvs)∧k=!kvs.isEmpty:=e
    rcases e' with ⟨xs,hx,e'⟩ | ⟨xs,hx,e'⟩ | ⟨kvs,hx,e'⟩
    · subst e'
      obtain ⟨its,r,pl,hz⟩:=I.list hx
      have hlen:=r.length
      exact wpAny_truthy_list pl.isList (by simp only [List.size_toArray]; omega) ⟨H,I.tok _,by rw [isEmpty_of r]; exact q⟩
    · subst e'
      obtain ⟨its,r,pl,hz⟩:=I.tuple hx
      have hlen:=r.length
      exact truthy_tuple pl (by simp only [List.size_toArray]; omega) ⟨H,I.tok _,by rw [isEmpty_of r]; exact q⟩
    · subst e'
      obtain ⟨hz,hS,vs,r,m⟩:kvs.length≤sizeLine∧(p == sysModules)=false∧∃vs,KV kvs vs∧s.heap.DictOf (mixKind X.prog X.w) p vs:=I.hok p _ hx
      have hlen:kvs.length=vs.length:=Paired.length r
      exact wpAny_truthy_dict hS m (by omega) ⟨H,I.tok _,by rw [isEmpty_kv r]; exact q⟩
  | _=>exact (show False from e).elim
theorem pt_truth (ha:PE X a ta) (he:∀whole,isTrue a X.env whole=(do let v ←whole; standAt a.pos; holding [v] (truthy v))) :
    PT X a (fun σ H Q=>ta σ H fun x H'=>∃k,TruV X.K x H' k∧Q k H'):=by
  intro pins s σ H Q I h
  exact isTrue_plain (thn (ha pins s σ H _ I h) fun v s1 ⟨x,H1,I1,r1,q1⟩=>tru_ok pins s1 σ H1 x v Q I1 r1 q1) (he _)
theorem op_add_str:OpR X (binaryOp .Add) (fun x y H Q=>∃i j,x=.str i∧y=.str j∧i.length+j.length≤sizeLine∧Q (.str (i++j)) H):=by
  intro pins s σ H x y v u Q I rx ry h
  obtain ⟨i,j,rfl,rfl,hz,q⟩:=h
  obtain ⟨t,rfl⟩:=rx
  obtain ⟨t',rfl⟩:=ry
  exact add_str (fun t' tk=>⟨.str (i++j),H,I.tok _,⟨_,rfl⟩,q⟩) hz
theorem vals1 {x:V} {us:List Value} (r:Vals [x] us):∃u,us=[u]∧RelV x u:=by
  cases r with
  | cons r1 r2=>cases r2; exact ⟨_,rfl,r1⟩
theorem vals2 {x y:V} {us:List Value} (r:Vals [x,y] us):∃u w',us=[u,w']∧RelV x u∧RelV y w':=by
  cases r with
  | cons r1 r2=>
    cases r2 with
    | cons r3 r4=>cases r4; exact ⟨_,_,rfl,r1,r3⟩
theorem call_max2 (hc:X.calm=true):CallR X (.builtin "max") (fun xs H Q=>∃i j,xs=[.int i,.int j]∧Q (.int (if j > i then j else i)) H):=by
  intro pins s σ H xs us Q I r h
  obtain ⟨i,j,rfl,q⟩:=h
  obtain ⟨u,w',rfl,⟨t,rfl⟩,⟨t',rfl⟩⟩:=vals2 r
  refine max_two_ints (I.ok.hd hc) fun h' tk k=>⟨_,H,I.kept k,?_,q⟩
  by_cases hj:j > i
  · rw [if_pos hj,if_pos hj]; exact ⟨_,rfl⟩
  · rw [if_neg hj,if_neg hj]; exact ⟨_,rfl⟩
theorem call_min2 (hc:X.calm=true):CallR X (.builtin "min") (fun xs H Q=>∃i j,xs=[.int i,.int j]∧Q (.int (if j<i then j else i)) H):=by
  intro pins s σ H xs us Q I r h
  obtain ⟨i,j,rfl,q⟩:=h
  obtain ⟨u,w',rfl,⟨t,rfl⟩,⟨t',rfl⟩⟩:=vals2 r
  refine min_two_ints (I.ok.hd hc) fun h' tk k=>⟨_,H,I.kept k,?_,q⟩
  by_cases hj:j<i
  · rw [if_pos hj,if_pos hj]; exact ⟨_,rfl⟩
  · rw [if_neg hj,if_neg hj]; exact ⟨_,rfl⟩
theorem call_int1:CallR X (.type "int") (fun xs H Q=>(∃i,xs=[.int i]∧Q (.int i) H)∨∃k,xs=[.bl k]∧Q (.int (if k then 1 else 0)) H):=by
  intro pins s σ H xs us Q I r h
  rcases h with ⟨i,rfl,q⟩ | ⟨k,rfl,q⟩
  · obtain ⟨u,rfl,t,rfl⟩:=vals1 r
    exact call_int_int ⟨.int i,H,I,⟨_,rfl⟩,q⟩
  · obtain ⟨u,rfl,r1⟩:=vals1 r
    cases r1
    exact call_int_bool ⟨.int (if k then 1 else 0),H,I.tok _,⟨_,rfl⟩,q⟩
end
end L2
namespace L2
open PySem PySem.Spec PyProof.Rows
structure ObjM (h:Heap) (x dx C:Addr) (mA:Str→Option Value):Prop where
  obj:h.get? x=some (PySem.W.instObj C dx)
  ns:h.Ns1 dx mA
  ne:dx≠x
theorem lookIn_ns {h:Heap} {dx:Addr} {mA:Str→Option Value} (n:h.Ns1 dx mA):∃od,h.get? dx=some od∧∀name,PySem.W.lookIn name od=some (mA name):=by
  obtain ⟨o,es,ep,ho,hd,hk,_,hm⟩:=n
  refine ⟨o,ho,fun name=>?_⟩
  have e:=hm name
  unfold nsFind findBy at e
  rw [←Array.find?_toList] at e
  unfold PySem.W.lookIn
  rw [hd]
  dsimp only
  split
  · rename_i y q
    rw [q] at e
    exact congrArg some e
  · rename_i q
    rw [q] at e
    have a:es.toList.any (·.refKey)=false:=by
      rw [List.any_eq_false]
      intro y hy
      obtain ⟨z,t,hkey⟩:=hk y (Array.mem_toList_iff.mp hy)
      simp [DictEntry.refKey,hkey]
    have a':¬es.toList.any (·.refKey)=true:=by rw [a]; exact Bool.false_ne_true
    rw [if_neg a']
    exact congrArg some e
theorem ObjM.look {h:Heap} {x dx C:Addr} {mA:Str→Option Value} (I:ObjM h x dx C mA):∃od,PySem.W.InstAt h x (PySem.W.instObj C dx) C (some od)∧∀name,PySem.W.lookIn name od=some (mA name):=
  let ⟨od,ho,hl⟩:=lookIn_ns I.ns
  ⟨od,⟨I.obj,rfl,rfl,ho⟩,hl⟩
section
variable {prog:Program} {w:World} {A:Around} {E:Value→Shared→Prop} {s:Shared} {K:PySem.W.Frag} {x dx C f:Addr} {mA:Str→Option Value} {name:Str} {v:Value}
theorem get_map {expr:Bool} {Q:Value→Shared→Prop} (X:K.In s.heap) (I:ObjM s.heap x dx C mA) (hg:PySem.W.plainGet K C name=true) (hh:PySem.W.hasDictIn K C=true)
    (ha:PySem.W.findIn K (.ref C) name=some none) (hv:mA name=some v) (hv':PySem.W.handedIn v=true) (h:Q v { s with toks:=s.toks+1 }) :
    wpAny (model prog w) A (getAttr (.ref x) name expr) Q E s:=by
  obtain ⟨od,J,hl⟩:=I.look
  exact PySem.W.get_value X J (PySem.W.plainGet_of hg).1 (PySem.W.findObj_own hh ha rfl (by rw [hl,hv])) hv' h
theorem set_map {ns:List Str} {Q:Unit→Shared→Prop} (X:K.In s.heap) (I:ObjM s.heap x dx C mA)
    (hs:PySem.W.findIn K (.ref C) "__setattr__"=some (some (.builtin "object.__setattr__"))) (hp:PySem.W.plainOver K C=true) (ht:PySem.W.takerIn K C name=some none) (hh:PySem.W.hasDictIn K C=true)
    (hw:PySem.Within mA ns) (hsz:ns.length≤sizeLine)
    (h:∀h',ObjM h' x dx C (fun y=>if y=name then some v else mA y)→Heap.SameBut dx s.heap h'→Q () { s with heap:=h',toks:=s.toks+2 }) :
    wpAny (model prog w) A (setAttr (.ref x) name v) Q E s:=by
  obtain ⟨od,J,hl⟩:=I.look
  refine PySem.W.set_plain X J hs (PySem.W.osa_open (s:={ s with toks:=s.toks+1 }) (r:=none) X J hp ht fun b=>?_)
  obtain ⟨cd,hc,hd'⟩:=PySem.W.any_some hh
  have hx:s.heap.get? x=some ⟨.ref C,some dx,.plain,#[]⟩:=I.obj
  refine wpAny_bind (wpAny_pure (wpAny_bind (wpAny_bind (wpAny_loadPart hx (wpAny_bind (PySem.W.Looks.here (s:={ s with toks:=s.toks+1 }) (PySem.W.looks_clsIn X hc) ?_))))))
  rw [hd']
  refine wpAny_pure (a:=some dx) (wpAny_bind (wpAny_pure (wpAny_bind ?_)))
  refine wpAny_nsSet1 (s:={ s with toks:=s.toks+1 }) I.ns fun h' hn2 hs2=>?_
  obtain ⟨oD,esD,epD,hoD,hdD,hcD⟩:=hn2.count (PySem.Within.cons name v hw)
  refine wpAny_bind (wpAny_lookBehind hoD (by rw [hdD]; exact pastItsLine_dict (Nat.le_trans hcD (by rw [List.length_cons]; omega))) ?_)
  exact wpAny_pure (h _ ⟨(hs2.2 _ (Ne.symm I.ne)).trans I.obj,hn2,I.ne⟩ hs2)
theorem make_map {R:Result→Shared→Prop} {vs:List Value} {kw:List (Str×Value)} (X:K.In s.heap) (hm:PySem.W.makesIn K C=true)
    (hi:PySem.W.findIn K (.ref C) "__init__"=some (some (.ref f))) (hf:PySem.W.typeIn K (.ref f)=some (.type "function"))
    (h:codeAny (model prog w) (A.under (.builtin "type.__call__" ⟨.ref C::vs,kw⟩)) (.call (.ref f) ⟨.ref (s.heap.objs.size+1)::vs,kw⟩) (PySem.W.InitBack (s.heap.objs.size+1) R)
      { s with heap:=(s.heap.push PySem.W.emptyDict).push (PySem.W.instObj C s.heap.objs.size) }) :
    codeAny (model prog w) A (.call (.ref C) ⟨vs,kw⟩) R s:=by
  obtain ⟨hh,g,d,t,os⟩:=s
  exact PySem.W.make_core (PySem.W.makes_of X hm) (PySem.W.looks_findIn X hi) (fun self=>PySem.W.bind_fn X self hf) (.inl rfl) h
end
def putF (f:Str) (v:V):List (Str×V)→List (Str×V)
  | []=>[(f,v)]
  | (g,x)::r=>if g=f then (g,v)::r else (g,x)::putF f v r
theorem lookup_putF (f g:Str) (v:V):∀fs:List (Str×V),(putF f v fs).lookup g=if g=f then some v else fs.lookup g
  | []=>by
    show List.lookup g [(f,v)]=_
    by_cases h:g=f
    · have hb:(g == f)=true:=beq_iff_eq.mpr h
      simp only [List.lookup,hb,if_pos h]
    · have hb:(g == f)=false:=beq_eq_false_iff_ne.mpr h
      simp only [List.lookup,hb,if_neg h]
  | (k,x)::r=>by
    have ih:=lookup_putF f g v r
    rw [show putF f v ((k,x)::r)=(if k=f then (k,v)::r else (k,x)::putF f v r) from rfl]
    by_cases hk:k=f
    · rw [if_pos hk]
      by_cases h:g=k
      · have hb:(g == k)=true:=beq_iff_eq.mpr h
        simp only [List.lookup,hb,if_pos (h.trans hk)]
      · have hb:(g == k)=false:=beq_eq_false_iff_ne.mpr h
        simp only [List.lookup,hb,if_neg (fun e:g=f=>h (e.trans hk.symm))]
    · rw [if_neg hk]
      by_cases h:g=k
      · have hb:(g == k)=true:=beq_iff_eq.mpr h
        simp only [List.lookup,hb,if_neg (fun e:g=f=>hk (h.symm.trans e))]
      · have hb:(g == k)=false:=beq_eq_false_iff_ne.mpr h
        simp only [List.lookup,hb]
        exact ih
theorem keys_putF (f:Str) (v:V):∀fs:List (Str×V),f∈(putF f v fs).map (·.1)∧∀g,g∈fs.map (·.1)→g∈(putF f v fs).map (·.1)
  | []=>⟨by simp [putF],fun g h=>by simp at h⟩
  | (k,x)::r=>by
    obtain ⟨i1,i2⟩:=keys_putF f v r
    rw [show putF f v ((k,x)::r)=(if k=f then (k,v)::r else (k,x)::putF f v r) from rfl]
    by_cases hk:k=f
    · rw [if_pos hk]
      subst hk
      exact ⟨by simp,fun g h=>by simpa using h⟩
    · rw [if_neg hk]
      refine ⟨?_,fun g h=>?_⟩
      · rw [List.map_cons]
        exact List.mem_cons_of_mem _ i1
      · rw [List.map_cons] at h ⊢
        rcases List.mem_cons.mp h with e | e
        · exact List.mem_cons.mpr (.inl e)
        · exact List.mem_cons_of_mem _ (i2 g e)
theorem length_putF (f:Str) (v:V):∀fs:List (Str×V),(putF f v fs).length≤fs.length+1
  | []=>by simp [putF]
  | (k,x)::r=>by
    have ih:=length_putF f v r
    rw [show putF f v ((k,x)::r)=(if k=f then (k,v)::r else (k,x)::putF f v r) from rfl]
    by_cases hk:k=f
    · rw [if_pos hk,List.length_cons,List.length_cons]; omega
    · rw [if_neg hk,List.length_cons,List.length_cons]; omega
theorem RelO.some_of {v:V} {o:Option Value} (r:RelO (some v) o):∃u,o=some u∧RelV v u:=by
  cases o with
  | none=>exact (show False from r).elim
  | some u=>exact ⟨u,rfl,r⟩
theorem RelO.none_of {o:Option Value} (r:RelO none o):o=none:=by
  cases o with
  | none=>rfl
  | some u=>exact (show False from r).elim
theorem handed_of {v:V} {u:Value} (r:RelV v u):PySem.W.handedIn u=true:=by
  cases v with
  | non=>cases (show u=Value.none from r); rfl
  | bl b=>cases (show u=Value.bool b from r); rfl
  | int i=>obtain ⟨t,e⟩:=(show ∃t,u=Value.int i t from r); cases e; rfl
  | str x=>obtain ⟨t,e⟩:=(show ∃t,u=Value.str x t from r); cases e; rfl
  | byt b=>obtain ⟨t,e⟩:=(show ∃t,u=Value.bytes b t from r); cases e; rfl
  | flt b=>obtain ⟨t,e⟩:=(show ∃t,u=Value.float b t from r); cases e; rfl
  | ref a=>cases (show u=Value.ref a from r); rfl
  | ty n=>cases (show u=Value.type n from r); rfl
section
variable {P:Program} {w:World} {H H':Hp} {h h':Heap} {a C dx:Addr} {fs fs':List (Str×V)}
theorem ins_get (hok:HOk P w H h) (e:H a=some (.ins C dx fs)):∃mA,ObjM h a dx C mA∧(∀f,RelO (fs.lookup f) (mA f))∧PySem.Within mA (fs.map (·.1))∧fs.length≤1000∧H dx=some (.own a):=by
  obtain ⟨d,z,ne,ob,mA,n,r,q⟩:=(show ObjOk P w H h a (.ins C dx fs) from hok a _ e)
  exact ⟨mA,⟨ob,n,ne⟩,r,q,z,d⟩
end
structure Cls (K:PySem.W.Frag) (C:Addr):Prop where
  pg:PySem.W.plainGet K C Str.empty=true
  hd:PySem.W.hasDictIn K C=true
  po:PySem.W.plainOver K C=true
  sa:PySem.W.findIn K (.ref C) "__setattr__"=some (some (.builtin "object.__setattr__"))
theorem Cls.get {K:PySem.W.Frag} {C:Addr} (c:Cls K C) (f:Str):PySem.W.plainGet K C f=true:=c.pg
def NoAttr (K:PySem.W.Frag) (C:Addr) (f:Str):Prop:=PySem.W.findIn K (.ref C) f=some none
theorem NoAttr.taker {K:PySem.W.Frag} {C:Addr} {f:Str} (n:NoAttr K C f):PySem.W.takerIn K C f=some none:=by
  unfold PySem.W.takerIn
  rw [show PySem.W.findIn K (.ref C) f=some none from n]
  rfl
structure Con (K:PySem.W.Frag) (C:Addr) (f:Str) (v:V) (u:Value):Prop where
  at_:PySem.W.findIn K (.ref C) f=some (some u)
  rel:RelV v u
  get:PySem.W.specialIn K u "__get__"=some none
  cp:PySem.W.copiedNames.contains f=false
structure Meth (K:PySem.W.Frag) (C:Addr) (m:Str) (f:Addr):Prop where
  at_:PySem.W.findIn K (.ref C) m=some (some (.ref f))
  fn:PySem.W.isFn K (.ref f)=true
  kp:PySem.W.keepIn K (.ref f)=true
section
variable {X:Cx} {pins:List (Addr×Obj)} {σ:St} {H:Hp} {s:Shared} {a C dx:Addr} {fs:List (Str×V)} {f:Str} {v:V} {A:Around} {E:Value→Shared→Prop}
theorem getattr_ok {b:Bool} {Q:Value→Shared→Prop} (I:Inv X pins σ H s) (e:H a=some (.ins C dx fs)) (c:Cls X.K C) (n:NoAttr X.K C f) (l:fs.lookup f=some v)
    (h:∀u s',Inv X pins σ H s'→RelV v u→Q u s'):wpAny (model X.prog X.w) A (getAttr (.ref a) f b) Q E s:=by
  obtain ⟨mA,O,r,_,_,_⟩:=ins_get I.hok e
  obtain ⟨u,hu,ru⟩:=RelO.some_of (v:=v) (o:=mA f) (by rw [←l]; exact r f)
  exact get_map I.kIn O (c.get f) c.hd n hu (handed_of ru) (h u _ (I.tok _) ru)
theorem setattr_ok {y:V} {u:Value} {Q:Unit→Shared→Prop} (I:Inv X pins σ H s) (e:H a=some (.ins C dx fs)) (c:Cls X.K C) (n:NoAttr X.K C f) (hl:fs.length<1000) (ry:RelV y u)
    (h:∀s',Inv X pins σ (upd H a (.ins C dx (putF f y fs))) s'→Q () s'):wpAny (model X.prog X.w) A (setAttr (.ref a) f u) Q E s:=by
  obtain ⟨mA,O,r,wi,_,ho⟩:=ins_get I.hok e
  have hz:(fs.map (·.1)).length≤sizeLine:=by rw [List.length_map,sizeLine_eq]; omega
  refine set_map I.kIn O c.sa c.po n.taker c.hd wi hz fun h' O' sb=>h _ ?_
  have hd:∃o,h'.get? dx=some o:=let ⟨o,_,_,e',_⟩:=O'.ns; ⟨o,e'⟩
  refine I.write (x:=a) (e:=dx) (by rw [e]; exact True.intro) (.inr ho) (fun b q hb z=>(sb.2 b hb).trans z) hd ?_
  refine ⟨by rw [upd_ne O.ne]; exact ho,?_,O.ne,O'.obj,_,O'.ns,fun g=>?_,fun g hg=>?_⟩
  · have:=length_putF f y fs; omega
  · show RelO ((putF f y fs).lookup g) (if g=f then some u else mA g)
    rw [lookup_putF]
    by_cases q:g=f
    · rw [if_pos q,if_pos q]; exact ry
    · rw [if_neg q,if_neg q]; exact r g
  · by_cases q:g=f
    · rw [q]; exact (keys_putF f y fs).1
    · refine (keys_putF f y fs).2 g (wi g fun z=>hg ?_)
      show (if g=f then some u else mA g)=none
      rw [if_neg q]; exact z
theorem Inv.made (I:Inv X pins σ H s):Inv X pins σ (upd (upd H s.heap.objs.size (.own (s.heap.objs.size+1))) (s.heap.objs.size+1) (.ins C s.heap.objs.size []))
    { s with heap:=(s.heap.push PySem.W.emptyDict).push (PySem.W.instObj C s.heap.objs.size) }:=by
  have e1:(s.heap.push PySem.W.emptyDict).get? s.heap.objs.size=some PySem.W.emptyDict:=Heap.get?_push_size s.heap rfl
  have e2:((s.heap.push PySem.W.emptyDict).push (PySem.W.instObj C s.heap.objs.size)).get? (s.heap.objs.size+1)=some (PySem.W.instObj C s.heap.objs.size):=by
    have:=Heap.get?_push_size (s.heap.push PySem.W.emptyDict) (o:=PySem.W.instObj C s.heap.objs.size) rfl
    rwa [Heap.size_push] at this
  have e3:(s.heap.push PySem.W.emptyDict).Ns s.heap.objs.size (fun _=>none):=⟨PySem.W.emptyDict,#[],_,e1,rfl,(fun e he=>absurd he (by simp)),fun _=>rfl⟩
  have I1:=I.laid (a:=s.heap.objs.size) (o:=.own (s.heap.objs.size+1)) (h':=s.heap.push PySem.W.emptyDict) (t':=s.toks) (fun b u q=>Heap.get?_push_of_some _ q) (Nat.le_refl _) ⟨_,e1⟩
  refine I1.laid (a:=s.heap.objs.size+1) (o:=.ins C s.heap.objs.size []) (t':=s.toks) (fun b u q=>Heap.get?_push_of_some _ q) (Nat.le_of_eq (Heap.size_push _ _)) ?_
  have ne:s.heap.objs.size≠s.heap.objs.size+1:=Nat.ne_of_lt (Nat.lt_succ_self _)
  refine ⟨by rw [upd_ne ne,upd_same],Nat.zero_le _,ne,e2,fun _=>none,(Heap.Ns1.of_empty e3).at fun o q=>Heap.get?_push_of_some _ q,fun _=>True.intro,fun y hy=>absurd rfl hy⟩
theorem attr_of {prog:Program} {w:World} {env:Env} {e:Expr} {f:Str} {pos:Pos} {s:Shared} {Q:Value→Shared→Prop} (hb:attributeBase e f env (eval e env)=eval e env)
    (h:wpAny (model prog w) A (eval e env) (fun o s₁=>wpAny (model prog w) A (getAttr o f true) Q E s₁) E s):wpAny (model prog w) A (eval (.Attribute e f pos) env) Q E s:=
  Attribute_any_ h (by rw [arm_eval_Attribute,hb])
end
def tFld (K:PySem.W.Frag) (ta:TE) (f:Str):TE:=fun σ H Q=>ta σ H fun x H1=>∃a C dx fs v,x=.ref a∧H1 a=some (.ins C dx fs)∧Cls K C∧NoAttr K C f∧fs.lookup f=some v∧Q v H1
def sFld (K:PySem.W.Frag) (ta tv:TE) (f:Str):TS:=fun D σ H=>tv σ H fun y H1=>ta σ H1 fun x H2=>∃a C dx fs,x=.ref a∧H2 a=some (.ins C dx fs)∧Cls K C∧NoAttr K C f∧fs.length<1000∧
  D.nx σ (upd H2 a (.ins C dx (putF f y fs)))
section
variable {X:Cx} {o e value:Expr} {f:Str} {pos pos' tpos:Pos} {ta tv:TE}
theorem pe_fld (he:PE X e ta) (hb:attributeBase e f X.env (eval e X.env)=eval e X.env):PE X (.Attribute e f pos) (tFld X.K ta f):=by
  intro pins s σ H Q I h
  refine attr_of hb (thn (he pins s σ H _ I h) fun u s1 ⟨x,H1,I1,rx,a,C,dx,fs,v,ex,ea,c,n,l,q⟩=>?_)
  subst ex
  obtain rfl:u=Value.ref a:=rx
  exact getattr_ok I1 ea c n l fun u' s2 I2 ru=>⟨v,H1,I2,ru,q⟩
theorem ps_fld (ha:PE X o ta) (hv:PE X value tv) (hs:swapsWith value (some (.Attribute o f pos')) pos.line X.env=pure false):PS X (.Assign [.Attribute o f pos'] value pos) (sFld X.K ta tv f):=by
  intro pins s σ H D I h
  refine plainObj_wpAny_Assign_Attribute (thn (hv pins s σ H _ I h) fun u s1 ⟨y,H1,I1,ry,q⟩=>thn (ha pins s1 σ H1 _ I1 q) fun ov s2 ⟨x,H2,I2,rx,a,C,dx,fs,ex,ea,c,n,l,q2⟩=>?_) hs
  subst ex
  obtain rfl:ov=Value.ref a:=rx
  exact setattr_ok I2 ea c n l ry fun s3 I3=>⟨σ,_,I3,q2⟩
end
section
variable {X:Cx} {pins:List (Addr×Obj)} {σ:St} {H:Hp} {s:Shared} {A:Around} {E:Value→Shared→Prop} {Q:Value→Shared→Prop} {c:Value} {b:Bool}
inductive TyOf (K:PySem.W.Frag) (H:Hp):V→Value→Prop where
  | non:TyOf K H .non (.type "NoneType")
  | bl (x:Bool):TyOf K H (.bl x) (.type "bool")
  | int (i:Int):TyOf K H (.int i) (.type "int")
  | str (x:Str):TyOf K H (.str x) (.type "str")
  | flt (x:UInt64):TyOf K H (.flt x) (.type "float")
  | lst {a:Addr} {xs:List V} (e:H a=some (.lst xs)):TyOf K H (.ref a) (.type "list")
  | frz {a:Addr} {o:Obj} {xs:List V} (e:H a=some (.frz o (.lst xs))):TyOf K H (.ref a) (.type "list")
  | tup {a:Addr} {xs:List V} (e:H a=some (.tup xs)):TyOf K H (.ref a) (.type "tuple")
  | dK {a:Addr} {kvs:List (Key×V)} (e:H a=some (.dK kvs)):TyOf K H (.ref a) (.type "dict")
  | dT {a:Addr} {kvs:List (List Key×V)} (e:H a=some (.dT kvs)):TyOf K H (.ref a) (.type "dict")
  | ins {a C dx:Addr} {fs:List (Str×V)} (e:H a=some (.ins C dx fs)) (cl:Cls K C) (ha:PySem.W.findIn K (.ref C) "__class__"=some (some (.builtin "object.__class__")))
      (hn:PySem.W.specialIn K (.builtin "object.__class__") "__get__"=some (some (.builtin "getset_descriptor.__get__"))) (htk:PySem.W.takesIn K (.builtin "object.__class__")=some true)
      (hm:PySem.W.mroIn K C (.type "object")=some true):TyOf K H (.ref a) (.ref C)
end
end L2
namespace L2
open PySem PySem.Spec PyProof.Rows
structure Room (k:Nat) (A:Around):Prop where
  hd:A.handled=none
  dp:A.depth+3*k+5<recursionLimit
  un:A.units+16*k+200<cLine
theorem Room.mono {j k:Nat} {A:Around} (r:Room k A) (h:j≤k):Room j A:=⟨r.hd,by have:=r.dp; omega,by have:=r.un; omega⟩
theorem Room.deeper {k:Nat} {A:Around} (r:Room (k+1) A) (env:Env):Room k (A.deeper env):=
  ⟨r.hd,by have:=r.dp; show A.depth+1+3*k+5<_; omega,by have:=r.un; show A.units+3+16*k+200<_; omega⟩
theorem Room.in1 {k:Nat} {A:Around} (r:Room (k+1) A):Room k A.in1:=
  ⟨r.hd,by have:=r.dp; show A.depth+3*k+5<_; omega,by have:=r.un; show A.units+1+16*k+200<_; omega⟩
theorem make_depth {A:Around} {C:Addr} {us:List Value} {kw:List (Str×Value)}:(A.under (.builtin "type.__call__" ⟨.ref C::us,kw⟩)).depth=A.depth+1:=by
  first | rfl | simp [Around.under,Code.weight,Code.isCreation,Code.isGuard,Code.isCaller,Code.frames,Code.isFrame,guardIds]
theorem make_units {A:Around} {C:Addr} {us:List Value} {kw:List (Str×Value)}:(A.under (.builtin "type.__call__" ⟨.ref C::us,kw⟩)).units=A.units+1:=by
  first | rfl | simp [Around.under,Code.cUnits,Code.frames,Code.isFrame]
theorem Room.make {k:Nat} {A:Around} (r:Room (k+1) A) (C:Addr) (us:List Value) (kw:List (Str×Value)):Room k (A.under (.builtin "type.__call__" ⟨.ref C::us,kw⟩)):=
  ⟨r.hd,by have:=r.dp; rw [make_depth]; omega,by have:=r.un; rw [make_units]; omega⟩
theorem Room.depth {k:Nat} {A:Around} (r:Room k A):A.depth<recursionLimit:=by have:=r.dp; omega
theorem Room.units {k:Nat} {A:Around} (r:Room k A):A.units+64<cLine:=by have:=r.un; omega
def tNil:TA:=fun _ H Q=>Q [] H
def tCons (ta:TE) (tr:TA):TA:=fun σ H Q=>ta σ H fun x H1=>tr σ H1 fun xs H2=>Q (x::xs) H2
section
variable {X:Cx} {e:Expr} {es:List Expr} {te:TE} {t:TA} {pos:Pos}
theorem pa_nil:PA X [] tNil:=fun _ _ _ _ H Q I h=>Calls.spliced_nil ⟨[],H,I,.nil,h⟩
theorem pa_cons (ha:PE X e te) (hr:PA X es t) (hs:starEach (e::es) X.env=(false,eval e X.env)::starEach es X.env:=by rfl):PA X (e::es) (tCons te t):=by
  intro pos pins s σ H Q I h
  rw [hs]
  show wpAny _ _ (spliced ((false,eval e X.env)::backTo pos (starEach es X.env))) _ _ s
  refine Calls.spliced_cons (thn (ha pins s σ H _ I h) fun u s1 ⟨x,H1,I1,r1,q1⟩=>?_)
  exact thn (hr pos pins s1 σ H1 _ I1 q1) fun us s2 ⟨xs,H2,I2,r2,q2⟩=>⟨x::xs,H2,I2,.cons r1 r2,q2⟩
def tTup (t:TA):TE:=fun σ H Q=>t σ H fun xs H1=>xs.length≤sizeLine∧∀p,H1 p=none→Q (.ref p) (upd H1 p (.tup xs))
def tLst (t:TA):TE:=fun σ H Q=>t σ H fun xs H1=>xs.length≤sizeLine∧∀p,H1 p=none→Q (.ref p) (upd H1 p (.lst xs))
theorem pe_tup {x1} (h:PA X es t):PE X (.Tuple es x1 pos) (tTup t):=by
  intro pins s σ H Q I hq
  refine wpAny_Tuple_spliced (thn (h pos pins s σ H _ I hq) fun us s1 ⟨xs,H1,I1,r,z,q⟩=>⟨by rw [←r.length]; exact z,?_⟩)
  have hf:H1 s1.heap.objs.size=none:=I1.hok.fresh (Nat.le_refl _)
  refine ⟨.ref s1.heap.objs.size,upd H1 s1.heap.objs.size (.tup xs),I1.laid (t':=s1.toks) (fun b u e=>Heap.get?_push_of_some _ e) (Nat.le_refl _) ?_,rfl,q _ hf⟩
  exact ⟨z,us,r,⟨_,Heap.get?_push_size _ rfl,rfl,_,rfl⟩⟩
theorem pe_lst (h:PA X es t):PE X (.List es pos) (tLst t):=by
  intro pins s σ H Q I hq
  refine wpAny_List_spliced (thn (h pos pins s σ H _ I hq) fun us s1 ⟨xs,H1,I1,r,z,q⟩=>⟨by rw [←r.length]; exact z,?_⟩)
  have hf:H1 s1.heap.objs.size=none:=I1.hok.fresh (Nat.le_refl _)
  refine ⟨.ref s1.heap.objs.size,upd H1 s1.heap.objs.size (.lst xs),I1.laid (t':=s1.toks) (fun b u e=>Heap.get?_push_of_some _ e) (Nat.le_refl _) ?_,rfl,q _ hf⟩
  exact ⟨z,us,0,r,Heap.get?_push_size _ rfl⟩
end
abbrev Sp:=List V→Hp→VK→XK→Prop
abbrev CXT:=List Env→Hp→Shared→XK→Value→Shared→Prop
structure Env0 (P:Program) (w:World) (K:PySem.W.Frag) (mg:Str→Option Value) (base:Heap) (A:Around) (outer:List Env) (s:Shared) (H:Hp):Prop where
  frames:A.frames=some outer
  mod:Mod K mg base
  bs:∀b o,base.get? b=some o→s.heap.get? b=some o∧H b=none
  bsz:base.objs.size≤s.heap.objs.size
  funs:s.heap.FunFrames base outer
  frf:∀b∈frs outer,H b=none
  hok:HOk P w H s.heap
  bare:AllBare s.gens
def CE (outer:List Env) (P:Program) (w:World) (H:Hp) (s:Shared) (Q:VK) (u:Value) (s':Shared):Prop:=
  ∃v H',s'.os=s.os∧AllBare s'.gens∧Un (frs outer) [] H H' s.heap s'.heap∧HOk P w H' s'.heap∧RelV v u∧Q v H'
def CR (CX:CXT) (outer:List Env) (P:Program) (w:World) (H:Hp) (s:Shared) (Q:VK) (E:XK) (r:Result) (s':Shared):Prop:=
  match r with
  | .ok (.ret u)=>CE outer P w H s Q u s'
  | .ok _=>False
  | .error e=>CX outer H s E e s'
structure FnOk (P:Program) (w:World) (K:PySem.W.Frag) (mg:Str→Option Value) (base:Heap) (CX:CXT) (k:Nat) (f:Addr) (fd:FuncData) (ps:List Str) (sp:Sp):Prop where
  len:∀vs H Q E,sp vs H Q E→vs.length=ps.length
  run:∀(A:Around) (outer:List Env) (s:Shared) (H:Hp) (args:Args) (us:List Value) (vs:List V) (Q:VK) (E:XK),Room k A→Env0 P w K mg base A outer s H→BindsTo s fd args (ps.zip us)→Vals vs us→sp vs H Q E→
    codeAny (model P w) A (.call (.ref f) args) (CR CX outer P w H s Q E) s
theorem FnOk.mono {P:Program} {w:World} {K:PySem.W.Frag} {mg:Str→Option Value} {base:Heap} {CX:CXT} {j k:Nat} {f:Addr} {fd:FuncData} {ps:List Str} {sp:Sp} (F:FnOk P w K mg base CX j f fd ps sp) (h:j≤k) :
    FnOk P w K mg base CX k f fd ps sp:=⟨F.len,fun A outer s H args us vs Q E hr=>F.run A outer s H args us vs Q E (hr.mono h)⟩
theorem FnOk.imp {P:Program} {w:World} {K:PySem.W.Frag} {mg:Str→Option Value} {base:Heap} {CX:CXT} {k:Nat} {f:Addr} {fd:FuncData} {ps:List Str} {sp sp':Sp} (F:FnOk P w K mg base CX k f fd ps sp)
    (h:∀vs H Q E,sp' vs H Q E→sp vs H Q E):FnOk P w K mg base CX k f fd ps sp':=
  ⟨fun vs H Q E q=>F.len vs H Q E (h _ _ _ _ q),fun A outer s H args us vs Q E hr he hb hv hs=>F.run A outer s H args us vs Q E hr he hb hv (h _ _ _ _ hs)⟩
theorem Env0.make {P:Program} {w:World} {K:PySem.W.Frag} {mg:Str→Option Value} {base:Heap} {A:Around} {outer:List Env} {s:Shared} {H:Hp} (e:Env0 P w K mg base A outer s H) (C:Addr) (us:List Value) (kw:List (Str×Value)) :
    Env0 P w K mg base (A.under (.builtin "type.__call__" ⟨.ref C::us,kw⟩)) outer s H:=⟨by first | exact e.frames | (simpa [Around.under,Code.envs,Code.isFrame,pushEnvs] using e.frames),e.mod,e.bs,e.bsz,e.funs,e.frf,e.hok,e.bare⟩
theorem Env0.in1 {P:Program} {w:World} {K:PySem.W.Frag} {mg:Str→Option Value} {base:Heap} {A:Around} {outer:List Env} {s:Shared} {H:Hp} (e:Env0 P w K mg base A outer s H) :
    Env0 P w K mg base A.in1 outer s H:=⟨e.frames,e.mod,e.bs,e.bsz,e.funs,e.frf,e.hok,e.bare⟩
section
variable {X:Cx} {pins:List (Addr×Obj)} {σ:St} {H:Hp} {s s':Shared}
theorem Inv.env0 (I:Inv X pins σ H s):Env0 X.prog X.w X.K X.mg X.base X.A X.stack s H:=
  ⟨I.ok.frames,I.ok.mod,I.bs,Nat.le_trans I.ok.bsz I.sz,I.stack,I.stkFree,I.hok,I.bare⟩
theorem Inv.after {Q:VK} {u:Value} (I:Inv X pins σ H s) (h:CE X.stack X.prog X.w H s Q u s'):EP X pins σ Q u s':=by
  obtain ⟨v,H',os,bare,un,hok,r,q⟩:=h
  obtain ⟨hh,g,d,t,os'⟩:=s'
  obtain rfl:os'=s.os:=os
  exact ⟨v,H',I.call (h':=hh) (g':=g) (d':=d) (t':=t) (ch:=[]) un hok bare (fun b z=>absurd z (by simp)),r,q⟩
end
def tCall (sp:Sp) (dvs:List V) (E:XK) (t:TA):TE:=fun σ H Q=>t σ H fun vs H1=>sp (vs++dvs) H1 Q E
def tMake (C:Addr) (sp:Sp) (dvs:List V) (E:XK) (t:TA):TE:=fun σ H Q=>t σ H fun vs H1=>∀x dx,H1 x=none→H1 dx=none→dx≠x→
  sp (.ref x::(vs++dvs)) (upd (upd H1 dx (.own x)) x (.ins C dx [])) (fun v H2=>v=.non∧Q (.ref x) H2) E
def Binds (K:PySem.W.Frag) (fd:FuncData) (ps:List Str) (ds:List Value):Prop:=
  ∀(s:Shared) (us:List Value),K.In s.heap→(us++ds).length=ps.length→BindsTo s fd ⟨us,[]⟩ (ps.zip (us++ds))
theorem Binds.all {K:PySem.W.Frag} {fd:FuncData} {ps:List Str} (h:∀us:List Value,us.length=ps.length→bindArgs fd ⟨us,[]⟩=pure (ps.zip us)):Binds K fd ps []:=fun s us _ hl=>by
  rw [List.append_nil] at hl ⊢
  exact .of_eq (h us hl)
def Passes (CX:CXT) (X:Cx) (E:XK):Prop:=∀(pins:List (Addr×Obj)) (σ:St) (H:Hp) (s:Shared) (e:Value) (s':Shared),Inv X pins σ H s→CX X.stack H s E e s'→X.xe e s'
section
variable {X:Cx} {CX:CXT} {k:Nat} {f C:Addr} {fd:FuncData} {ps:List Str} {sp:Sp} {dvs:List V} {ds:List Value} {E:XK} {x m:Str} {p pos apos:Pos} {e o:Expr} {es:List Expr} {ta:TE} {t:TA}
theorem run_fn {pins:List (Addr×Obj)} {σ:St} {H:Hp} {s:Shared} {Q:VK} {us:List Value} {vs:List V} (F:FnOk X.prog X.w X.K X.mg X.base CX k f fd ps sp) (hr:Room k X.A) (hb:Binds X.K fd ps ds) (hd:Vals dvs ds) (hx:Passes CX X E)
    (I:Inv X pins σ H s) (r:Vals vs us) (h:sp (vs++dvs) H Q E):wpAny (model X.prog X.w) X.A (call (.ref f) us) (EP X pins σ Q) X.xe s:=by
  have r2:Vals (vs++dvs) (us++ds):=r.append hd
  have hl:(us++ds).length=ps.length:=by rw [←r2.length]; exact F.len _ _ _ _ h
  refine wpAny_call (codeAny_mono (F.run X.A X.stack s H ⟨us,[]⟩ (us++ds) (vs++dvs) Q E hr I.env0 (hb s us I.kIn hl) r2 h) fun r s' hq=>?_)
  cases r with
  | error e=>exact hx pins σ H s e s' I hq
  | ok fl=>
    cases fl with
    | ret u=>exact I.after hq
    | next=>exact False.elim hq
    | brk=>exact False.elim hq
    | cont=>exact False.elim hq
theorem pe_call (F:FnOk X.prog X.w X.K X.mg X.base CX k f fd ps sp) (hr:Room k X.A) (hg:Gl X x) (hm:X.mg x=some (.ref f)) (hk:PySem.W.keepIn X.K (.ref f)=true) (hb:Binds X.K fd ps ds) (hd:Vals dvs ds) (hx:Passes CX X E)
    (ha:PA X (e::es) t) (hdb:(x == ("__debug__":Str))=false:=by decide) (he:starEach (e::es) X.env=(false,eval e X.env)::starEach es X.env:=by rfl) (hpl:(backTo pos (starEach es X.env)).any (·.1)=false:=by rfl) :
    PE X (.Call (.Name x p) (e::es) [] pos) (tCall sp dvs E t):=by
  intro pins s σ H Q I h
  refine wpAny_Call_Name_kw (ld_glob I hg hm ?_ hdb)
  refine PySem.W.callWith_K (h₀:=X.base) I.ok.mod.kin hk (thn (ha pos pins s σ H _ I h) fun us s1 ⟨vs,H1,I1,r,q⟩=>⟨I1.kIn,?_⟩) he hpl
  exact run_fn F hr hb hd hx I1 r q
structure Mk (K:PySem.W.Frag) (C f:Addr):Prop where
  makes:PySem.W.makesIn K C=true
  init:PySem.W.findIn K (.ref C) "__init__"=some (some (.ref f))
  fn:PySem.W.isFn K (.ref f)=true
  kp:PySem.W.keepIn K (.ref C)=true
theorem run_make {pins:List (Addr×Obj)} {σ:St} {H:Hp} {s:Shared} {Q:VK} {us:List Value} {vs:List V} (M:Mk X.K C f) (F:FnOk X.prog X.w X.K X.mg X.base CX k f fd ps sp) (hr:Room (k+1) X.A) (hb:Binds X.K fd ps ds) (hd:Vals dvs ds)
    (hx:Passes CX X E) (I:Inv X pins σ H s) (r:Vals vs us)
    (h:∀x dx,H x=none→H dx=none→dx≠x→sp (.ref x::(vs++dvs)) (upd (upd H dx (.own x)) x (.ins C dx [])) (fun v H2=>v=.non∧Q (.ref x) H2) E) :
    wpAny (model X.prog X.w) X.A (call (.ref C) us) (EP X pins σ Q) X.xe s:=by
  have hq:=h (s.heap.objs.size+1) s.heap.objs.size (I.hok.fresh (Nat.le_succ _)) (I.hok.fresh (Nat.le_refl _)) (Nat.ne_of_lt (Nat.lt_succ_self _))
  have I2:=Inv.made (C:=C) I
  have r2:Vals (V.ref (s.heap.objs.size+1)::(vs++dvs)) (Value.ref (s.heap.objs.size+1)::(us++ds)):=.cons rfl (r.append hd)
  have hl:(Value.ref (s.heap.objs.size+1)::us++ds).length=ps.length:=by
    have e:=r2.length
    rw [F.len _ _ _ _ hq] at e
    exact e.symm
  refine wpAny_call (make_map (f:=f) I.kIn M.makes M.init (beq_iff_eq.mp M.fn) (codeAny_mono (F.run _ X.stack _ _ ⟨Value.ref (s.heap.objs.size+1)::us,[]⟩ (Value.ref (s.heap.objs.size+1)::(us++ds)) _ _ E (hr.make C us [])
    (I2.env0.make C us []) (hb _ (Value.ref (s.heap.objs.size+1)::us) I2.kIn hl) r2 hq) fun r s' hq'=>?_))
  cases r with
  | error e=>exact hx pins σ _ _ e s' I2 hq'
  | ok fl=>
    cases fl with
    | ret u=>
      obtain ⟨v,H',I3,rv,ev,q3⟩:=I2.after hq'
      subst ev
      exact ⟨rv,⟨V.ref (s.heap.objs.size+1),H',I3,rfl,q3⟩⟩
    | next=>exact False.elim hq'
    | brk=>exact False.elim hq'
    | cont=>exact False.elim hq'
theorem pe_make (M:Mk X.K C f) (F:FnOk X.prog X.w X.K X.mg X.base CX k f fd ps sp) (hr:Room (k+1) X.A) (hg:Gl X x) (hm:X.mg x=some (.ref C)) (hb:Binds X.K fd ps ds) (hd:Vals dvs ds) (hx:Passes CX X E)
    (ha:PA X (e::es) t) (hdb:(x == ("__debug__":Str))=false:=by decide) (he:starEach (e::es) X.env=(false,eval e X.env)::starEach es X.env:=by rfl) (hpl:(backTo pos (starEach es X.env)).any (·.1)=false:=by rfl) :
    PE X (.Call (.Name x p) (e::es) [] pos) (tMake C sp dvs E t):=by
  intro pins s σ H Q I h
  refine wpAny_Call_Name_kw (ld_glob I hg hm ?_ hdb)
  refine PySem.W.callWith_K (h₀:=X.base) I.ok.mod.kin M.kp (thn (ha pos pins s σ H _ I h) fun us s1 ⟨vs,H1,I1,r,q⟩=>⟨I1.kIn,?_⟩) he hpl
  exact run_make M F hr hb hd hx I1 r q
theorem pe_make0 (M:Mk X.K C f) (F:FnOk X.prog X.w X.K X.mg X.base CX k f fd ps sp) (hr:Room (k+1) X.A) (hg:Gl X x) (hm:X.mg x=some (.ref C)) (hb:Binds X.K fd ps ds) (hd:Vals dvs ds) (hx:Passes CX X E)
    (hdb:(x == ("__debug__":Str))=false:=by decide):PE X (.Call (.Name x p) [] [] pos) (tMake C sp dvs E tNil):=by
  intro pins s σ H Q I h
  refine wpAny_Call_Name_kw (ld_glob I hg hm ?_ hdb)
  exact PySem.W.callWith_K0 I.kIn M.kp (run_make (us:=[]) M F hr hb hd hx I .nil h)
end
section
variable {X:Cx} {CX:CXT} {k:Nat} {f C:Addr} {fd:FuncData} {ps ks:List Str} {sp:Sp} {E:XK} {x m:Str} {p pos apos kpos:Pos} {e o:Expr} {es:List Expr} {kws:List Keyword} {te ta:TE} {t tk:TA} {nm:Option Str}
structure KBinds (K:PySem.W.Frag) (fd:FuncData) (ps ks:List Str) (g:List Value→List Value→List Value) (gV:List V→List V→List V):Prop where
  to:∀(s:Shared) (us ws:List Value),K.In s.heap→(g us ws).length=ps.length→BindsTo s fd ⟨us,ks.zip ws⟩ (ps.zip (g us ws))
  rel:∀{vs:List V} {us:List Value} {zs:List V} {ws:List Value},Vals vs us→Vals zs ws→Vals (gV vs zs) (g us ws)
variable {g:List Value→List Value→List Value} {gV:List V→List V→List V}
end
structure FnScope (N P:List Str) (sc:Scope):Prop where
  kind:sc.kind=.function
  co:sc.isCoroutine=false
  gen:sc.isGenerator=false
  nd:N.Nodup
  pre:N.take P.length=P
  par:∀x∈P,sc.names.lookup x=some .local∨sc.names.lookup x=some .cell
  nofree:∀y∈sc.names,y.2≠.free
theorem bindL_out {kindOf:Str→Option NameKind} {x:Str}:∀{binds:List (Str×Value)} {m:Str→Option Value},(∀v,(x,v)∉binds)→bindL kindOf binds m x=m x
  | [],_,_=>rfl
  | (n,v)::r,m,h=>by
    unfold bindL
    rw [bindL_out fun w hw=>h w (List.mem_cons_of_mem _ hw)]
    split
    · have:x≠n:=by rintro rfl; exact h v List.mem_cons_self
      simp [this]
    · rfl
theorem bindC_out {kindOf:Str→Option NameKind} {x:Str}:∀{binds:List (Str×Value)} {m:Str→Option Value},(∀v,(x,v)∉binds)→bindC kindOf binds m x=m x
  | [],_,_=>rfl
  | (n,v)::r,m,h=>by
    unfold bindC
    rw [bindC_out fun w hw=>h w (List.mem_cons_of_mem _ hw)]
    split
    · rfl
    · have:x≠n:=by rintro rfl; exact h v List.mem_cons_self
      simp [this]
theorem bindL_get {kindOf:Str→Option NameKind} {x:Str} {v:Value}:∀{P:List Str} {vs:List Value} {i:Nat} {m:Str→Option Value},P.Nodup→P[i]?=some x→vs[i]?=some v→kindOf x=some .local→
    bindL kindOf (P.zip vs) m x=some v
  | [],_,_,_,_,h,_,_=>by simp at h
  | _::_,[],_,_,_,_,h,_=>by simp at h
  | p::P,w::vs,0,m,nd,h1,h2,hk=>by
    simp at h1 h2; subst h1; subst h2
    show bindL kindOf ((p,w)::P.zip vs) m p=_
    unfold bindL
    rw [bindL_out fun v hv=>(List.nodup_cons.mp nd).1 (List.of_mem_zip hv).1,if_pos hk]
    simp
  | p::P,w::vs,i+1,m,nd,h1,h2,hk=>by
    show bindL kindOf ((p,w)::P.zip vs) m x=_
    unfold bindL
    exact bindL_get (i:=i) (List.nodup_cons.mp nd).2 (by simpa using h1) (by simpa using h2) hk
theorem bindC_get {kindOf:Str→Option NameKind} {x:Str} {v:Value}:∀{P:List Str} {vs:List Value} {i:Nat} {m:Str→Option Value},P.Nodup→P[i]?=some x→vs[i]?=some v→kindOf x≠some .local→
    bindC kindOf (P.zip vs) m x=some v
  | [],_,_,_,_,h,_,_=>by simp at h
  | _::_,[],_,_,_,_,h,_=>by simp at h
  | p::P,w::vs,0,m,nd,h1,h2,hk=>by
    simp at h1 h2; subst h1; subst h2
    show bindC kindOf ((p,w)::P.zip vs) m p=_
    unfold bindC
    rw [bindC_out fun v hv=>(List.nodup_cons.mp nd).1 (List.of_mem_zip hv).1,if_neg hk]
    simp
  | p::P,w::vs,i+1,m,nd,h1,h2,hk=>by
    show bindC kindOf ((p,w)::P.zip vs) m x=_
    unfold bindC
    exact bindC_get (i:=i) (List.nodup_cons.mp nd).2 (by simpa using h1) (by simpa using h2) hk
def start (N:List Str) (vs:List V):St:=vs.map some++List.replicate (N.length-vs.length) none
def cxOf (CX:CXT) (P:Program) (w:World) (K:PySem.W.Frag) (mg:Str→Option Value) (base:Heap) (N:List Str) (qual:Str) (scope:Scope) (f:Addr) (cd:Value) (A:Around) (outer:List Env) (s:Shared) (H:Hp) (E:XK):Cx where
  prog:=P
  w:=w
  K:=K
  mg:=mg
  base:=base
  A:=A.deeper (envOfC qual scope s.heap.objs.size f cd)
  N:=N
  s₀:=s
  H₀:=H
  env:=envOfC qual scope s.heap.objs.size f cd
  outer:=outer
  stack:=envOfC qual scope s.heap.objs.size f cd::outer
  ex:=[]
  calm:=true
  fn:=fun _=>true
  pn:=[]
  xe:=fun e s'=>wpAny (model P w) (A.deeper (envOfC qual scope s.heap.objs.size f cd)) (leaving (envOfC qual scope s.heap.objs.size f cd) e) (fun _ s''=>CX outer H s E e s'') (fun e' s''=>CX outer H s E e' s'') s'
theorem cell_has {sc:Scope} {n:Nat} {x:Str} (h:sc.names.lookup x=some .cell):∃c,(cellsFrom n sc.names []).lookup x=some c:=by
  have q:=PySem.W.cellsFrom_some sc.names n [] (.inl h)
  exact Option.isSome_iff_exists.mp q
theorem inv_start {CX:CXT} {P:Program} {w:World} {K:PySem.W.Frag} {mg:Str→Option Value} {base:Heap} {N ps:List Str} {qual:Str} {scope:Scope} {f:Addr} {cd:Value} {A:Around} {outer:List Env} {s s1:Shared} {H:Hp} {E:XK} {us:List Value} {vs:List V}
    (S:FnScope N ps scope) (hd:A.handled=none) (e0:Env0 P w K mg base A outer s H) (hl:vs.length=ps.length) (r:Vals vs us)
    (x:InCallC s s.heap.objs.size (bindL (envOfC qual scope s.heap.objs.size f cd).kindOf (ps.zip us) fun _=>none) (cellsFrom (s.heap.objs.size+1) scope.names []) (bindC (envOfC qual scope s.heap.objs.size f cd).kindOf (ps.zip us) fun _=>none) s1) :
    Inv (cxOf CX P w K mg base N qual scope f cd A outer s H E) [] (start N vs) H s1:=by
  have hpl:ps.length≤N.length:=by have:=congrArg List.length S.pre; rw [List.length_take] at this; omega
  obtain ⟨h1,tk,rfl,hk⟩:=x.done
  have noA:∀b:Addr,b∉(cxOf CX P w K mg base N qual scope f cd A outer s H E).ex:=fun b z=>absurd (show b∈([]:List Addr) from z) (by simp)
  refine ⟨⟨e0.mod,S.kind,rfl,rfl,Nat.le_refl _,fun y z c h1 h2=>?_,fun y hy=>?_,fun y c _ h=>?_,fun _=>hd,Around.frames_deeper e0.frames,.inr ⟨rfl,rfl⟩,fun b z=>absurd z (noA b),e0.bs,e0.bsz,fun b _ _=>noA b,fun b z=>absurd z (noA b),e0.funs,e0.frf⟩,
    rfl,e0.bare,Un.kept hk,⟨_,x.toInCall.ns,fun i y v h1 h2 h3=>?_⟩,fun y c h=>⟨_,x.cell y c h⟩,e0.hok.fresh (Nat.le_refl _),fun y c h=>?_,fun p hp=>absurd (show p∈([]:List (Addr×Obj)) from hp) (by simp),e0.hok.kept hk,?_⟩
  · exact name_of_addr x.apart (PySem.mem_of_lookup h1) (PySem.mem_of_lookup h2)
  · have hy:scope.names.lookup y=some .cell∨scope.names.lookup y=some .free:=hy
    rcases hy with hy | hy
    · exact cell_has hy
    · exact absurd rfl (S.nofree _ (PySem.mem_of_lookup hy))
  · exact Nat.le_of_lt (x.above y c (PySem.mem_of_lookup h))
  · have hi:i<vs.length:=by
      unfold start at h2
      by_cases hi:i<vs.length
      · exact hi
      · rw [List.getElem?_append_right (by simpa using hi)] at h2
        rw [List.getElem?_replicate] at h2
        split at h2<;>cases h2
    have ha:vs[i]?=some v:=by
      unfold start at h2
      rw [List.getElem?_append_left (by simpa using hi),List.getElem?_map] at h2
      cases e:vs[i]? with
      | none=>rw [e] at h2; cases h2
      | some a=>rw [e] at h2; cases h2; rfl
    obtain ⟨u,hu,rv⟩:=r.get ha
    have hp:ps[i]?=some y:=by
      rw [←S.pre,List.getElem?_take_of_lt (by omega)]; exact h1
    have ndP:ps.Nodup:=by rw [←S.pre]; exact S.nd.sublist (List.take_sublist _ _)
    refine ⟨u,rv,?_⟩
    rcases S.par y (List.mem_of_getElem? hp) with k | k
    · exact .inl ⟨k,bindL_get ndP hp hu k⟩
    · obtain ⟨c,e⟩:=cell_has (n:=s.heap.objs.size+1) k
      refine .inr ⟨.inl k,c,e,?_⟩
      have q:=x.cell y c e
      rw [bindC_get ndP hp hu (by show scope.names.lookup y≠_; rw [k]; decide)] at q
      exact q
  · exact e0.hok.fresh (Nat.le_of_lt (x.above y c (PySem.mem_of_lookup h)))
  · unfold start
    show _=N.length
    rw [List.length_append,List.length_map,List.length_replicate]
    omega
theorem fn_of {CX:CXT} {P:Program} {w:World} {K:PySem.W.Frag} {mg:Str→Option Value} {base:Heap} {k:Nat} {f:Addr} {name qual:Str} {params:Arguments} {body:List Stmt} {scope:Scope} {dV kV doc pm cdv ct oc:Value} {an od:Option Addr}
    {osl:Array (Option Value)} {N ps:List Str} {sp:Sp} (lk:K.lookup f=some ⟨oc,od,.func (PySem.W.fnOf name qual params body scope dV kV doc pm an cdv ct),osl⟩) (hcd:PySem.W.codeIn K cdv qual=true) (S:FnScope N ps scope)
    (len:∀vs H Q E,sp vs H Q E→vs.length=ps.length)
    (hbody:∀(A:Around) (outer:List Env) (s:Shared) (H:Hp) (vs:List V) (Q:VK) (E:XK),Room k (A.deeper (envOfC qual scope s.heap.objs.size f cdv))→sp vs H Q E→
      ∃t,PSs (cxOf CX P w K mg base N qual scope f cdv A outer s H E) body t∧t { nx:=fun _ H'=>Q .non H',rt:=Q } (start N vs) H) :
    FnOk P w K mg base CX (k+1) f (PySem.W.fnOf name qual params body scope dV kV doc pm an cdv ct) ps sp:=by
  refine ⟨len,fun A outer s H args us vs Q E hr e0 hb r hsp=>?_⟩
  have hl:=len _ _ _ _ hsp
  have KX:K.In s.heap:=e0.mod.kin.keeps fun b o e=>(e0.bs b o e).1
  have lim:s.heap.NoLimit:=e0.mod.nolimit.keeps fun b o e=>(e0.bs b o e).1
  have hkind:∀y∈ps.zip us,scope.names.lookup y.1=some .local∨(scope.names.lookup y.1=some .cell∧((cellsFrom (s.heap.objs.size+1) scope.names []).lookup y.1).isSome=true):=fun ⟨n,v⟩ hy=>by
    rcases S.par n (List.of_mem_zip hy).1 with q | q
    · exact .inl q
    · exact .inr ⟨q,PySem.W.cellsFrom_some _ _ _ (.inl q)⟩
  refine codeAny_call_function hr.depth (KX _ _ lk) rfl S.co S.gen rfl (PySem.W.codeRec_of KX hcd) (hb _ _ _ _ ?_)
  refine wpAny_newFunctionEnv_cells S.kind hkind fun env he s1 x=>?_
  subst he
  refine ⟨lim.keeps x.toInCall.keep,codeAny_func ?_⟩
  obtain ⟨t,ht,hq⟩:=hbody A outer s H vs Q E (hr.deeper _) hsp
  have I:Inv (cxOf CX P w K mg base N qual scope f cdv A outer s H E) [] (start N vs) H s1:=inv_start S hr.hd e0 hl r x
  refine wpAny_mono (ht [] s1 (start N vs) H _ I hq) (fun fl s' hs=>?_) fun e s' hs=>hs
  have fin:∀{σ':St} {H':Hp} {v:V} {u:Value},Inv (cxOf CX P w K mg base N qual scope f cdv A outer s H E) [] σ' H' s'→RelV v u→Q v H'→CE outer P w H s Q u s':=
    fun {σ' H' v u} J rv q=>⟨v,H',J.os,J.bare,J.base,J.hok,rv,q⟩
  cases fl with
  | ret u=>
    obtain ⟨v,σ',H',J,rv,q⟩:=hs
    exact fin J rv q
  | next=>
    obtain ⟨σ',H',J,q⟩:=hs
    exact fin (v:=V.non) (u:=Value.none) J rfl q
  | brk=>
    obtain ⟨_,_,_,q⟩:=hs
    exact False.elim q
  | cont=>
    obtain ⟨_,_,_,q⟩:=hs
    exact False.elim q
end L2
namespace L2
open PySem PySem.Spec PyProof.Rows
section
variable {X:Cx} {x:Str} {p pos:Pos} {e:Expr} {es:List Expr} {t:TA} {id T:String} {r:List V→Hp→VK→Prop}
def tCB (r:List V→Hp→VK→Prop) (t:TA):TE:=fun σ H Q=>t σ H fun vs H1=>r vs H1 Q
theorem pe_callB (hc:CallR X (.builtin id) r) (hg:Gl X x) (hm:X.mg x=none) (hv:bootBuiltins x=some (.builtin id)) (ha:PA X (e::es) t) (hn:x≠"__name__":=by decide) (hdb:(x == ("__debug__":Str))=false:=by decide)
    (he:starEach (e::es) X.env=(false,eval e X.env)::starEach es X.env:=by rfl) (hpl:(backTo pos (starEach es X.env)).any (·.1)=false:=by rfl):PE X (.Call (.Name x p) (e::es) [] pos) (tCB r t):=by
  intro pins s σ H Q I h
  refine wpAny_Call_Name_kw (ld_blt I hg hm hv ?_ hn hdb)
  exact PyProof.Rows.callWith_builtin1 (thn (ha pos pins s σ H _ I h) fun us s1 ⟨vs,H1,I1,r1,q1⟩=>hc pins s1 σ H1 vs us Q I1 r1 q1) he hpl
theorem pe_callTy (hc:CallR X (.type T) r) (hg:Gl X x) (hm:X.mg x=none) (hv:bootBuiltins x=some (.type T)) (ha:PA X (e::es) t) (hn:x≠"__name__":=by decide) (hdb:(x == ("__debug__":Str))=false:=by decide)
    (he:starEach (e::es) X.env=(false,eval e X.env)::starEach es X.env:=by rfl) (hpl:(backTo pos (starEach es X.env)).any (·.1)=false:=by rfl):PE X (.Call (.Name x p) (e::es) [] pos) (tCB r t):=by
  intro pins s σ H Q I h
  refine wpAny_Call_Name_kw (ld_blt I hg hm hv ?_ hn hdb)
  exact PyProof.Rows.callWith_type1 (thn (ha pos pins s σ H _ I h) fun us s1 ⟨vs,H1,I1,r1,q1⟩=>hc pins s1 σ H1 vs us Q I1 r1 q1) he hpl
end
end L2
namespace HT
open PySem PyProof.Rows
section
open PySem.SeqAt
open PySem.AutoSeq1 (wpAny_loadPart')
open PySem.MeetsSeq PySem.MeetsSeq2 PySem.MeetsSeq3
end
section
variable {prog:Program} {w:World} {A:Around} {E:Value→Shared→Prop} {s:Shared}
theorem cat_tup {t b:Addr} {vs ws:List Value} {Q:Value→Shared→Prop} (ht:IsTup s.heap t vs.toArray) (hb:IsTup s.heap b ws.toArray) (hv:vs≠[])
    (h1:ws=[]→Q (.ref t) s) (h2:ws≠[]→Q (.ref s.heap.objs.size) { s with heap:=s.heap.push { cls:=.type "tuple",data:=.seq (vs++ws).toArray } })
    (hsz:vs.length+ws.length≤sizeLine):wpAny (model prog w) A (binaryOp .Add (.ref t) (.ref b)) Q E s:=by
  obtain ⟨⟨cls,dd,data,sl⟩,ho,hc,n,hd⟩:=id ht
  obtain ⟨⟨cls2,dd2,data2,sl2⟩,ho2,hc2,n2,hd2⟩:=id hb
  simp only at hc hd hc2 hd2
  subst hc hd hc2 hd2
  have e:vs.toArray++ws.toArray=(vs++ws).toArray:=by simp
  by_cases hw:ws=[]
  · exact concat_meets ⟨_,ho,rfl⟩ ⟨_,ho2,rfl⟩ noFill_tuple_add seq_tuple_add PySem.F.slot_tuple_add PySem.F.entry_tuple_add (PySem.F.args_tuple_add_2 _ _)
      (tuple_addW1 t b vs.toArray ws.toArray n n2 dd dd2 sl sl2 (by simpa using hv) (by simp [hw])) ⟨ho,ho2,h1 hw⟩
  · refine concat_meets ⟨_,ho,rfl⟩ ⟨_,ho2,rfl⟩ noFill_tuple_add seq_tuple_add PySem.F.slot_tuple_add PySem.F.entry_tuple_add (PySem.F.args_tuple_add_2 _ _)
      (tuple_addW2 t b vs.toArray ws.toArray n n2 dd dd2 sl sl2 (by simpa using hv) (by simpa using hw) (by rw [List.size_toArray,List.size_toArray]; exact hsz)) ⟨ho,ho2,?_⟩
    rw [e]
    exact h2 hw
def sIx (n d:Nat):Option Int→Nat
  | none=>d
  | some v=>if v<0 then (v+(n:Int)).toNat else min v.toNat n
theorem sIx_none (n d:Nat):sIx n d none=d:=rfl
theorem sIx_nat (n d k:Nat):sIx n d (some (k:Int))=min k n:=by
  show (if (k:Int)<0 then ((k:Int)+(n:Int)).toNat else min (k:Int).toNat n)=min k n
  rw [if_neg (by omega),Int.toNat_natCast]
theorem sIx_le (n d:Nat) (hd:d≤n) (o:Option Int):sIx n d o≤n:=by
  cases o with
  | none=>exact hd
  | some v=>
    show (if v<0 then (v+(n:Int)).toNat else min v.toNat n)≤n
    by_cases hv:v<0
    · rw [if_pos hv]; omega
    · rw [if_neg hv]; exact Nat.min_le_right _ _
theorem clip_eq (v:Int) (n d:Nat):(if v<0 then max (v+(n:Int)) 0 else min v (n:Int))=((sIx n d (some v):Nat):Int):=by
  show (if v<0 then max (v+(n:Int)) 0 else min v (n:Int))=(((if v<0 then (v+(n:Int)).toNat else min v.toNat n):Nat):Int)
  by_cases hv:v<0
  · simp only [if_pos hv]; omega
  · simp only [if_neg hv]; omega
theorem adjust_gen (lo hi:Option Int) (n:Nat):Builtin.Slice.sliceAdjust lo hi 1 (n:Int)=(((sIx n 0 lo:Nat):Int),((sIx n n hi:Nat):Int)):=by
  have h1:¬((1:Int)<0):=by omega
  unfold Builtin.Slice.sliceAdjust
  simp only [h1,if_false]
  refine Prod.ext ?_ ?_
  · cases lo with
    | none=>rfl
    | some v=>exact clip_eq v n 0
  · cases hi with
    | none=>rfl
    | some v=>exact clip_eq v n n
theorem places_gen (i j:Nat):Builtin.Slice.slicePlaces (i:Int) (j:Int) 1=j-i:=by
  unfold Builtin.Slice.slicePlaces
  have h1:(1:Int) > 0:=by omega
  simp only [h1,if_true,Int.ediv_one]
  split<;>omega
theorem slicePart_ {v:Value} {o:Option Int} {Q:Option Int→Shared→Prop} (p:IsPart v o) (h:Q o s):wpAny (model prog w) A (Builtin.Slice.slicePartIndex v) Q E s:=by
  cases p with
  | none=>exact slicePart_none h
  | int i t=>exact slicePart_int h
theorem sliceApplied_gen {sl:Addr} {vl vu:Value} {lo hi:Option Int} {n:Nat} {Q:Int×Int×Nat→Shared→Prop} (hs:s.heap.IsSliceOf sl vl vu .none) (pl:IsPart vl lo) (pu:IsPart vu hi)
    (h:Q (((sIx n 0 lo:Nat):Int),1,sIx n n hi-sIx n 0 lo) s):wpAny (model prog w) A (Builtin.Slice.sliceApplied (.ref sl) (pure (n:Int))) Q E s:=by
  obtain ⟨os,hos,hcs,hds⟩:=id hs
  unfold Builtin.Slice.sliceApplied Builtin.Slice.sliceFields
  refine wpAny_bind (wpAny_bind (wpAny_field hos hds (x:=vl) rfl (wpAny_bind (wpAny_field hos hds (x:=vu) rfl (wpAny_bind (wpAny_field hos hds (x:=.none) rfl (wpAny_pure ?_)))))))
  refine wpAny_bind (slicePart_none ?_)
  show wpAny _ _ (if ((1:Int) == 0)=true then _ else _) _ _ s
  rw [if_neg (by decide)]
  refine wpAny_bind (slicePart_ pl (wpAny_bind (slicePart_ pu (wpAny_bind (wpAny_pure ?_)))))
  show wpAny _ _ (match Builtin.Slice.sliceAdjust lo hi 1 (n:Int) with | (lo,hi)=>pure (lo,(1:Int),Builtin.Slice.slicePlaces lo hi 1)) _ _ s
  rw [adjust_gen lo hi n]
  show wpAny _ _ (pure (((sIx n 0 lo:Nat):Int),(1:Int),Builtin.Slice.slicePlaces ((sIx n 0 lo:Nat):Int) ((sIx n n hi:Nat):Int) 1)) _ _ s
  rw [places_gen]
  exact wpAny_pure h
theorem pick_gen (xs:Array Value) (i k:Nat):((List.range k).filterMap fun (m:Nat)=>xs[((i:Int)+(m:Int)*1).toNat]?).toArray=((xs.toList.drop i).take k).toArray:=by
  have e:(fun (m:Nat)=>xs[((i:Int)+(m:Int)*1).toNat]?)=fun m=>xs[i+m]?:=by
    funext m
    have:((i:Int)+(m:Int)*1).toNat=i+m:=by omega
    rw [this]
  rw [e]
  have:=pick_run xs i k
  rw [List.filterMap_map] at this
  have e2:((fun x=>xs[x]?)∘fun x=>i+x)=fun m=>xs[i+m]?:=rfl
  rw [e2] at this
  rw [this]
theorem getItem_tuple_cut {t sl:Addr} {items:Array Value} {vl vu:Value} {lo hi:Option Int} {Q:Value→Shared→Prop} (ht:IsTup s.heap t items) (hs:s.heap.IsSliceOf sl vl vu .none) (pl:IsPart vl lo) (pu:IsPart vu hi)
    (hw:¬(sIx items.size 0 lo=0∧sIx items.size items.size hi=items.size))
    (h:Q (.ref s.heap.objs.size) { s with heap:=s.heap.push { cls:=.type "tuple",data:=.seq ((items.toList.drop (sIx items.size 0 lo)).take (sIx items.size items.size hi-sIx items.size 0 lo)).toArray } })
    (hsz:items.size≤sizeLine):wpAny (model prog w) A (getItem (.ref t) (.ref sl)) Q E s:=by
  have htake:sizeOk (.seq ((items.toList.drop (sIx items.size 0 lo)).take (sIx items.size items.size hi-sIx items.size 0 lo)).toArray):=by
    show ((items.toList.drop (sIx items.size 0 lo)).take (sIx items.size items.size hi-sIx items.size 0 lo)).toArray.size≤sizeLine
    rw [List.size_toArray,List.length_take,List.length_drop,Array.length_toList]
    omega
  have hj:sIx items.size items.size hi≤items.size:=sIx_le _ _ (Nat.le_refl _) hi
  obtain ⟨os,hos,hcs,hds⟩:=id hs
  have hTs:s.TypeIs (.ref sl) "slice":=⟨os,hos,hcs⟩
  unfold getItem
  try with_reducible refine wpAny_holding ?_
  first | refine wpAny_bind (wpAny_pure ?_) | skip
  refine wpAny_bind (wpAny_sequenceKey ht.typeIs (by decide) ?_)
  refine wpAny_bind (wpAny_callSpecial?_slot (name:=Str.ofString "__getitem__") ht.typeIs PyProof.Rows.slot_tuple_getitem
    (wpAny_call_entry PyProof.Rows.slot_tuple_getitem ht.typeIs entry_tuple_getitem ?_ (args_tuple_getitem _ _)))
  show wpAny _ _ (Builtin.Tuple.tupleItemsOf (.ref t) >>= _) _ _ s
  refine wpAny_bind (tupleItemsOf_ ht ?_)
  refine wpAny_bind (wpAny_typeOf hTs ?_)
  rw [if_pos (by decide)]
  refine wpAny_bind (sliceApplied_gen hs pl pu ?_)
  have hno:¬((((sIx items.size 0 lo:Nat):Int) == 0 && (1:Int) == 1 && (sIx items.size items.size hi-sIx items.size 0 lo) == items.size)=true):=by
    intro q
    rw [Bool.and_eq_true,Bool.and_eq_true] at q
    have q1:((sIx items.size 0 lo:Nat):Int)=0:=eq_of_beq q.1.1
    have q2:sIx items.size items.size hi-sIx items.size 0 lo=items.size:=eq_of_beq q.2
    exact hw ⟨by omega,by omega⟩
  show wpAny _ _ (if (((sIx items.size 0 lo:Nat):Int) == 0 && (1:Int) == 1 && (sIx items.size items.size hi-sIx items.size 0 lo) == items.size)=true then _ else _) _ _ s
  rw [if_neg hno,pick_gen]
  first
    | exact wpAny_bind (m:=Builtin.Tuple.tupleExact _) (wpAny_newObj_type (wpAny_pure ⟨_,rfl,wpAny_pure h⟩) htake)
    | exact wpAny_bind (m:=Builtin.Tuple.tupleExact _) (wpAny_newObj_type (wpAny_bind (wpAny_pure (wpAny_pure ⟨_,rfl,wpAny_pure h⟩))) htake)
    | exact wpAny_bind (wpAny_bind (m:=Builtin.Tuple.tupleExact _) (wpAny_newObj_type (wpAny_pure (wpAny_pure ⟨_,rfl,wpAny_pure h⟩)) htake))
    | exact wpAny_bind (wpAny_bind (m:=Builtin.Tuple.tupleExact _) (wpAny_newObj_type (wpAny_pure ⟨_,rfl,wpAny_pure h⟩) htake))
end
end HT
namespace L2
open PySem PySem.Spec PyProof.Rows
abbrev TO:=St→Hp→(Option Int→Hp→Prop)→Prop
def PO (X:Cx) (e:Option Expr) (t:TO):Prop:=
  ∀(pins:List (Addr×Obj)) (s:Shared) (σ:St) (H:Hp) (Q:Option Int→Hp→Prop),Inv X pins σ H s→t σ H Q→
    wpAny (model X.prog X.w) X.A (evalPart e X.env) (fun u s'=>∃o H',Inv X pins σ H' s'∧IsPart u o∧Q o H') X.xe s
def tNoPart:TO:=fun _ H Q=>Q none H
def tPart (t:TE):TO:=fun σ H Q=>t σ H fun x H1=>∃i,x=.int i∧Q (some i) H1
section
variable {X:Cx} {e:Expr} {te:TE} {lo hi:Option Expr} {tl th:TO} {pos p2:Pos}
theorem po_none:PO X none tNoPart:=by
  intro pins s σ H Q I h
  rw [evalPart_none]
  exact wpAny_pure ⟨none,H,I,.none,h⟩
theorem po_some (h:PE X e te):PO X (some e) (tPart te):=by
  intro pins s σ H Q I hw
  rw [evalPart_some]
  refine thn (h pins s σ H _ I hw) fun u s1 ⟨x,H1,I1,r1,q1⟩=>?_
  obtain ⟨i,rfl,q⟩:=q1
  obtain ⟨t,rfl⟩:=r1
  exact ⟨some i,H1,I1,.int i t,q⟩
def SlR (X:Cx) (r:V→Option Int→Option Int→Hp→VK→Prop):Prop:=
  ∀(pins:List (Addr×Obj)) (s:Shared) (σ:St) (H:Hp) (x:V) (v vl vu:Value) (lo hi:Option Int) (sl:Addr) (Q:VK),Inv X pins σ H s→RelV x v→s.heap.IsSliceOf sl vl vu .none→IsPart vl lo→IsPart vu hi→r x lo hi H Q→
    ∃T id,typeLookup (.type T) "__getitem__"=pure (some (.builtin id))∧s.TypeIs v T∧wpAny (model X.prog X.w) X.A (getItem v (.ref sl)) (EP X pins σ Q) X.xe s
theorem SlR.or {r r':V→Option Int→Option Int→Hp→VK→Prop} (h:SlR X r) (h':SlR X r'):SlR X (fun x lo hi H Q=>r x lo hi H Q∨r' x lo hi H Q):=by
  intro pins s σ H x v vl vu lo hi sl Q I rx hs pl pu q
  rcases q with q | q
  · exact h pins s σ H x v vl vu lo hi sl Q I rx hs pl pu q
  · exact h' pins s σ H x v vl vu lo hi sl Q I rx hs pl pu q
def tSl (r:V→Option Int→Option Int→Hp→VK→Prop) (te:TE) (tl th:TO):TE:=fun σ H Q=>te σ H fun x H1=>tl σ H1 fun l H2=>th σ H2 fun u H3=>r x l u H3 Q
theorem pe_slice {r:V→Option Int→Option Int→Hp→VK→Prop} (hr:SlR X r) (he:PE X e te) (hl:PO X lo tl) (hu:PO X hi th):PE X (.Subscript e (.Slice lo hi none p2) pos) (tSl r te tl th):=by
  intro pins s σ H Q I h
  refine Subscript_ (thn (he pins s σ H _ I h) fun v s1 ⟨x,H1,I1,r1,q1⟩=>?_)
  refine wpAny_Slice (thn (hl pins s1 σ H1 _ I1 q1) fun vl s2 ⟨l,H2,I2,pl,q2⟩=>thn (hu pins s2 σ H2 _ I2 q2) fun vu s3 ⟨u,H3,I3,pu,q3⟩=>?_)
  rw [evalPart_none]
  refine wpAny_pure ?_
  have I4:Inv X pins σ H3 { s3 with heap:=s3.heap.push { cls:=.type "slice",data:=.fields #[vl,vu,.none] } }:=I3.kept (t':=s3.toks) fun b ob q=>Heap.get?_push_of_some _ q
  obtain ⟨T,id,hT,ht,hg⟩:=hr pins { s3 with heap:=s3.heap.push { cls:=.type "slice",data:=.fields #[vl,vu,.none] } } σ H3 x v vl vu l u s3.heap.objs.size Q I4 r1 (Heap.IsSliceOf.new ..) pl pu q3
  show wpAny (model X.prog X.w) X.A (subscriptTail e (.Slice lo hi none p2) v (.ref s3.heap.objs.size)) (EP X pins σ Q) X.xe { s3 with heap:=s3.heap.push { cls:=.type "slice",data:=.fields #[vl,vu,.none] } }
  exact tail_any (ops:=[.ref s3.heap.objs.size,v]) ht hT hg (by with_unfolding_all rfl)
def cutV (xs:List V) (lo hi:Option Int):List V:=(xs.drop (HT.sIx xs.length 0 lo)).take (HT.sIx xs.length xs.length hi-HT.sIx xs.length 0 lo)
theorem cutV_length (xs:List V) (lo hi:Option Int):(cutV xs lo hi).length≤xs.length:=by
  unfold cutV
  rw [List.length_take,List.length_drop]
  omega
def rSlT (K:PySem.W.Frag):V→Option Int→Option Int→Hp→VK→Prop:=fun x lo hi H Q=>∃a xs,x=.ref a∧SqT K H a xs∧
  ¬(HT.sIx xs.length 0 lo=0∧HT.sIx xs.length xs.length hi=xs.length)∧∀p,H p=none→Q (.ref p) (upd H p (.tup (cutV xs lo hi)))
theorem sl_tup:SlR X (rSlT X.K):=by
  intro pins s σ H x v vl vu lo hi sl Q I rx hs pl pu h
  obtain ⟨a,xs,rfl,hx,hw,q⟩:=h
  cases rx
  obtain ⟨its,r,ht,hz⟩:=I.tuple hx
  have hlen:its.toArray.size=xs.length:=by rw [List.size_toArray]; exact r.length.symm
  refine ⟨"tuple",_,PyProof.Rows.slot_tuple_getitem.lookup,ht.typeIs,?_⟩
  refine HT.getItem_tuple_cut ht hs pl pu (by rw [hlen]; exact hw) ?_ (by rw [hlen]; exact hz)
  rw [hlen]
  refine ⟨.ref s.heap.objs.size,_,I.laid (t':=s.toks) (o:=.tup (cutV xs lo hi)) (fun b ob q=>Heap.get?_push_of_some _ q) (Nat.le_refl _) ?_,rfl,q _ (I.hok.fresh (Nat.le_refl _))⟩
  exact ⟨Nat.le_trans (cutV_length xs lo hi) hz,_,(r.drop (HT.sIx xs.length 0 lo)).take (HT.sIx xs.length xs.length hi-HT.sIx xs.length 0 lo),IsTup.new _ _⟩
def rCatT (K:PySem.W.Frag):R2:=fun x y H Q=>∃a b xs ys,x=.ref a∧y=.ref b∧SqT K H a xs∧SqT K H b ys∧xs≠[]∧xs.length+ys.length≤sizeLine∧
  (ys=[]→Q (.ref a) H)∧(ys≠[]→∀p,H p=none→Q (.ref p) (upd H p (.tup (xs++ys))))
theorem Vals.nil_iff {xs:List V} {us:List Value} (r:Vals xs us):us=[]↔xs=[]:=by
  cases r with
  | nil=>simp
  | cons _ _=>simp
theorem op_catT:OpR X (binaryOp .Add) (rCatT X.K):=by
  intro pins s σ H x y v u Q I rx ry h
  obtain ⟨a,b,xs,ys,rfl,rfl,ha,hb,hx,hz,q1,q2⟩:=h
  cases rx
  cases ry
  obtain ⟨its,r1,p1,_⟩:=I.tuple ha
  obtain ⟨its2,r2,p2,_⟩:=I.tuple hb
  refine HT.cat_tup p1 p2 (fun z=>hx (r1.nil_iff.mp z)) (fun z=>⟨.ref a,H,I,rfl,q1 (r2.nil_iff.mp z)⟩) (fun z=>?_) (by rw [←r1.length,←r2.length]; exact hz)
  refine ⟨.ref s.heap.objs.size,_,I.laid (t':=s.toks) (o:=.tup (xs++ys)) (fun b ob q=>Heap.get?_push_of_some _ q) (Nat.le_refl _) ?_,rfl,q2 (fun w=>z (r2.nil_iff.mpr w)) _ (I.hok.fresh (Nat.le_refl _))⟩
  exact ⟨by rw [List.length_append]; exact hz,_,r1.append r2,IsTup.new _ _⟩
end
end L2
namespace L2
open PySem PySem.Spec PyProof.Rows
def ixN (n:Nat) (i:Int):Option Nat:=if 0≤i then (if i<n then some i.toNat else none) else if -(n:Int)≤i then some (i+n).toNat else none
def atI {α:Type} (xs:List α) (i:Int):Option α:=(ixN xs.length i).bind fun j=>xs[j]?
theorem ixN_seq {n:Nat} {i:Int} {j:Nat} (h:ixN n i=some j):seqIndex? i n=some j∧j<n∧-(n:Int)≤i∧i<n:=by
  unfold ixN at h
  by_cases h0:0≤i
  · rw [if_pos h0] at h
    by_cases h1:i<n
    · rw [if_pos h1] at h
      have e:i.toNat=j:=Option.some.inj h
      exact ⟨by rw [seqIndex_of h0 h1,e],by omega,by omega,h1⟩
    · rw [if_neg h1] at h; cases h
  · rw [if_neg h0] at h
    by_cases h1 : -(n:Int)≤i
    · rw [if_pos h1] at h
      have e:(i+n).toNat=j:=Option.some.inj h
      exact ⟨by rw [seqIndex_neg (by omega) h1,e],by omega,h1,by omega⟩
    · rw [if_neg h1] at h; cases h
theorem atI_get {α:Type} {xs:List α} {i:Int} {v:α} (h:atI xs i=some v):∃j,seqIndex? i xs.length=some j∧xs[j]?=some v∧j<xs.length∧-(xs.length:Int)≤i∧i<xs.length:=by
  unfold atI at h
  cases e:ixN xs.length i with
  | none=>rw [e] at h; cases h
  | some j=>
    rw [e] at h
    obtain ⟨h1,h2,h3,h4⟩:=ixN_seq e
    exact ⟨j,h1,h,h2,h3,h4⟩
theorem atI_nat {α:Type} {xs:List α} {j:Nat} {v:α} (h:xs[j]?=some v):atI xs (j:Int)=some v:=by
  have hj:j<xs.length:=(List.getElem?_eq_some_iff.mp h).1
  have e:ixN xs.length (j:Int)=some j:=by
    unfold ixN
    rw [if_pos (by omega),if_pos (by omega)]; simp
  unfold atI; rw [e]; exact h
def PlainIx (b:Expr):Prop:=∀o i,subscripted b false o i=operate [o,i] (getItem o i)
def IxR (X:Cx) (r:R2):Prop:=
  ∀(value slice:Expr) (pins:List (Addr×Obj)) (s:Shared) (σ:St) (H:Hp) (x y:V) (v u:Value) (Q:VK),Inv X pins σ H s→RelV x v→RelV y u→r x y H Q→
    subscripted slice false v u=operate [v,u] (getItem v u)→wpAny (model X.prog X.w) X.A (subscriptTail value slice v u) (EP X pins σ Q) X.xe s
def MtR (X:Cx) (id:String) (r:V→List V→Hp→VK→Prop):Prop:=
  ∀(pins:List (Addr×Obj)) (s:Shared) (σ:St) (H:Hp) (x:V) (xs:List V) (v:Value) (us:List Value) (Q:VK),Inv X pins σ H s→RelV x v→Vals xs us→r x xs H Q→
    wpAny (model X.prog X.w) X.A (call (.builtin id) (v::us)) (EP X pins σ Q) X.xe s
section
variable {X:Cx} {a b:Expr} {ta tb:TE} {pos:Pos}
theorem IxR.or {r r':R2} (h:IxR X r) (h':IxR X r'):IxR X (fun x y H Q=>r x y H Q∨r' x y H Q):=by
  intro value slice pins s σ H x y v u Q I rx ry q hs
  rcases q with q | q
  · exact h value slice pins s σ H x y v u Q I rx ry q hs
  · exact h' value slice pins s σ H x y v u Q I rx ry q hs
theorem MtR.or {id:String} {r r':V→List V→Hp→VK→Prop} (h:MtR X id r) (h':MtR X id r'):MtR X id (fun x xs H Q=>r x xs H Q∨r' x xs H Q):=by
  intro pins s σ H x xs v us Q I rx rs q
  rcases q with q | q
  · exact h pins s σ H x xs v us Q I rx rs q
  · exact h' pins s σ H x xs v us Q I rx rs q
theorem pe_ix {r:R2} (hr:IxR X r) (ha:PE X a ta) (hb:PE X b tb) (hs:PlainIx b):PE X (.Subscript a b pos) (tOp r ta tb):=by
  intro pins s σ H Q I h
  exact Subscript_ (binT ha hb I h fun v u s2 x y H2 I2 rx ry q=>hr a b pins s2 σ H2 x y v u Q I2 rx ry q (hs _ _))
def rIxL (K:PySem.W.Frag):R2:=fun x y H Q=>∃p xs i v,x=.ref p∧y=.int i∧SqL K H p xs∧atI xs i=some v∧Q v H
def rIxT (K:PySem.W.Frag):R2:=fun x y H Q=>∃p xs i v,x=.ref p∧y=.int i∧SqT K H p xs∧atI xs i=some v∧Q v H
def rIxS:R2:=fun x y H Q=>∃z i c,x=.str z∧y=.int i∧z.length≤sizeLine∧atI z.cps.toList i=some c∧Q (.str ⟨#[c]⟩) H
theorem ix_list:IxR X (rIxL X.K):=by
  intro value slice pins s σ H x y v u Q I rx ry h hs
  obtain ⟨p,xs,i,z,rfl,rfl,hq,he,q⟩:=h
  cases rx
  obtain ⟨t,rfl⟩:=ry
  obtain ⟨its,r,pl,hz⟩:=I.list hq
  obtain ⟨j,h1,h2,h3,h4,h5⟩:=atI_get he
  obtain ⟨w,ew,rw'⟩:=r.get h2
  have hl:=r.length
  have hn:=line63
  have fin:EP X pins σ Q w s:=⟨z,H,I,rw',q⟩
  by_cases h0:0≤i
  · have hj:i.toNat=j:=by
      rw [seqIndex_of h0 h5] at h1
      exact Option.some.inj h1
    exact item_listR pl.isList h0 (by omega) (by rw [hj]; simpa using ew) fin hs
  · have hj:(i+(its.toArray.size:Int)).toNat=j:=by
      rw [seqIndex_neg (by omega) h4] at h1
      rw [List.size_toArray,←hl]
      exact Option.some.inj h1
    exact subscriptTail_builtinR (x:=w) pl.isList.typeIs slot_list_getitem.lookup
      (wpAny_getItem_list_neg (Q:=fun r s'=>r=w∧EP X pins σ Q r s') pl.isList (by omega) (by rw [List.size_toArray]<;>omega) (by omega) (by rw [hj]; simpa using ew) ⟨rfl,fin⟩) hs
theorem ix_tup:IxR X (rIxT X.K):=by
  intro value slice pins s σ H x y v u Q I rx ry h hs
  obtain ⟨p,xs,i,z,rfl,rfl,hq,he,q⟩:=h
  cases rx
  obtain ⟨t,rfl⟩:=ry
  obtain ⟨its,r,pl,hz⟩:=I.tuple hq
  obtain ⟨j,h1,h2,h3,h4,h5⟩:=atI_get he
  obtain ⟨w,ew,rw'⟩:=r.get h2
  have hl:=r.length
  have hn:=line63
  have fin:EP X pins σ Q w s:=⟨z,H,I,rw',q⟩
  exact subscriptTail_builtinR (x:=w) pl.typeIs slot_tuple_getitem.lookup
    (getItem_tuple (j:=j) (Q:=fun r s'=>r=w∧EP X pins σ Q r s') pl (by omega) (by omega) (by rw [List.size_toArray,←hl]; exact h1) (by simpa using ew) ⟨rfl,fin⟩) hs
theorem ix_str:IxR X rIxS:=by
  intro value slice pins s σ H x y v u Q I rx ry h hs
  obtain ⟨z,i,c,rfl,rfl,hz,he,q⟩:=h
  obtain ⟨t,rfl⟩:=rx
  obtain ⟨t',rfl⟩:=ry
  obtain ⟨j,h1,h2,h3,h4,h5⟩:=atI_get he
  have hl:z.cps.toList.length=z.length:=by simp [Str.length]
  rw [hl] at h1 h4 h5
  have hn:=line63
  exact tail_any (typeIs_str s z t) slot_str_getitem.lookup (getItem_str (c:=c) (by
    have e1:decide (i < -(2 ^ 63:Int))=false:=decide_eq_false (by omega)
    have e2:decide (i≥2 ^ 63)=false:=decide_eq_false (by omega)
    rw [e1,e2,Bool.or_false]) (by rw [h1]; simpa using h2) ⟨.str ⟨#[c]⟩,H,I.tok _,⟨_,rfl⟩,q⟩) hs
def rIx (K:PySem.W.Frag):R2:=fun x y H Q=>rIxL K x y H Q∨rIxT K x y H Q∨rIxS x y H Q
theorem ix_seq:IxR X (rIx X.K):=ix_list.or (ix_tup.or ix_str)
theorem Inv.lst {pins:List (Addr×Obj)} {σ:St} {H:Hp} {s:Shared} {p:Addr} {xs:List V} (I:Inv X pins σ H s) (h:H p=some (.lst xs)) :
    ∃(its:List Value) (n:Nat),Vals xs its∧s.heap.get? p=some { cls:=.type "list",data:=.seq its.toArray n }∧xs.length≤sizeLine:=by
  obtain ⟨z,its,n,r,e⟩:=I.hok p _ h
  exact ⟨its,n,r,e,z⟩
theorem slice_bounds (lo hi:Option Int) (n:Nat):(sliceBounds lo hi none n).1=((HT.sIx n 0 lo:Nat):Int)∧(sliceBounds lo hi none n).2.1=((HT.sIx n n hi:Nat):Int)∧(sliceBounds lo hi none n).2.2=1:=by
  refine ⟨?_,?_,rfl⟩
  · cases lo with
    | none=>simp [sliceBounds,HT.sIx]
    | some i=>
      simp only [sliceBounds,HT.sIx,Option.getD_none,show (1:Int) > 0 by decide,if_true]
      by_cases h:i<0
      · simp only [h,if_true]<;>omega
      · simp only [h,if_false]<;>omega
  · cases hi with
    | none=>simp [sliceBounds,HT.sIx]
    | some i=>
      simp only [sliceBounds,HT.sIx,Option.getD_none,show (1:Int) > 0 by decide,if_true]
      by_cases h:i<0
      · simp only [h,if_true]<;>omega
      · simp only [h,if_false]<;>omega
theorem slicePick_cut (its:List Value) (lo hi:Option Int):slicePick its.toArray lo hi none=((its.drop (HT.sIx its.length 0 lo)).take (HT.sIx its.length its.length hi-HT.sIx its.length 0 lo)).toArray:=by
  obtain ⟨h1,h2,h3⟩:=slice_bounds lo hi its.toArray.size
  unfold slicePick
  rw [h1,h2,h3]
  simp only [sliceRange_one,pick_run,List.size_toArray]<;>rfl
def rSlL (K:PySem.W.Frag):V→Option Int→Option Int→Hp→VK→Prop:=fun x lo hi H Q=>∃a xs,x=.ref a∧SqL K H a xs∧∀p,H p=none→Q (.ref p) (upd H p (.lst (cutV xs lo hi)))
theorem sl_list:SlR X (rSlL X.K):=by
  intro pins s σ H x v vl vu lo hi sl Q I rx hs pl pu h
  obtain ⟨a,xs,rfl,hx,q⟩:=h
  cases rx
  obtain ⟨its,r,ht,hz⟩:=I.list hx
  have hlen:=r.length
  refine ⟨"list",_,slot_list_getitem.lookup,ht.isList.typeIs,?_⟩
  refine wpAny_getItem_list_slice ht.isList hs pl pu .none (by simp) ?_ (by rw [List.size_toArray]<;>omega)
  rw [slicePick_cut,←hlen]
  refine ⟨.ref s.heap.objs.size,_,I.laid (t':=s.toks) (o:=.lst (cutV xs lo hi)) (fun b ob q=>Heap.get?_push_of_some _ q) (Nat.le_refl _) ?_,rfl,q _ (I.hok.fresh (Nat.le_refl _))⟩
  exact ⟨Nat.le_trans (cutV_length xs lo hi) hz,_,0,(r.drop (HT.sIx xs.length 0 lo)).take (HT.sIx xs.length xs.length hi-HT.sIx xs.length 0 lo),Heap.get?_push_size _ rfl⟩
def flatV:V→Bool
  | .non=>true
  | .bl _=>true
  | .int _=>true
  | .str _=>true
  | _=>false
def eqV:V→V→Bool
  | .non,.non=>true
  | .bl a,.bl b=>a == b
  | .bl a,.int b=>(if a then 1 else 0) == b
  | .int a,.bl b=>a == (if b then 1 else 0)
  | .int a,.int b=>a == b
  | .str a,.str b=>a == b
  | _,_=>false
theorem eqAt_V {A:Around} {s:Shared} {y x:V} {u v:Value} (ry:RelV y u) (rx:RelV x v) (fy:flatV y=true) (fx:flatV x=true):SeqAt.EqAt A s u v (eqV y x):=by
  cases y with
  | non=>
    cases ry
    cases x with
    | non=>cases rx; exact SeqAt.EqAt.same _
    | bl b=>cases rx; exact SeqAt.EqAt.none_bool b
    | int b=>obtain ⟨t,rfl⟩:=rx; exact SeqAt.EqAt.none_int b t
    | str b=>obtain ⟨t,rfl⟩:=rx; exact SeqAt.EqAt.none_str b t
    | _=>exact absurd (show false=true from fx) Bool.false_ne_true
  | bl a=>
    cases ry
    cases x with
    | non=>cases rx; exact SeqAt.EqAt.bool_none a
    | bl b=>cases rx; exact SeqAt.EqAt.bool_bool a b
    | int b=>obtain ⟨t,rfl⟩:=rx; exact SeqAt.EqAt.bool_int a b t
    | str b=>obtain ⟨t,rfl⟩:=rx; exact SeqAt.EqAt.bool_str a b t
    | _=>exact absurd (show false=true from fx) Bool.false_ne_true
  | int a=>
    obtain ⟨t',rfl⟩:=ry
    cases x with
    | non=>cases rx; exact SeqAt.EqAt.int_none a t'
    | bl b=>cases rx; exact SeqAt.EqAt.int_bool a t' b
    | int b=>obtain ⟨t,rfl⟩:=rx; exact SeqAt.EqAt.int_int a t' b t
    | str b=>obtain ⟨t,rfl⟩:=rx; exact SeqAt.EqAt.int_str a t' b t
    | _=>exact absurd (show false=true from fx) Bool.false_ne_true
  | str a=>
    obtain ⟨t',rfl⟩:=ry
    cases x with
    | non=>cases rx; exact SeqAt.EqAt.str_none a t'
    | bl b=>cases rx; exact SeqAt.EqAt.str_bool a t' b
    | int b=>obtain ⟨t,rfl⟩:=rx; exact SeqAt.EqAt.str_int a t' b t
    | str b=>obtain ⟨t,rfl⟩:=rx; exact SeqAt.EqAt.str_str a t' b t
    | _=>exact absurd (show false=true from fx) Bool.false_ne_true
  | _=>exact absurd (show false=true from fy) Bool.false_ne_true
def eqU (x:V) (u:Value):Bool:=match u with
  | .none=>eqV .non x
  | .bool b=>eqV (.bl b) x
  | .int i _=>eqV (.int i) x
  | .str z _=>eqV (.str z) x
  | _=>false
theorem eqU_of {x y:V} {u:Value} (r:RelV y u) (f:flatV y=true):eqU x u=eqV y x:=by
  cases y with
  | non=>cases r; rfl
  | bl b=>cases r; rfl
  | int i=>obtain ⟨t,rfl⟩:=r; rfl
  | str z=>obtain ⟨t,rfl⟩:=r; rfl
  | _=>exact absurd (show false=true from f) Bool.false_ne_true
theorem any_eqU {x:V}:∀{xs:List V} {us:List Value},Vals xs us→xs.all flatV=true→us.any (eqU x)=xs.any fun y=>eqV y x
  | _,_,.nil,_=>rfl
  | y::xs,u::us,.cons r t,f=>by
    rw [List.all_cons,Bool.and_eq_true] at f
    rw [List.any_cons,List.any_cons,eqU_of r f.1,any_eqU t f.2]
theorem mem_eqAt {A:Around} {s:Shared} {x:V} {v:Value} (rx:RelV x v) (fx:flatV x=true):∀{xs:List V} {us:List Value},Vals xs us→xs.all flatV=true→∀u∈us,SeqAt.EqAt A s u v (eqU x u)
  | _,_,.nil,_=>fun u hu=>by cases hu
  | y::xs,u::us,.cons r t,f=>fun u' hu=>by
    rw [List.all_cons,Bool.and_eq_true] at f
    rcases List.mem_cons.mp hu with rfl | hu
    · rw [eqU_of r f.1]; exact eqAt_V r rx f.1 fx
    · exact mem_eqAt rx fx t f.2 u' hu
def inV (x:V) (xs:List V):Bool:=xs.any fun y=>eqV y x
def rIn (K:PySem.W.Frag) (neg:Bool):R2:=fun x y H Q=>∃p xs,y=.ref p∧(SqL K H p xs∨SqT K H p xs)∧flatV x=true∧xs.all flatV=true∧Q (.bl (if neg then !inV x xs else inV x xs)) H
theorem op_in_seq:OpR X (compareOp .In) (rIn X.K false):=by
  intro pins s σ H x y v u Q I rx ry h
  obtain ⟨p,xs,rfl,hq,fx,fs,q⟩:=h
  cases ry
  rcases hq with hq | hq
  · obtain ⟨its,r,pl,hz⟩:=I.list hq
    refine SeqAt.in_listAt (eqU x) pl.isList (fun w hw=>mem_eqAt rx fx r fs w (by simpa using hw)) ⟨.bl _,H,I,rfl,?_⟩
    rw [show its.toArray.any (eqU x)=its.any (eqU x) by simp,any_eqU r fs]
    exact q
  · obtain ⟨its,r,pl,hz⟩:=I.tuple hq
    refine SeqAt.in_tupleAt (eqU x) pl (fun w hw=>mem_eqAt rx fx r fs w (by simpa using hw)) ⟨.bl _,H,I,rfl,?_⟩
    rw [show its.toArray.any (eqU x)=its.any (eqU x) by simp,any_eqU r fs]
    exact q
theorem op_notIn_seq:OpR X (compareOp .NotIn) (rIn X.K true):=by
  intro pins s σ H x y v u Q I rx ry h
  obtain ⟨p,xs,rfl,hq,fx,fs,q⟩:=h
  cases ry
  rcases hq with hq | hq
  · obtain ⟨its,r,pl,hz⟩:=I.list hq
    refine SeqAt.notIn_listAt (eqU x) pl.isList (fun w hw=>mem_eqAt rx fx r fs w (by simpa using hw)) ⟨.bl _,H,I,rfl,?_⟩
    rw [show its.toArray.any (eqU x)=its.any (eqU x) by simp,any_eqU r fs]
    exact q
  · obtain ⟨its,r,pl,hz⟩:=I.tuple hq
    refine SeqAt.notIn_tupleAt (eqU x) pl (fun w hw=>mem_eqAt rx fx r fs w (by simpa using hw)) ⟨.bl _,H,I,rfl,?_⟩
    rw [show its.toArray.any (eqU x)=its.any (eqU x) by simp,any_eqU r fs]
    exact q
theorem call_len_seq:CallR X (.builtin "len") (fun xs H Q=>∃p ys,xs=[.ref p]∧(SqL X.K H p ys∨SqT X.K H p ys)∧Q (.int ys.length) H):=by
  intro pins s σ H xs us Q I r h
  obtain ⟨p,ys,rfl,hq,q⟩:=h
  obtain ⟨u,rfl,rx⟩:=vals1 r
  cases rx
  have hn:=line63
  rcases hq with hq | hq
  · obtain ⟨its,r',pl,hz⟩:=I.list hq
    have hlen:=r'.length
    exact Calls.call_len_list pl.isList (by simp only [List.size_toArray]<;>omega) ⟨.int ys.length,H,I.tok _,⟨s.toks+1,by rw [List.size_toArray,hlen]⟩,q⟩
  · obtain ⟨its,r',pl,hz⟩:=I.tuple hq
    have hlen:=r'.length
    exact len_tuple pl (by simp only [List.size_toArray]<;>omega) ⟨.int ys.length,H,I.tok _,⟨s.toks+1,by rw [List.size_toArray,hlen]⟩,q⟩
theorem call_len_str:CallR X (.builtin "len") (fun xs H Q=>∃z,xs=[.str z]∧z.length≤sizeLine∧Q (.int z.length) H):=by
  intro pins s σ H xs us Q I r h
  obtain ⟨z,rfl,hz,q⟩:=h
  obtain ⟨u,rfl,t,rfl⟩:=vals1 r
  have hn:=line63
  exact len_str (by omega) ⟨.int z.length,H,I.tok _,⟨_,rfl⟩,q⟩
theorem CallR.or {f:Value} {r r':List V→Hp→VK→Prop} (h:CallR X f r) (h':CallR X f r'):CallR X f (fun xs H Q=>r xs H Q∨r' xs H Q):=by
  intro pins s σ H xs us Q I rs q
  rcases q with q | q
  · exact h pins s σ H xs us Q I rs q
  · exact h' pins s σ H xs us Q I rs q
theorem call_list_of:CallR X (.type "list") (fun xs H Q=>∃p ys,xs=[.ref p]∧(SqL X.K H p ys∨SqT X.K H p ys)∧∀l,H l=none→Q (.ref l) (upd H l (.lst ys))):=by
  intro pins s σ H xs us Q I r h
  obtain ⟨p,ys,rfl,hq,q⟩:=h
  obtain ⟨u,rfl,rx⟩:=vals1 r
  cases rx
  have fin:∀(its:List Value),Vals ys its→ys.length≤sizeLine→∀(h':Heap) (c':Nat),(∀b o',s.heap.get? b=some o'→h'.get? b=some o')→
      h'.get? s.heap.objs.size=some { cls:=.type "list",dict:=none,data:=.seq its.toArray c',slots:=#[] }→EP X pins σ Q (.ref s.heap.objs.size) { s with heap:=h' }:=fun its r' hz h' c' kp e=>
    ⟨.ref s.heap.objs.size,_,I.laid (t':=s.toks) kp (Nat.le_refl _) (show ObjOk X.prog X.w _ h' _ (.lst ys) from ⟨hz,its,c',r',e⟩),rfl,q _ (I.hok.fresh (Nat.le_refl _))⟩
  rcases hq with hq | hq
  · obtain ⟨its,r',pl,hz⟩:=I.list hq
    have hlen:=r'.length
    obtain ⟨o,ho,hc,n,hd⟩:=pl.isList
    exact call_list_seq p (.inl rfl) ho hc hd (fun h' c' kp e=>fin its r' hz h' c' kp e) (by simp only [List.size_toArray]<;>omega)
  · obtain ⟨its,r',pl,hz⟩:=I.tuple hq
    have hlen:=r'.length
    obtain ⟨o,ho,hc,n,hd⟩:=pl
    exact call_list_seq p (.inr rfl) ho hc hd (fun h' c' kp e=>fin its r' hz h' c' kp e) (by simp only [List.size_toArray]<;>omega)
theorem call_tuple_of:CallR X (.type "tuple") (fun xs H Q=>∃p ys,xs=[.ref p]∧((SqL X.K H p ys∧∀l,H l=none→Q (.ref l) (upd H l (.tup ys)))∨(SqT X.K H p ys∧Q (.ref p) H))):=by
  intro pins s σ H xs us Q I r h
  obtain ⟨p,ys,rfl,h⟩:=h
  obtain ⟨u,rfl,rx⟩:=vals1 r
  cases rx
  rcases h with ⟨hq,q⟩ | ⟨hq,q⟩
  · obtain ⟨its,r',pl,hz⟩:=I.list hq
    have hlen:=r'.length
    refine call_tuple_list pl.isList (fun h' kp=>?_) (by simp only [List.size_toArray]<;>omega)
    have I1:Inv X pins σ H { s with heap:=h' }:=I.kept (t':=s.toks) kp
    have I2:Inv X pins σ (upd H h'.objs.size (.tup ys)) { s with heap:=h'.push { cls:=.type "tuple",data:=.seq its.toArray } }:=
      I1.laid (t':=s.toks) (fun b o e=>Heap.get?_push_of_some _ e) (Nat.le_refl _) (show ObjOk X.prog X.w _ _ _ (.tup ys) from ⟨hz,its,r',IsTup.new _ _⟩)
    exact ⟨.ref h'.objs.size,_,I2,rfl,q _ (I1.hok.fresh (Nat.le_refl _))⟩
  · obtain ⟨its,r',pl,hz⟩:=I.tuple hq
    exact call_tuple_same pl ⟨.ref p,H,I,rfl,q⟩
def tyV (K:PySem.W.Frag) (T:String) (x:V) (H:Hp):Prop:=match x with
  | .str _=>T = "str"
  | .int _=>T = "int"
  | .ref p=>(T = "list"∧∃xs,SqL K H p xs)∨(T = "tuple"∧∃o,K.lookup p=some o∧o.cls=.type "tuple"∧o.dict=none)∨
      (T = "dict"∧((∃kvs,H p=some (.dK kvs))∨∃kvs,H p=some (.dT kvs)))∨(T = "set"∧∃S n,H p=some (.set S n))
  | _=>False
theorem tyV_is {pins:List (Addr×Obj)} {σ:St} {H:Hp} {s:Shared} {T:String} {x:V} {v:Value} (I:Inv X pins σ H s) (r:RelV x v) (ty:tyV X.K T x H) :
    s.TypeIs v T∧∀a,v=.ref a→∃ob,s.heap.get? a=some ob∧ob.dict=none:=by
  cases x with
  | str z=>
    obtain ⟨t,rfl⟩:=r
    cases (show T = "str" from ty)
    exact ⟨typeIs_str s z t,fun _ e=>nomatch e⟩
  | int i=>
    obtain ⟨t,rfl⟩:=r
    cases (show T = "int" from ty)
    exact ⟨typeIs_int s i t,fun _ e=>nomatch e⟩
  | ref p=>
    cases r
    rcases ty with ⟨rfl,xs,hq⟩ | ⟨rfl,o,hk,hc,hd⟩ | ⟨rfl,hk⟩ | ⟨rfl,S,n,hk⟩
    · obtain ⟨its,_,pl,_⟩:=I.list hq
      refine ⟨pl.isList.typeIs,fun a e=>?_⟩
      cases e
      obtain ⟨o,n,e,c,hd,_⟩:=pl
      exact ⟨o,e,hd⟩
    · refine ⟨⟨o,I.kIn p o hk,hc⟩,fun a e=>?_⟩
      cases e
      exact ⟨o,I.kIn _ o hk,hd⟩
    · have z:∃o,s.heap.get? p=some o∧o.ExactDict:=by
        rcases hk with ⟨kvs,hk⟩ | ⟨kvs,hk⟩
        · obtain ⟨_,_,_,_,o,_,_,e,ex,_⟩:=I.hok p _ hk
          exact ⟨o,e,ex⟩
        · obtain ⟨_,_,_,_,o,_,_,e,ex,_⟩:=I.hok p _ hk
          exact ⟨o,e,ex⟩
      obtain ⟨o,e,ex⟩:=z
      refine ⟨⟨o,e,ex.1⟩,fun a e2=>?_⟩
      cases e2
      exact ⟨o,e,ex.2.1⟩
    · obtain ⟨o,_,_,_,e,ex,_⟩:=I.hok p _ hk
      refine ⟨⟨o,e,ex.1⟩,fun a e2=>?_⟩
      cases e2
      exact ⟨o,e,ex.2.1⟩
  | _=>exact False.elim ty
def tBM (K:PySem.W.Frag) (T:String) (r:V→List V→Hp→VK→Prop) (to:TE) (t:TA):TE:=fun σ H Q=>to σ H fun x H1=>tyV K T x H1∧t σ H1 fun xs H2=>r x xs H2 Q
variable {o e:Expr} {es:List Expr} {to:TE} {t:TA} {name:Str} {apos cpos:Pos} {T id:String} {r:V→List V→Hp→VK→Prop}
theorem pe_bm (pa:PlainAttrs T) (slot:Slot T name id) (hty:typeOf (.builtin id)=pure (.type "method_descriptor")) (hm:MtR X id r) (ho:PE X o to) (ha:PA X (e::es) t)
    (hbase:attributeBase o name X.env (eval o X.env)=eval o X.env:=by rfl)
    (hfew:((backTo cpos (starEach (e::es) X.env)).all (fun x=>!x.1) && (backToKw cpos (keywordEach [] X.env)).all (fun x=>x.1.isSome)
      && decide ((e::es).length+([]:List Keyword).length+(if ([]:List Keyword).isEmpty then 0 else 1)<30))=true:=by rfl)
    (hline:(apos.endLine == cpos.line)=true:=by rfl) (hs:starEach (e::es) X.env=(false,eval e X.env)::starEach es X.env:=by rfl) (hplain:(backTo cpos (starEach es X.env)).any (·.1)=false:=by rfl) :
    PE X (.Call (.Attribute o name apos) (e::es) [] cpos) (tBM X.K T r to t):=by
  intro pins s σ H Q I h
  refine wpAny_Call_method_late hbase hfew hline rfl (thn (ho pins s σ H _ I h) fun v s1 ⟨x,H1,I1,r1,ty,q1⟩=>?_)
  obtain ⟨h1,h2⟩:=tyV_is I1 r1 ty
  refine ⟨T,id,pa,slot,hty,h1,h2,?_⟩
  have hA:=ha cpos pins s1 σ H1 _ I1 q1
  rw [hs] at hA ⊢
  refine Calls.callWith_builtin (by show (false || (backTo cpos (starEach es X.env)).any (·.1))=false; rw [hplain]<;>rfl) (Calls.evalArgs_plain ?_)
  exact thn hA fun us s2 ⟨vs,H2,I2,r2,q2⟩=>hm pins s2 σ H2 x vs v us Q I2 r1 r2 q2
end
end L2
namespace L2
open PySem PySem.Spec PyProof.Rows
def MtM (X:Cx) (id:String) (r:V→List V→Hp→VK→Prop):Prop:=
  ∀(pins:List (Addr×Obj)) (s:Shared) (σ:St) (H:Hp) (x:V) (xs:List V) (v:Value) (us:List Value) (Q:VK),Inv X pins σ H s→RelV x v→Vals xs us→r x xs H Q→
    wpAny (model X.prog X.w) X.A (call (.builtin id) (v::us)) (EP X pins σ Q) X.xe s
theorem Vals.one:∀{x:V} {us:List Value},Vals [x] us→∃u,us=[u]∧RelV x u
  | _,_,.cons r .nil=>⟨_,rfl,r⟩
theorem Vals.two:∀{x y:V} {us:List Value},Vals [x,y] us→∃u v,us=[u,v]∧RelV x u∧RelV y v
  | _,_,_,.cons r (.cons q .nil)=>⟨_,_,rfl,r,q⟩
theorem Vals.zero:∀{us:List Value},Vals [] us→us=[]
  | _,.nil=>rfl
theorem Vals.rep {xs:List V} {us:List Value} (h:Vals xs us):∀k:Nat,Vals (List.replicate k xs).flatten (List.replicate k us).flatten
  | 0=>.nil
  | k+1=>by
    rw [List.replicate_succ,List.replicate_succ,List.flatten_cons,List.flatten_cons]
    exact Vals.append h (Vals.rep h k)
theorem foldl_rep (its:List Value):∀(k:Nat) (acc:List Value),
    List.foldl (fun x1 x2=>x1++x2) acc.toArray (List.replicate k its.toArray)=(acc++(List.replicate k its).flatten).toArray
  | 0,acc=>by simp
  | k+1,acc=>by
    have e:acc.toArray++its.toArray=(acc++its).toArray:=by simp
    have e2:(acc++its)++(List.replicate k its).flatten=acc++(List.replicate (k+1) its).flatten:=by
      rw [List.replicate_succ,List.flatten_cons,List.append_assoc]
    rw [←e2,←foldl_rep its k (acc++its),←e,List.replicate_succ,List.foldl_cons]
section
variable {X:Cx} {pins:List (Addr×Obj)} {σ:St} {H:Hp} {s:Shared} {l b:Addr} {xs ys zs:List V}
theorem Inv.lset {its its':List Value} {n:Nat} {f:Array Value→Array Value} {t':Nat} (I:Inv X pins σ H s) (hH:H l=some (.lst xs))
    (e:s.heap.get? l=some { cls:=.type "list",data:=.seq its.toArray n }) (hf:f its.toArray=its'.toArray) (hv:Vals ys its') (hz:ys.length≤sizeLine) :
    Inv X pins σ (upd H l (.lst ys)) { s with heap:=s.heap.update l (Obj.mapSeq f),toks:=t' }:=by
  have q:=PySem.IsL.update e f
  rw [hf] at q
  refine I.write (x:=l) (e:=l) (by rw [hH]; exact trivial) (.inl rfl) (fun b' u hb hu=>(Heap.get?_update_other s.heap (Obj.mapSeq f) (Ne.symm hb)).trans hu) ⟨_,q⟩ ?_
  exact ⟨hz,its',_,hv,q⟩
theorem Inv.lnew {its:List Value} {t':Nat} (I:Inv X pins σ H s) (hv:Vals ys its) (hz:ys.length≤sizeLine) :
    Inv X pins σ (upd H s.heap.objs.size (.lst ys)) { s with heap:=s.heap.push { cls:=.type "list",data:=.seq its.toArray },toks:=t' }:=
  I.laid (fun _ _ q=>Heap.get?_push_of_some _ q) (Nat.le_refl _) ⟨hz,its,0,hv,Heap.get?_push_size _ rfl⟩
theorem Inv.fresh (I:Inv X pins σ H s):H s.heap.objs.size=none:=I.hok.fresh (Nat.le_refl _)
theorem Inv.lstM (I:Inv X pins σ H s) (hH:H l=some (.lst xs)):xs.length≤sizeLine∧∃(its:List Value) (n:Nat),Vals xs its∧xs.length=its.length∧s.heap.get? l=some { cls:=.type "list",data:=.seq its.toArray n }:=by
  obtain ⟨z,its,n,r,e⟩:=I.hok l _ hH
  exact ⟨z,its,n,r,r.length,e⟩
theorem notLongL {n:Nat} (h:n≤sizeLine):Builtin.List.listTooLong n=false:=by
  unfold Builtin.List.listTooLong
  exact decide_eq_false (by omega)
end
section
variable {X:Cx}
def rAppend:V→List V→Hp→VK→Prop:=fun x vs H Q=>∃l xs y,x=.ref l∧vs=[y]∧H l=some (.lst xs)∧xs.length<sizeLine∧Q .non (upd H l (.lst (xs++[y])))
theorem mt_append:MtM X "list.append" rAppend:=by
  intro pins s σ H x vs v us Q I rx rv h
  obtain ⟨l,xs,y,rfl,rfl,hH,hz,q⟩:=h
  cases rx
  obtain ⟨u,rfl,ru⟩:=rv.one
  obtain ⟨z,its,n,r,hl,e⟩:=I.lstM hH
  refine call_meets F.slot_list_append ⟨_,e,rfl⟩ F.entry_list_append (F.args_list_append_2 _ _) (PySem.list_append l its.toArray n u (by rw [List.size_toArray]; omega)) ⟨e,?_⟩
  refine ⟨.non,_,I.lset (its':=its++[u]) hH e (by simp) (r.append (.cons ru .nil)) ?_,rfl,q⟩
  rw [List.length_append,List.length_singleton]
  omega
def rExtend:V→List V→Hp→VK→Prop:=fun x vs H Q=>∃l b xs zs,x=.ref l∧vs=[.ref b]∧H l=some (.lst xs)∧H b=some (.lst zs)∧xs.length+zs.length≤sizeLine∧Q .non (upd H l (.lst (xs++zs)))
theorem mt_extend:MtM X "list.extend" rExtend:=by
  intro pins s σ H x vs v us Q I rx rv h
  obtain ⟨l,b,xs,zs,rfl,rfl,hH,hB,hz,q⟩:=h
  cases rx
  obtain ⟨u,rfl,ru⟩:=rv.one
  cases ru
  obtain ⟨z,its,n,r,hl,e⟩:=I.lstM hH
  obtain ⟨z2,its2,n2,r2,hl2,e2⟩:=I.lstM hB
  have hsz:its.toArray.size+its2.toArray.size≤sizeLine:=by rw [List.size_toArray,List.size_toArray]; omega
  have hlong:¬(!its.toArray.isEmpty && Builtin.List.listTooLong (its.toArray.size+its2.toArray.size))=true:=by
    rw [notLongL hsz,Bool.and_false]
    exact Bool.false_ne_true
  refine call_meets F.slot_list_extend ⟨_,e,rfl⟩ F.entry_list_extend (F.args_list_extend_2 _ _)
    (AutoSeq1.list_extend_list_list_0 l its.toArray n b its2.toArray n2 hlong (by rw [List.size_toArray]; omega) (by omega)) ⟨e,e2,?_⟩
  refine ⟨.non,_,I.lset (its':=its++its2) hH e (by simp) (r.append r2) ?_,rfl,q⟩
  rw [List.length_append]
  omega
def rCat:R2:=fun x y H Q=>∃l b xs zs,x=.ref l∧y=.ref b∧H l=some (.lst xs)∧H b=some (.lst zs)∧xs.length+zs.length≤sizeLine∧∀p,H p=none→Q (.ref p) (upd H p (.lst (xs++zs)))
theorem op_cat:OpR X (binaryOp .Add) rCat:=by
  intro pins s σ H x y v u Q I rx ry h
  obtain ⟨l,b,xs,zs,rfl,rfl,hH,hB,hz,q⟩:=h
  cases rx
  cases ry
  obtain ⟨z,its,n,r,hl,e⟩:=I.lstM hH
  obtain ⟨z2,its2,n2,r2,hl2,e2⟩:=I.lstM hB
  refine PySem.P.add_list e e2 ?_ (by rw [List.size_toArray,List.size_toArray]; omega)
  have ea:its.toArray++its2.toArray=(its++its2).toArray:=by simp
  rw [ea]
  exact ⟨.ref _,_,I.lnew (t':=s.toks) (r.append r2) (by rw [List.length_append]; omega),rfl,q _ I.fresh⟩
def rRep:R2:=fun x y H Q=>∃l k xs,x=.ref l∧y=.int k∧H l=some (.lst xs)∧-(2 ^ 63)≤k∧k<2 ^ 63∧xs.length*k.toNat≤sizeLine∧
  ∀p,H p=none→Q (.ref p) (upd H p (.lst (List.replicate k.toNat xs).flatten))
theorem len_rep {α:Type} (xs:List α) (k:Nat):(List.replicate k xs).flatten.length=k*xs.length:=by
  induction k with
  | zero=>simp
  | succ k ih=>rw [List.replicate_succ,List.flatten_cons,List.length_append,ih,Nat.succ_mul,Nat.add_comm]
theorem op_rep:OpR X (binaryOp .Mult) rRep:=by
  intro pins s σ H x y v u Q I rx ry h
  obtain ⟨l,k,xs,rfl,rfl,hH,h1,h2,hz,q⟩:=h
  cases rx
  obtain ⟨t,rfl⟩:=ry
  obtain ⟨z,its,n,r,hl,e⟩:=I.lstM hH
  have hlen:its.toArray.size*k.toNat≤sizeLine:=by rw [List.size_toArray,←hl]; exact hz
  have hcap:¬its.toArray.size*k.toNat > (2 ^ 63-1)/8:=by
    have:(sizeLine:Nat)≤(2 ^ 63-1)/8:=by decide
    omega
  have hfit:¬(!Builtin.List.listFitsIndex k)=true:=by
    rw [fitsIndex_both h1 h2]
    exact Bool.false_ne_true
  have hlong:¬Builtin.List.listTooLong (its.toArray.size*k.toNat)=true:=by
    rw [notLongL hlen]
    exact Bool.false_ne_true
  have hnew:List.foldl (fun x1 x2=>x1++x2) #[] (List.replicate (if its.toArray.isEmpty=true then 0 else k.toNat) its.toArray)=(List.replicate k.toNat its).flatten.toArray:=by
    have f0:∀m:Nat,List.foldl (fun x1 x2=>x1++x2) #[] (List.replicate m its.toArray)=(List.replicate m its).flatten.toArray:=fun m=>by
      have:=foldl_rep its m []
      rw [List.nil_append] at this
      exact this
    rw [f0]
    cases its with
    | nil=>simp
    | cons a r'=>rw [if_neg (by simp)]
  refine wpAny_binaryOp_repeat_ref (T:="list") (U:="int") (by decide) ⟨_,e,rfl⟩ (fun s'=>typeIs_int s' k t) noFill_list_mul F.fills_int_mul F.slot_int_rmul repeat_list F.slot_int_index.lookup
    (call_meets F.slot_int_rmul (typeIs_int s k t) F.entry_int_rmul (F.args_int_rmul_2 _ _) (int___rmul___int_list k t l its.toArray n)
      ⟨e,rfl,⟨_,e,rfl⟩,call_meets F.slot_list_mul ⟨_,e,rfl⟩ F.entry_list_mul (F.args_list_mul_2 _ _) (AutoListH.list___mul___list_int_3 l its.toArray n k t hfit hcap hlong) ⟨e,?_⟩⟩)
  rw [hnew]
  exact ⟨.ref _,_,I.lnew (t':=s.toks) (r.rep k.toNat) (by rw [len_rep,Nat.mul_comm]; exact hz),rfl,q _ I.fresh⟩
end
section
variable {prog:Program} {w:World} {A:Around} {E:Value→Shared→Prop} {s:Shared}
theorem bounds_run {a c n:Nat} (hac:a≤c) (hc:c≤n):sliceBounds (some (a:Int)) (some (c:Int)) none n=((a:Int),(c:Int),1):=by
  simp only [sliceBounds,Option.getD_none]
  have h1:¬((a:Int)<0):=by omega
  have h2:¬((c:Int)<0):=by omega
  simp only [h1,h2,if_false,show (1:Int) > 0 by decide,if_true]
  congr 1
  · omega
  · congr 1; omega
set_option maxRecDepth 100000 in
theorem setItem_slice {l b sl:Addr} {items new:Array Value} {n n2:Nat} {vl vu:Value} {a c:Nat} {Q:Unit→Shared→Prop}
    (e:s.heap.get? l=some { cls:=.type "list",data:=.seq items n }) (e2:s.heap.get? b=some { cls:=.type "list",data:=.seq new n2 }) (hne:l≠b)
    (hs:s.heap.IsSliceOf sl vl vu .none) (pl:IsPart vl (some (a:Int))) (pu:IsPart vu (some (c:Int))) (hac:a≤c) (hc:c≤items.size)
    (hsz:items.size+new.size≤sizeLine) (h:Q () { s with heap:=s.heap.update l (Obj.mapSeq fun xs=>xs.extract 0 a++new++xs.extract c xs.size) }) :
    wpAny (model prog w) A (setItem (.ref l) (.ref sl) (.ref b)) Q E s:=by
  have hl:s.heap.IsList l items:=PySem.IsL.isList e
  have hb:s.heap.IsList b new:=PySem.IsL.isList e2
  obtain ⟨os,hos,hcs,hds⟩:=id hs
  have hTs:s.TypeIs (.ref sl) "slice":=⟨os,hos,hcs⟩
  have hstep:¬((rawPart none == rawInt 0)=true):=Bool.false_ne_true
  have hsame:Builtin.List.listSameRef (.ref l) (.ref b)=false:=by
    unfold Builtin.List.listSameRef
    exact beq_eq_false_iff_ne.mpr hne
  have hmax:(max (a:Int) (c:Int)).toNat=c:=by omega
  have hz':((fun xs:Array Value=>xs.extract 0 a++new++xs.extract c xs.size) items).size≤sizeLine+1:=by
    simp only [Array.size_append,Array.size_extract]
    omega
  unfold setItem
  try with_reducible refine wpAny_holding ?_
  first | refine wpAny_bind (wpAny_pure ?_) | skip
  refine wpAny_bind (wpAny_sequenceKey hl.typeIs (by decide) ?_)
  refine wpAny_bind (wpAny_callSpecial?_slot (name:=Str.ofString "__setitem__") hl.typeIs slot_list_setitem
    (wpAny_call_entry slot_list_setitem hl.typeIs entry_list_setitem ?_ (args_list_setitem _ _ _)))
  show wpAny _ _ (Builtin.List.listSubscript? (.ref sl) >>= _) _ _ s
  refine wpAny_bind ?_
  unfold Builtin.List.listSubscript?
  refine wpAny_bind (wpAny_specialOf hTs slice_no_index ?_)
  simp only [Option.isNone_none,if_true]
  refine wpAny_pure ?_
  show wpAny _ _ (typeOf (.ref sl) >>= _) _ _ s
  refine wpAny_bind (wpAny_typeOf hTs ?_)
  first
    | rw [if_neg (by decide)]
    | refine PySem.W.KFB.if_not (by decide) ?_
  rw [listSliceParts_eq]
  refine wpAny_bind (wpAny_bind (wpAny_field hos hds (x:=.none) rfl (wpAny_bind (wpAny_listPart .none ?_))))
  rw [if_neg hstep]
  refine wpAny_bind (wpAny_field hos hds (x:=vl) rfl (wpAny_bind (wpAny_listPart pl ?_)))
  refine wpAny_bind (wpAny_field hos hds (x:=vu) rfl (wpAny_bind (wpAny_listPart pu (wpAny_pure ?_))))
  first
    | simp only [hsame,Bool.false_eq_true,if_false]
    | refine PySem.W.KFB.if_not hsame ?_
    | (dsimp only
       rw [if_neg (by rw [hsame]; exact Bool.false_ne_true)])
  refine wpAny_bind (m:=Builtin.List.listAllItems (.ref b) "must assign iterable to extended slice") ?_
  unfold Builtin.List.listAllItems
  refine wpAny_bind (wpAny_typeOf hb.typeIs ?_)
  first
    | refine PySem.W.KFB.if_so (by decide) ?_
    | rw [if_pos (by decide)]
    | simp only [beq_self_eq_true,Bool.true_or,if_true]
  unfold Builtin.List.listItems
  refine wpAny_bind (wpAny_seqItems e2 rfl (wpAny_pure ?_))
  refine wpAny_bind (wpAny_bind (wpAny_seqItems e rfl (wpAny_pure ?_)))
  refine wpAny_bind (wpAny_of_eq ((sliceIndices_raw (some (a:Int)) (some (c:Int)) none items.size (by simp)).trans (congrArg (pure:Int×Int×Int→Sem (Int×Int×Int)) (bounds_run hac hc))) ?_)
  show wpAny _ _ (if ((1:Int) == 1)=true then _ else _) _ _ s
  rw [if_pos (by decide)]
  refine wpAny_bind (wpAny_rule ?_)
  first
    | simp only [notLongL hsz,Bool.false_eq_true,if_false]
    | refine PySem.W.KFB.if_not (notLongL hsz) ?_
  first | refine wpAny_bind (wpAny_pure ?_) | skip
  show wpAny _ _ (updateSeq l (fun xs=>xs.extract 0 ((a:Int)).toNat++new++xs.extract (max (a:Int) (c:Int)).toNat xs.size) >>= _) _ _ s
  rw [hmax,Int.toNat_natCast]
  refine wpAny_bind (wpAny_updateSeq (hz:=Nat.le_trans (Nat.le_add_right _ _) hsz) (_hz':=hz') e rfl ?_)
  refine wpAny_bind (wpAny_letGo ?_)
  first
    | exact wpAny_bind (wpAny_pure (wpAny_pure ⟨.none,rfl,wpAny_pure h⟩))
    | exact wpAny_pure ⟨.none,rfl,wpAny_pure h⟩
end
section
variable {X:Cx}
end
end L2
namespace Att
open PySem PySem.W PySem.Calls PyProof.Rows
theorem ints_of_wellAll {P:Params} {h:Heap}:∀(ns:List Int) (vs:List Value),WellAll P h vs (ns.map WData.int)→IntsAre vs ns:=by
  intro ns
  induction ns with
  | nil=>
    intro vs w
    rw [List.map_nil] at w
    cases w
    exact .nil
  | cons n ns ih=>
    intro vs w
    rw [List.map_cons] at w
    cases w with
    | cons a b=>
      cases a
      exact .cons _ _ (ih _ b)
theorem script_of {l:OpenLaw} {n:Nat} (hn:l.most=some n) {P:Params} {h:Heap} {args:List WData} {vals:List Value}
    (hpre:l.row.toRowW.claim.pre args=true) (hwl:WellAll P h vals args) :
    ∃a vs ns,vals=[Value.ref a]∧args=[WData.list (ns.map WData.int)]∧h.get? a=some { cls:=.type "list",data:=.seq vs.toArray }∧IntsAre vs ns∧ns.length≤n:=by
  have hsh:WShape.hasAll [] args [.list .int]=true:=(pre_splitW hpre).1
  have hc:l.pre.holds [] { args:=args }=true:=(pre_splitW hpre).2
  obtain ⟨d,r,rfl,h1,h2⟩:=hasAllW_cons hsh
  obtain rfl:=hasAllW_nil h2
  obtain ⟨xs,rfl,h3⟩:=hasW_list h1
  obtain ⟨ns,rfl⟩:=items_int h3
  have hlen:ns.length≤n:=by
    unfold OpenLaw.pre at hc
    have h4:(WTm.not (.lt (.lit (.int (n:Int))) (.len (.arg 0)))).holds [] { args:=[.list (ns.map .int)] }=true:=by
      have h4:=(holds_andW hc).1
      rw [hn] at h4
      exact h4
    have h5:=condW_of h4 (w_not (w_lt w_lit (w_len_list (w_arg rfl))))
    rw [List.length_map] at h5
    refine Nat.le_of_not_lt fun q=>?_
    have q':(n:Int)<((ns.length:Nat):Int):=by omega
    first
      | (rw [decide_eq_true q'] at h5; exact absurd h5 (by decide))
      | (simp at h5; omega)
  cases hwl with
  | cons w1 w2=>
    cases w2
    cases w1 with
    | list ho hall=>exact ⟨_,_,ns,rfl,rfl,ho,ints_of_wellAll ns _ hall,hlen⟩
theorem post_true (l:OpenLaw) (args:List WData):l.row.toRowW.claim.post args (.bool true) args=true:=
  postW_of (r:=l.row.toRowW) (X:=(true == true))
    (show WShape.has [] (.bool true) .bool=true by first | rfl | decide | simp [WShape.has,WShape.arms,WShape.armsAll])
    (show (WTm.eq .res (.lit (.bool true))).value [] { args:=args,res:=some (.bool true),after:=args }=some (.bool (true == true)) from w_eq_bool (w_res rfl) w_lit) rfl
theorem attach_call {l:OpenLaw} {n:Nat} {q:Program} {loose:List Str} {XP:(Str→Option Value)→Heap→Prop} {YP:World→Heap→Prop} {d:DefRec}
    (hn:l.most=some n) (hdf:d.params.defaults=[])
    (call:∀(w:World) (s₀ s₁:Shared) (mg mb:Str→Option Value) (fa:Addr) (o:Obj) (pm cd doc:Value) (a:Addr) (vs:List Value) (ns:List Int),
      Ground q loose [] XP w s₀ mg mb s₁.heap→YP w s₁.heap→
      s₁.heap.get? fa=some o→o.data=.func (docDef d.name d.params d.body d.scope pm cd doc)→s₁.heap.CodeRec cd d.name→mg d.name=some (.ref fa)→
      s₁.heap.get? a=some { cls:=.type "list",data:=.seq vs.toArray }→IntsAre vs ns→ns.length≤n→s₁.gens=#[]→
      codeAny (model l.prog w) callerA (.call (.ref fa) ⟨[.ref a],[]⟩) (fun r s'=>r=.ok (.ret (.bool true))∧OldK s₁.heap s'.heap∧s'.os=s₁.os∧AllBare s'.gens) s₁) :
    WalkO q loose XP YP l.row.toRowW d [] (fun f vs=>PySem.call f vs):=by
  intro w s₀ s₁ mg mb G Y fa o pm cd doc dV kV ho hd hcd hD hmg hg args vals as hpre hlay hrd hwl hlo
  obtain rfl:dV=.none:=Dflts.none hD hdf
  obtain rfl:kV=.none:=Dflts.noKw hD
  obtain ⟨a,vs,ns,rfl,rfl,hobj,hints,hlen⟩:=script_of hn hpre hwl
  refine enter_call (codeAny_mono (call w s₀ s₁ mg mb fa o pm cd doc a vs ns G Y ho (fd_plain hd) hcd hmg hobj hints hlen hg) fun r s' hq=>?_)
  obtain ⟨rfl,h2,h3,h4⟩:=hq
  exact ⟨.inl ⟨.bool true,.bool true,[],rfl,fun _=>rfl,.bool true,post_true l _,fun _=>⟨List.Pairwise.nil,fun _ hm=>(nomatch hm)⟩⟩,h2,h3,h4⟩
section
variable {prog:Program} {w:World} {A:Around} {E:Value→Shared→Prop} {s:Shared} {K:Frag}
end
end Att
namespace L2
open PySem PySem.Spec PyProof.Rows
theorem vals_ints:∀{vs:List Value} {ns:List Int},IntsAre vs ns→Vals (ns.map V.int) vs
  | _,_,.nil=>.nil
  | _,_,.cons n t h=>.cons ⟨t,rfl⟩ (vals_ints h)
def Only (H:Hp):Prop:=∀b,H b=none∨∃o xs,H b=some (.frz o (.lst xs))
theorem law_call {P:Program} {w:World} {K:PySem.W.Frag} {mg mb:Str→Option Value} {CX:CXT} {k:Nat} {fa a:Addr} {fd:FuncData} {x:Str} {sp:Sp} {s₁:Shared} {vs:List Value} {ns:List Int}
    (KX:K.In s₁.heap) (hns:s₁.heap.Ns mainGlobals mg) (hb:s₁.heap.Ns builtinsNs mb) (hbb:∀x:Str,x≠"__name__"→mb x=bootBuiltins x) (hlim:s₁.heap.NoLimit) (hg:s₁.gens=#[])
    (ha:s₁.heap.get? a=some { cls:=.type "list",data:=.seq vs.toArray }) (hi:IntsAre vs ns) (hl:ns.length≤sizeLine) (hr:Room k callerA)
    (F:∀base:Heap,K.In base→base.Ns mainGlobals mg→FnOk P w K mg base CX k fa fd [x] sp) (hbind:∀(s:Shared) (u:Value),BindsTo s fd ⟨[u],[]⟩ [(x,u)])
    (hsp:∀H:Hp,Only H→SqL K H a (ns.map V.int)→sp [.ref a] H (fun v _=>v=.bl true) fun _ _ _=>False)
    (hCX:∀H e s',CX [] H s₁ (fun _ _ _=>False) e s'→False) :
    codeAny (model P w) callerA (.call (.ref fa) ⟨[.ref a],[]⟩) (fun r s'=>r=.ok (.ret (.bool true))∧OldK s₁.heap s'.heap∧s'.os=s₁.os∧AllBare s'.gens) s₁:=by
  have rv:=vals_ints hi
  have lenV:=hi.length
  have core:∀H:Hp,Only H→SqL K H a (ns.map V.int)→HOk P w H s₁.heap→(∀b,H b≠none→b=a)→(H a≠none→K.lookup a=none)→
      codeAny (model P w) callerA (.call (.ref fa) ⟨[.ref a],[]⟩) (fun r s'=>r=.ok (.ret (.bool true))∧OldK s₁.heap s'.heap∧s'.os=s₁.os∧AllBare s'.gens) s₁:=by
    intro H hO hS hok hA hK
    have base_of:∀{b:Addr} {o:Obj},s₁.heap.get? b=some o→H b=none→(hidT s₁.heap H).get? b=some o:=fun e n=>hidT_get e n
    have noA:∀{b:Addr} {o:Obj} {es:Array DictEntry} {ep:Nat},s₁.heap.get? b=some o→o.data=.dict es ep→H b=none:=fun {b o es ep} e d=>by
      cases q:H b with
      | none=>rfl
      | some u=>
        have e':b=a:=hA b (by rw [q]; simp)
        subst e'
        rw [ha] at e; cases e
        have d':Data.seq vs.toArray _=Data.dict es ep:=d
        cases d'
    have nsK:∀{b:Addr} {m:Str→Option Value},s₁.heap.Ns b m→(hidT s₁.heap H).Ns b m:=fun {b m} ⟨o,es,ep,e,d,r⟩=>⟨o,es,ep,base_of e (noA e d),d,r⟩
    have hKb:K.In (hidT s₁.heap H):=fun b o e=>base_of (KX b o e) (by
      cases q:H b with
      | none=>rfl
      | some u=>
        have e':b=a:=hA b (by rw [q]; simp)
        subst e'
        rw [hK (by rw [q]; simp)] at e; cases e)
    have hM:Mod K mg (hidT s₁.heap H):=⟨hKb,nsK hns,⟨mb,nsK hb,hbb⟩,let ⟨mc,h1,h2⟩:=hlim; ⟨mc,nsK h1,h2⟩⟩
    have e0:Env0 P w K mg (hidT s₁.heap H) callerA [] s₁ H:=⟨rfl,hM,fun b o e=>of_hidT e,Nat.le_of_eq (hidT_size _ _),trivial,fun b hb=>absurd (show b∈([]:List Addr) from hb) (by simp),hok,.of_eq hg⟩
    refine codeAny_mono ((F _ hKb (nsK hns)).run callerA [] s₁ H ⟨[.ref a],[]⟩ [.ref a] [.ref a] _ _ hr e0 (hbind s₁ (.ref a)) (.cons rfl .nil) (hsp H hO hS)) fun r s' h=>?_
    cases r with
    | error e=>exact (hCX H e s' h).elim
    | ok fl=>
      cases fl with
      | next=>exact False.elim h
      | brk=>exact False.elim h
      | cont=>exact False.elim h
      | ret u=>
        obtain ⟨v,H',os,bare,un,hok',r',q⟩:=h
        have q':v=.bl true:=q
        subst q'
        obtain rfl:u=Value.bool true:=r'
        refine ⟨rfl,OldK.of_keep fun b o e=>?_,os,bare⟩
        cases q:H b with
        | none=>exact un.keep b o e q (by intro z; exact absurd (show b∈([]:List Addr) from z) (by simp)) (by simp)
        | some u=>
          rcases hO b with z | ⟨ob,xs,z⟩
          · rw [q] at z; cases z
          · have z2:=un.frzs b ob _ z
            obtain ⟨e1,_⟩:=hok b _ z
            obtain ⟨e2,_⟩:=hok' b _ z2
            rw [e] at e1; cases e1
            exact e2
  cases hk:K.lookup a with
  | some o=>
    have e:=KX a o hk
    rw [ha] at e
    cases e
    refine core (fun _=>none) (fun _=>.inl rfl) (.inr ⟨_,vs.toArray,_,hk,rfl,rfl,rfl,by rw [List.size_toArray,lenV]; exact hl,by simpa using rv⟩) (fun b u z=>by have z':(none:Option HO)=some u:=z; cases z') (fun b z=>absurd rfl z) fun z=>absurd rfl z
  | none=>
    refine core (fun b=>if b=a then some (.frz { cls:=.type "list",data:=.seq vs.toArray } (.lst (ns.map V.int))) else none) (fun b=>?_) (.inl (.inr ⟨{ cls:=.type "list",data:=.seq vs.toArray },if_pos rfl⟩)) (fun b u z=>?_) (fun b z=>?_) fun _=>hk
    · by_cases hb:b=a
      · exact .inr ⟨_,_,if_pos hb⟩
      · exact .inl (if_neg hb)
    · by_cases hb:b=a
      · have z':=(if_pos hb).symm.trans z
        cases z'
        subst hb
        exact ⟨ha,by rw [List.length_map]; exact hl,vs,_,rv,ha⟩
      · have z':=(if_neg hb).symm.trans z
        cases z'
    · by_cases hb:b=a
      · exact hb
      · exact absurd (if_neg hb) z
end L2
namespace L2
open PySem PySem.Spec PyProof.Rows
theorem walk_of {l:PySem.W.OpenLaw} {n k:Nat} {q:Program} {loose:List Str} {XP:(Str→Option Value)→Heap→Prop} {YP:World→Heap→Prop} {d:DefRec} {K:Params→PySem.W.Frag} {CX:World→CXT} {sp:World→Sp} {x:Str}
    (hn:l.most=some n) (hn2:n≤sizeLine) (hdf:d.params.defaults=[]) (hr:Room k callerA)
    (hY:∀(w:World) (h:Heap),YP w h→(K w.params).In h)
    (F:∀(w:World) (mg:Str→Option Value) (fa:Addr) (h:Heap),(K w.params).In h→h.Ns mainGlobals mg→mg d.name=some (.ref fa)→
      ∃fd:FuncData,(∀(s:Shared) (u:Value),BindsTo s fd ⟨[u],[]⟩ [(x,u)])∧
        ∀base:Heap,(K w.params).In base→base.Ns mainGlobals mg→FnOk l.prog w (K w.params) mg base (CX w) k fa fd [x] (sp w))
    (hsp:∀(w:World) (H:Hp) (a:Addr) (ns:List Int),ns.length≤n→Only H→SqL (K w.params) H a (ns.map V.int)→sp w [.ref a] H (fun v _=>v=.bl true) fun _ _ _=>False)
    (hCX:∀(w:World) (H:Hp) (s:Shared) (e:Value) (s':Shared),CX w [] H s (fun _ _ _=>False) e s'→False) :
    PySem.W.WalkO q loose XP YP l.row.toRowW d [] (fun f vs=>PySem.call f vs):=by
  refine Att.attach_call hn hdf fun w s₀ s₁ mg mb fa o pm cd doc a vs ns G Y ho hd hcd hmg hobj hints hlen hg=>?_
  have KX:=hY w _ Y
  obtain ⟨fd,hb,hF⟩:=F w mg fa _ KX G.T.g hmg
  exact law_call KX G.T.g G.T.b G.T.builtins G.T.nolimit hg hobj hints (Nat.le_trans hlen hn2) hr hF hb (fun H hO hS=>hsp w H a ns hlen hO hS) fun H e s'=>hCX w H s₁ e s'
end L2
namespace L2
open PySem PySem.Spec PyProof.Rows
def inClass (s:Stmt) (j:Nat):Stmt:=match s with
  | .ClassDef _ _ _ body _ _ _ _ _ _ _=>body.getD j (.Pass ⟨0,0,0,0⟩)
  | _=>.Pass ⟨0,0,0,0⟩
def defArgs (s:Stmt):Arguments:=match s with
  | .FunctionDef _ a _ _ _ _ _ _ _ _=>a
  | _=>{ posonlyargs:=[],args:=[],vararg:=none,kwonlyargs:=[],kw_defaults:=[],kwarg:=none,defaults:=[] }
def defBody (s:Stmt):List Stmt:=match s with
  | .FunctionDef _ _ b _ _ _ _ _ _ _=>b
  | _=>[]
def defScope (s:Stmt):Scope:=match s with
  | .FunctionDef _ _ _ _ _ _ sc _ _ _=>sc
  | _=>{ kind:=.function,names:=[],isGenerator:=false,isCoroutine:=false }
abbrev CX0:CXT:=fun _ _ _ _ _ _=>False
abbrev E0:XK:=fun _ _ _=>False
theorem pass0 {X:Cx}:Passes CX0 X E0:=fun _ _ _ _ _ _ _ h=>h.elim
structure Fun (K:PySem.W.Frag) (x qual:Str) (st:Stmt) (f:Addr) (fd:FuncData):Prop where
  ex:∃(oc:Value) (od:Option Addr) (kV doc pm:Value) (an:Option Addr) (cdv ct:Value) (osl:Array (Option Value)),
    fd=PySem.W.fnOf x qual (defArgs st) (defBody st) (defScope st) .none kV doc pm an cdv ct∧K.lookup f=some ⟨oc,od,.func fd,osl⟩∧PySem.W.codeIn K cdv qual=true
  kp:PySem.W.keepIn K (.ref f)=true
section
variable {P:Program} {w:World} {K:PySem.W.Frag} {mg:Str→Option Value} {base:Heap}
theorem Fun.ok {x qual:Str} {st:Stmt} {f:Addr} {fd:FuncData} {N ps:List Str} {k:Nat} {sp:Sp} (F:Fun K x qual st f fd) (S:FnScope N ps (defScope st)) (len:∀vs H Q E,sp vs H Q E→vs.length=ps.length)
    (hbody:∀(cdv:Value) (A:Around) (outer:List Env) (s:Shared) (H:Hp) (vs:List V) (Q:VK) (E:XK),Room k (A.deeper (envOfC qual (defScope st) s.heap.objs.size f cdv))→sp vs H Q E→
      ∃t,PSs (cxOf CX0 P w K mg base N qual (defScope st) f cdv A outer s H E).nox (defBody st) t∧t { nx:=fun _ H'=>Q .non H',rt:=Q } (start N vs) H):FnOk P w K mg base CX0 (k+1) f fd ps sp:=by
  obtain ⟨oc,od,kV,doc,pm,an,cdv,ct,osl,rfl,lk,hcd⟩:=F.ex
  refine fn_of lk hcd S len fun A outer s H vs Q E hr hsp=>?_
  obtain ⟨t,h,q⟩:=hbody cdv A outer s H vs Q E hr hsp
  exact ⟨t,h.nox,q⟩
theorem Fun.binds {x qual:Str} {st:Stmt} {f:Addr} {fd:FuncData} {ps:List Str} (F:Fun K x qual st f fd)
    (h:∀(kV doc pm:Value) (an:Option Addr) (cdv ct:Value) (us:List Value),us.length=ps.length→bindArgs (PySem.W.fnOf x qual (defArgs st) (defBody st) (defScope st) .none kV doc pm an cdv ct) ⟨us,[]⟩=pure (ps.zip us)):Binds K fd ps []:=by
  obtain ⟨oc,od,kV,doc,pm,an,cdv,ct,osl,rfl,lk,hcd⟩:=F.ex
  exact .all (h kV doc pm an cdv ct)
theorem fun_mk {x qual:Str} {st:Stmt} {f:Addr} {oc:Value} {od an:Option Addr} {osl:Array (Option Value)} {kV doc pm cdv ct:Value} (l:K.lookup f=some ⟨oc,od,.func (PySem.W.fnOf x qual (defArgs st) (defBody st) (defScope st) .none kV doc pm an cdv ct),osl⟩)
    (c:PySem.W.codeIn K cdv qual=true) (k:PySem.W.keepIn K (.ref f)=true):Fun K x qual st f (PySem.W.fnOf x qual (defArgs st) (defBody st) (defScope st) .none kV doc pm an cdv ct):=⟨⟨oc,od,kV,doc,pm,an,cdv,ct,osl,rfl,l,c⟩,k⟩
end
section
variable {X:Cx}
end
def Same (H H':Hp):Prop:=∀b o,H b=some o→H' b=some o
theorem Same.refl (H:Hp):Same H H:=fun _ _ h=>h
theorem Same.trans {H H1 H2:Hp} (a:Same H H1) (b:Same H1 H2):Same H H2:=fun c o h=>b c o (a c o h)
theorem Same.free {H H':Hp} (e:Same H H') {l:Addr} (h:H' l=Option.none):H l=Option.none:=by
  cases q:H l with
  | none=>rfl
  | some o=>
    rw [e l o q] at h
    cases h
theorem Same.seq {K:PySem.W.Frag} {H H':Hp} {a:Addr} {xs:List V} (e:Same H H') (h:SqL K H a xs):SqL K H' a xs:=by
  rcases h with (h | ⟨o,h⟩) | h
  · exact .inl (.inl (e _ _ h))
  · exact .inl (.inr ⟨o,e _ _ h⟩)
  · exact .inr h
end L2
set_option Elab.async false
set_option linter.all false
set_option maxRecDepth 100000
namespace L2
open PySem PySem.Spec PyProof.Rows
section
variable {P:Program} {w:World} {K:PySem.W.Frag} {mg:Str→Option Value} {base:Heap}
def Def0 (K:PySem.W.Frag) (mg:Str→Option Value) (x:Str) (st:Stmt) (ps:List Str):Prop:=
  ∃(f:Addr) (fd:FuncData),Fun K x x st f fd∧Binds K fd ps []∧mg x=some (.ref f)
def Def (P:Program) (w:World) (K:PySem.W.Frag) (mg:Str→Option Value) (base:Heap) (k:Nat) (x:Str) (ps:List Str) (sp:Sp):Prop:=
  ∃(f:Addr) (fd:FuncData),FnOk P w K mg base CX0 k f fd ps sp∧Binds K fd ps []∧PySem.W.keepIn K (.ref f)=true∧mg x=some (.ref f)
theorem Def0.ok {x:Str} {st:Stmt} {N ps:List Str} {k:Nat} {sp:Sp} (D:Def0 K mg x st ps) (S:FnScope N ps (defScope st)) (len:∀vs H Q E,sp vs H Q E→vs.length=ps.length)
    (hbody:∀(f:Addr) (cdv:Value) (A:Around) (outer:List Env) (s:Shared) (H:Hp) (vs:List V) (Q:VK) (E:XK),Room k (A.deeper (envOfC x (defScope st) s.heap.objs.size f cdv))→sp vs H Q E→
      ∃t,PSs (cxOf CX0 P w K mg base N x (defScope st) f cdv A outer s H E).nox (defBody st) t∧t { nx:=fun _ H'=>Q .non H',rt:=Q } (start N vs) H):Def P w K mg base (k+1) x ps sp:=by
  obtain ⟨f,fd,F,b,m⟩:=D
  exact ⟨f,fd,F.ok S len (hbody f),b,F.kp,m⟩
theorem Def.mono {x:Str} {ps:List Str} {j k:Nat} {sp:Sp} (D:Def P w K mg base j x ps sp) (h:j≤k):Def P w K mg base k x ps sp:=by
  obtain ⟨f,fd,F,b,kp,m⟩:=D
  exact ⟨f,fd,F.mono h,b,kp,m⟩
end
section
variable {X:Cx} {k:Nat} {x:Str} {ps:List Str} {sp:Sp} {p pos:Pos} {e:Expr} {es:List Expr} {t:TA}
theorem pe_callD {j:Nat} (D:Def X.prog X.w X.K X.mg X.base k x ps sp) (hr:Room j X.A) (hj:k≤j) (ha:PA X (e::es) t) (hg:Gl X x:=by rfl) (hdb:(x == ("__debug__":Str))=false:=by decide)
    (he:starEach (e::es) X.env=(false,eval e X.env)::starEach es X.env:=by rfl) (hpl:(backTo pos (starEach es X.env)).any (·.1)=false:=by rfl):PE X (.Call (.Name x p) (e::es) [] pos) (tCall sp [] E0 t):=by
  obtain ⟨f,fd,F,b,kp,m⟩:=D
  exact pe_call F (hr.mono hj) hg m kp b .nil pass0 ha hdb he hpl
theorem pe_gint {i:Int} (h:∃t,X.mg x=some (.int i t)) (hg:Gl X x:=by rfl) (hd:(x == ("__debug__":Str))=false:=by decide):PE X (.Name x pos) (tC (.int i)):=by
  obtain ⟨t,h⟩:=h
  exact pe_glob hg h ⟨t,rfl⟩ hd
def CDivC (_ j:Int):Prop:=0<j∧j.natAbs.log2<9000
theorem op_fdivC:OpR X (binaryOp .FloorDiv) (rI CDivC fun i j=>.int (i/j)):=opI fun i j _ _ _ _ _ hc q=>by
  have h1:(0:Int)<j:=hc.1
  exact floordiv_int (by omega) (by rw [Int.fdiv_eq_ediv_of_nonneg i (by omega)]; exact q) (.inl (PyProof.noPylong_of_log2 hc.2))
end
end L2
set_option Elab.async false
set_option linter.all false
set_option maxRecDepth 100000
set_option maxHeartbeats 4000000
namespace L2
open PySem PySem.Spec PyProof.Rows
theorem closure_some {scope:Scope} {env:Env} (h:∀x∈scope.names,x.2=.free→∃c,env.cells.lookup x.1=some c) :
    ∃cl:List (Str×Addr),closureFor scope env=pure cl∧(∀n c,(n,c)∈cl→env.cells.lookup n=some c)∧∀x∈scope.names,x.2=.free→∃c,(x.1,c)∈cl:=by
  have key:∀(names:List (Str×NameKind)) (acc:List (Str×Addr)),(∀x∈names,x.2=.free→∃c,env.cells.lookup x.1=some c)→(∀n c,(n,c)∈acc→env.cells.lookup n=some c)→
      ∃cl:List (Str×Addr),(forIn names acc fun (x:Str×NameKind) (cs:List (Str×Addr))=>if (x.2 == NameKind.free)=true then (do let c ←cellOf env x.1; pure (ForInStep.yield ((x.1,c)::cs)):Sem _) else pure (ForInStep.yield cs))=(pure cl:Sem _)∧
        (∀n c,(n,c)∈cl→env.cells.lookup n=some c)∧(∀p∈acc,p∈cl)∧∀x∈names,x.2=.free→∃c,(x.1,c)∈cl:=by
    intro names
    induction names with
    | nil=>intro acc _ ha; exact ⟨acc,rfl,ha,fun _ p=>p,fun x hx=>nomatch hx⟩
    | cons y r ih=>
      intro acc hx ha
      obtain ⟨n,k⟩:=y
      by_cases hk:k=.free
      · subst hk
        obtain ⟨c,hc⟩:=hx (n,.free) List.mem_cons_self rfl
        obtain ⟨cl,e,h1,h2,h3⟩:=ih ((n,c)::acc) (fun x z=>hx x (List.mem_cons_of_mem _ z)) (fun m d z=>by
          rcases List.mem_cons.mp z with z | z
          · cases z; exact hc
          · exact ha m d z)
        refine ⟨cl,?_,h1,fun p z=>h2 p (List.mem_cons_of_mem _ z),fun x z zf=>?_⟩
        · have ec:cellOf env n=pure c:=by unfold cellOf; rw [hc]
          rw [List.forIn_cons]
          simp only [beq_self_eq_true,if_true,ec,pure_bind]
          exact e
        · rcases List.mem_cons.mp z with z | z
          · cases z; exact ⟨c,h2 _ List.mem_cons_self⟩
          · exact h3 x z zf
      · obtain ⟨cl,e,h1,h2,h3⟩:=ih acc (fun x z=>hx x (List.mem_cons_of_mem _ z)) ha
        refine ⟨cl,?_,h1,h2,fun x z zf=>?_⟩
        · have hb:(k == NameKind.free)=false:=by simpa using hk
          rw [List.forIn_cons]
          simp only [hb,Bool.false_eq_true,if_false,pure_bind]
          exact e
        · rcases List.mem_cons.mp z with z | z
          · cases z; exact absurd zf hk
          · exact h3 x z zf
  obtain ⟨cl,e,h1,_,h3⟩:=key scope.names [] h (fun n c z=>nomatch z)
  refine ⟨cl,?_,h1,h3⟩
  simp only [closureFor]
  rw [e]
  rfl
def Cx.comp (X:Cx) (scope:Scope) (N':List Str) (cl:List (Str×Addr)) (C:Addr) (s₀:Shared) (H₀:Hp) (fp:List Addr):Cx where
  prog:=X.prog
  w:=X.w
  K:=X.K
  mg:=X.mg
  base:=X.base
  A:=X.A
  N:=N'
  s₀:=s₀
  H₀:=H₀
  env:=compEnvC scope cl C X.env
  outer:=X.stack
  stack:=X.stack
  ex:=fp
  fn:=fun _=>false
  calm:=X.calm
  pn:=[]
  xe:=fun _ _=>False
def inner (src:List Nat) (σ:St) (x:Option V):St:=x::src.map fun j=>(σ[j]?).join
theorem lookup_mem {α:Type} {l:List (Str×α)} {n:Str} {c:α} (h:(n,c)∈l):∃d,l.lookup n=some d:=by
  induction l with
  | nil=>cases h
  | cons y r ih=>
    obtain ⟨m,d⟩:=y
    by_cases e:n == m
    · exact ⟨d,by rw [List.lookup_cons,e]⟩
    · rcases List.mem_cons.mp h with z | z
      · cases z; exact absurd (beq_self_eq_true n) e
      · obtain ⟨d',q⟩:=ih z
        exact ⟨d',by rw [List.lookup_cons,Bool.eq_false_iff.mpr e]; exact q⟩
theorem relabel_kind {env:Env} {n:Str}:∀{names:List (Str×NameKind)} {k:NameKind},(∀y∈names,y.2≠.cell)→
    (names.map fun (n,k)=>if (k == NameKind.free && env.scope.kind == .function && env.kindOf n == some .cell) then (n,NameKind.cell) else (n,k)).lookup n=some k→(k=.cell∨k=.free)→(n,NameKind.free)∈names
  | [],_,_,h,_=>by simp at h
  | (m,j)::r,k,hc,h,hk=>by
    have nc:j≠.cell:=hc (m,j) List.mem_cons_self
    rw [List.map_cons] at h
    by_cases e:n == m
    · have en:n=m:=by simpa using e
      subst en
      by_cases cnd:(j == NameKind.free && env.scope.kind == .function && env.kindOf n == some .cell)=true
      · have:j=.free:=by
          simp only [Bool.and_eq_true,beq_iff_eq] at cnd
          exact cnd.1.1
        rw [this]
        exact List.mem_cons_self
      · simp only [cnd] at h
        rw [if_neg (by simp),List.lookup_cons,beq_self_eq_true] at h
        cases h
        rcases hk with rfl | rfl
        · exact absurd rfl nc
        · exact List.mem_cons_self
    · refine List.mem_cons_of_mem _ (relabel_kind (env:=env) (k:=k) (fun y hy=>hc y (List.mem_cons_of_mem _ hy)) ?_ hk)
      rw [List.lookup_cons] at h
      have e2:(n == (if (j == NameKind.free && env.scope.kind == .function && env.kindOf m == some .cell)=true then (m,NameKind.cell) else (m,j)).1)=false:=by
        split<;>exact Bool.eq_false_iff.mpr e
      rw [e2] at h
      exact h
theorem relabel_free {env:Env}:∀{names:List (Str×NameKind)} {x:Str},names.lookup x=some .free→
    (names.map fun (n,k)=>if (k == NameKind.free && env.scope.kind == .function && env.kindOf n == some .cell) then (n,NameKind.cell) else (n,k)).lookup x=some .cell∨
    (names.map fun (n,k)=>if (k == NameKind.free && env.scope.kind == .function && env.kindOf n == some .cell) then (n,NameKind.cell) else (n,k)).lookup x=some .free
  | [],_,h=>by simp at h
  | (n,k)::r,x,h=>by
    have ih:=@relabel_free env r x
    rw [List.map_cons]
    cases hx:x == n with
    | true=>
      simp only [List.lookup_cons,hx] at h
      cases h
      by_cases hc:(NameKind.free == NameKind.free && env.scope.kind == .function && env.kindOf n == some .cell)=true
      · left
        show List.lookup x ((if (NameKind.free == NameKind.free && env.scope.kind == .function && env.kindOf n == some .cell)=true then (n,NameKind.cell) else (n,NameKind.free))::_)=_
        rw [if_pos hc,List.lookup_cons,hx]
      · right
        show List.lookup x ((if (NameKind.free == NameKind.free && env.scope.kind == .function && env.kindOf n == some .cell)=true then (n,NameKind.cell) else (n,NameKind.free))::_)=_
        rw [if_neg hc,List.lookup_cons,hx]
    | false=>
      simp only [List.lookup_cons,hx] at h
      have e:∀t,List.lookup x ((if (k == NameKind.free && env.scope.kind == .function && env.kindOf n == some .cell)=true then (n,NameKind.cell) else (n,k))::t)=List.lookup x t:=fun t=>by
        split<;>rw [List.lookup_cons,hx]
      rcases ih h with q | q
      · exact .inl ((e _).trans q)
      · exact .inr ((e _).trans q)
section
variable {X:Cx} {x:Str} {px:Pos} {iter elt:Expr} {scope:Scope} {pos:Pos} {N':List Str} {src:List Nat} {wi:TI} {te:TE}
structure CompScope (scope sc:Scope) (x:Str) (N N':List Str) (src:List Nat):Prop where
  kind:scope.kind=.function
  cell:∀y∈scope.names,y.2≠.cell
  loc:∀y∈scope.names,y.2=.local→scope.names.lookup y.1=some .local
  own:scope.names.lookup x=some .local
  free:∀y∈scope.names,y.2=.free→sc.names.lookup y.1=some .cell
  nd:N'.Nodup
  names:N'=x::src.map fun j=>N.getD j x
  all:∀j∈src,j<N.length
  fr:∀j∈src,sc.names.lookup (N.getD j x)=some .cell∧scope.names.lookup (N.getD j x)=some .free
theorem comp_start {pins:List (Addr×Obj)} {σ:St} {H:Hp} {s s':Shared} {C:Addr} {cl:List (Str×Addr)} {fp:List Addr} (I:Inv X pins σ H s) (S:CompScope scope X.env.scope x X.N N' src)
    (hcl:∀n c,(n,c)∈cl→X.env.cells.lookup n=some c) (hcl2:∀y∈scope.names,y.2=.free→∃c,(y.1,c)∈cl) (hC:s.heap.objs.size≤C) (hfp:∀b∈fp,FpOk X pins H b) (hfl:∀b∈fp,b<s.heap.objs.size)
    (hn:∃m,s'.heap.Ns C m) (hk:∀b o,s.heap.get? b=some o→s'.heap.get? b=some o) (ho:s'.os=s.os) (hg:s'.gens=s.gens) :
    Inv (X.comp scope N' cl C s H fp) [] (inner src σ none) H s':=by
  have cll:∀n c,cl.lookup n=some c→X.env.cells.lookup n=some c:=fun n c e=>hcl n c (PySem.mem_of_lookup e)
  refine ⟨⟨I.ok.mod,S.kind,I.ok.glob,I.ok.blt,hC,fun y z c h1 h2=>I.ok.inj y z c (cll _ _ h1) (cll _ _ h2),fun y hy=>?_,fun y c h=>absurd (show false=true from h) (by decide),I.ok.hd,I.ok.frames,.inl rfl,fun b hb=>⟨Nat.ne_of_lt (Nat.lt_of_lt_of_le (hfl b hb) hC),fun y c e=>(hfp b hb).2.2.2.2.1 y c (cll y c e)⟩,
    I.bs,Nat.le_trans I.ok.bsz I.sz,fun b o e hb=>?_,fun b hb=>?_,I.stack,I.stkFree⟩,ho,?_,Un.kept hk,?_,fun y c e=>?_,I.hok.fresh hC,fun y c e=>I.freeC y c (cll y c e),fun p hp=>absurd (show p∈([]:List (Addr×Obj)) from hp) (by simp),I.hok.kept hk,?_⟩
  · have hy':(relabel scope X.env).names.lookup y=some .cell∨(relabel scope X.env).names.lookup y=some .free:=hy
    have:(y,NameKind.free)∈scope.names:=by
      rcases hy' with h | h
      · exact relabel_kind S.cell h (.inl rfl)
      · exact relabel_kind S.cell h (.inr rfl)
    obtain ⟨c,hc⟩:=hcl2 _ this rfl
    exact lookup_mem hc
  · rcases (hfp b hb).2.2.2.1 with z | z
    · exact I.ok.noex b o e z
    · exact absurd (Nat.lt_of_lt_of_le (Heap.lt_size e) (Nat.le_trans I.ok.bsz z)) (Nat.lt_irrefl _)
  · intro hs
    rcases List.mem_cons.mp (I.stkSub b hs) with z | z
    · exact (hfp b hb).2.1 z
    · exact (hfp b hb).2.2.1 z
  · rw [hg]; exact I.bare
  · obtain ⟨m,hm⟩:=hn
    refine ⟨m,hm,fun i y v h1 h2 h3=>?_⟩
    have h1':N'[i]?=some y:=h1
    rw [S.names] at h1'
    cases i with
    | zero=>cases (show (some none:Option (Option V))=some (some v) from h2)
    | succ k=>
      rw [List.getElem?_cons_succ,List.getElem?_map] at h1'
      have h2':(src.map fun j=>(σ[j]?).join)[k]?=some (some v):=h2
      rw [List.getElem?_map] at h2'
      cases e:src[k]? with
      | none=>rw [e] at h1'; cases h1'
      | some j=>
        rw [e] at h1' h2'
        have hj:=List.mem_of_getElem? e
        have ey:X.N.getD j x=y:=Option.some.inj h1'
        have ev:(σ[j]?).join=some v:=Option.some.inj h2'
        have eN:X.N[j]?=some y:=by
          have:=S.all j hj
          rw [List.getElem?_eq_getElem this]
          rw [List.getD_eq_getElem?_getD,List.getElem?_eq_getElem this] at ey
          exact congrArg some ey
        have eσ:σ[j]?=some (some v):=by
          cases q:σ[j]? with
          | none=>rw [q] at ev; cases ev
          | some z=>rw [q] at ev; exact congrArg some ev
        obtain ⟨k1,k2⟩:=S.fr j hj
        rw [ey] at k1 k2
        obtain ⟨mo,hmo,hl⟩:=I.loc
        obtain ⟨u,r,l⟩:=hl j y v eN eσ (.inr (.inl k1))
        refine ⟨u,r,?_⟩
        rcases l with ⟨z,_⟩ | ⟨_,c,hc,hcell⟩
        · have z':X.env.scope.names.lookup y=some .local:=z
          rw [k1] at z'; cases z'
        · obtain ⟨c',hc'⟩:=hcl2 _ (PySem.mem_of_lookup k2) rfl
          obtain ⟨d,hd⟩:=lookup_mem hc'
          have ed:d=c:=by
            have:=cll _ _ hd
            rw [hc] at this
            exact (Option.some.inj this).symm
          subst ed
          obtain ⟨o,e1,e2⟩:=hcell
          refine .inr ⟨?_,d,hd,o,hk _ _ e1,e2⟩
          rcases h3 with z | z | z
          · have z':(relabel scope X.env).names.lookup y=some .local:=z
            rcases relabel_free (env:=X.env) k2 with w | w
            · have w':(relabel scope X.env).names.lookup y=some .cell:=w
              rw [w'] at z'; cases z'
            · have w':(relabel scope X.env).names.lookup y=some .free:=w
              rw [w'] at z'; cases z'
          · exact .inl z
          · exact .inr z
  · obtain ⟨v,o,e1,e2⟩:=I.cell y c (cll y c e)
    exact ⟨v,o,hk _ _ e1,e2⟩
  · show (inner src σ none).length=N'.length
    rw [S.names]
    unfold inner
    rw [List.length_cons,List.length_cons,List.length_map,List.length_map]
theorem compLoop_go {prog:Program} {w:World} {A:Around} {R:Result→Shared→Prop} {s:Shared} {elt target iter:Expr} {scope:Scope} {pos:Pos} {it acc:Value} {env:Env} (I:Nat→Shared→Prop)
    (turn:∀n s,I n s→wpAny (model prog w) A (pyNext it) (fun r s₁=>match r with
      | none=>R (.ok .next) s₁
      | some v=>wpAny (model prog w) A (letOwnedTupleGo target it v) (fun _ s₂=>wpAny (model prog w) A (assign target env v) (fun _ s₃=>wpAny (model prog w) A (eval elt env) (fun x s₄=>
          wpAny (model prog w) A (call (.builtin "list.append") [acc,x]) (fun _ s₅=>∃m,m<n∧I m s₅) (notedBy (model prog w) A env fun e s'=>R (.error e) s') s₄) (notedBy (model prog w) A env fun e s'=>R (.error e) s') s₃)
          (notedBy (model prog w) A env fun e s'=>R (.error e) s') s₂) (notedBy (model prog w) A env fun e s'=>R (.error e) s') s₁) (notedBy (model prog w) A env fun e s'=>R (.error e) s') s)
    (n:Nat) (h:I n s):codeAny (model prog w) A (.compLoop (.ListComp elt [⟨target,iter,[],0⟩] scope pos) 0 it acc env) R s:=by
  refine codeAny_loop rfl I (fun n s hI=>?_) n h
  show wpAny _ A ((compTurn (.ListComp elt [⟨target,iter,[],0⟩] scope pos) 0 it acc env).onRaise (fun x=>do noteFrame x env; theTreesLotGoes x)) _ _ s
  refine wpAny_noted ?_
  rw [compTurn_list1]
  refine wpAny_bind (wpAny_standAt (wpAny_bind (thn (turn n s hI) fun r s₁ h₁=>?_)))
  cases r with
  | none=>exact wpAny_pure h₁
  | some v=>
    refine wpAny_bind (thn h₁ fun _ s₂ h₂=>wpAny_bind (thn h₂ fun _ s₃ h₃=>?_))
    exact wpAny_bind (wpAny_bind (thn h₃ fun x s₄ h₄=>wpAny_bind (thn h₄ fun _ s₅ h₅=>wpAny_pure (wpAny_pure ⟨rfl,h₅⟩))))
def lcR (J:It) (src:List Nat) (σ:St) (te:TE) (H1:Hp) (Q:VK):Prop:=∃(n:Nat) (Pv:Nat→List V→Hp→Prop),n≤sizeLine∧Pv 0 [] H1∧
  (∀i ys H,i<n→Pv i ys H→J.go i H∧∀y H',J.yld i H y H'→te (inner src σ (some y)) H' fun z H2=>Pv (i+1) (ys++[z]) H2)∧
  ∀ys H,Pv n ys H→J.stop n H∧∀p,H p=none→Q (.ref p) (upd H p (.lst ys))
def tLc (wi:TI) (src:List Nat) (te:TE):TE:=fun σ H Q=>wi σ H fun J H1=>lcR J src σ te H1 Q
theorem HOk.lay {P:Program} {w:World} {H:Hp} {h:Heap} {a:Addr} {o:HO} (x:HOk P w H h) (hn:H a=none) (new:ObjOk P w (upd H a o) h a o):HOk P w (upd H a o) h:=fun b u e=>by
  by_cases hb:b=a
  · subst hb; rw [upd_same] at e; cases e; exact new
  · rw [upd_ne hb] at e
    exact (x b u e).stay (fun c v _ q=>q) (fun c q=>by rw [upd_ne (ne_of_none q hn)]; exact q) fun c xs q=>by rw [upd_ne (ne_of_none q hn)]; exact q
theorem Un.lay {fs ex:List Addr} {H H1:Hp} {h h1:Heap} {a:Addr} {o:HO} (u:Un fs ex H H1 h h1) (hn:H1 a=none) (hh:h.get? a=none):Un fs ex H (upd H1 a o) h h1 where
  keep:=u.keep
  slot:=u.slot
  free:=fun b ob q n hx=>by rw [upd_ne (fun z=>by rw [z,hh] at q; cases q)]; exact u.free b ob q n hx
  there:=u.there
  tups:=fun b xs q=>by rw [upd_ne (ne_of_none (u.tups b xs q) hn)]; exact u.tups b xs q
  frzs:=fun b ob xs q=>by rw [upd_ne (ne_of_none (u.frzs b ob xs q) hn)]; exact u.frzs b ob xs q
  tbls:=fun b ps q=>by
    obtain ⟨m,e⟩:=u.tbls b ps q
    exact ⟨m,by rw [upd_ne (ne_of_none e hn)]; exact e⟩
theorem lc_run {pins:List (Addr×Obj)} {σ:St} {H:Hp} {s:Shared} {cl:List (Str×Addr)} {it:Addr} {fp:List Addr} {tn:Nat→Heap→Prop} {J:It} {n:Nat} {Pv:Nat→List V→Hp→Prop} {RR:Value→Addr→Result→Shared→Prop} {E:Value→Shared→Prop}
    (I:Inv X pins σ H s) (hcm:X.calm=true) (S:CompScope scope X.env.scope x X.N N' src) (hcl:∀n c,(n,c)∈cl→X.env.cells.lookup n=some c) (hcl2:∀y∈scope.names,y.2=.free→∃c,(y.1,c)∈cl)
    (T:Turn X.prog X.w X.K (.Name x px) J fp it tn) (t0:tn 0 s.heap) (hfp:∀b∈fp,FpOk X pins H b)
    (helt:∀(cl:List (Str×Addr)) (C:Addr) (s₀:Shared) (H₀:Hp) (fp:List Addr),PE (X.comp scope N' cl C s₀ H₀ fp) elt te)
    (hn:n≤sizeLine) (p0:Pv 0 [] H) (turn:∀i ys H,i<n→Pv i ys H→J.go i H∧∀y H',J.yld i H y H'→te (inner src σ (some y)) H' fun z H2=>Pv (i+1) (ys++[z]) H2) (stop:∀ys H,Pv n ys H→J.stop n H)
    (hR:∀(D C:Addr) (o:Obj) (ys:List V) (H':Hp) (s':Shared),Pv n ys H'→H' D=none→Inv X (pins++[(C,o)]) σ (upd H' D (.lst ys)) s'→(∃m,s'.heap.Ns C m)→FpOk X pins (upd H' D (.lst ys)) C→RR (.ref D) C (.ok .next) s') :
    wpAny (model X.prog X.w) X.A (newList []) (fun acc s₃=>wpAny (model X.prog X.w) X.A (newFunctionEnv scope X.env.globals cl [] X.env.qual none .none (some X.env)) (fun cenv s₄=>
      codeAny (model X.prog X.w) X.A (.compStart (.ListComp elt [⟨.Name x px,iter,[],0⟩] scope pos) 0 (.ref it) acc { cenv with scope:=relabel scope X.env }) (RR acc cenv.locals) s₄) E s₃) E s:=by
  refine wpAny_newObj_type (wpAny_newFunctionEnv S.cell (by intro y hy; simp at hy) (fun h₁ hns₁ hsb₁=>?_) S.kind)
  dsimp only at hns₁ hsb₁ ⊢
  generalize hH2:s.heap.push { cls:=.type "list",dict:=none,data:=.seq ([]:List Value).toArray }=H2 at hns₁ hsb₁ ⊢
  have hC:H2.objs.size=s.heap.objs.size+1:=by rw [←hH2,Heap.size_push]
  have hDC:s.heap.objs.size≠H2.objs.size:=by rw [hC]; exact Nat.ne_of_lt (Nat.lt_succ_self _)
  have hCle:s.heap.objs.size≤H2.objs.size:=by rw [hC]; exact Nat.le_succ _
  have below:∀b,b<s.heap.objs.size→b≠H2.objs.size∧b≠s.heap.objs.size:=fun b hb=>⟨by rw [hC]; exact Nat.ne_of_lt (Nat.lt_succ_of_lt hb),Nat.ne_of_lt hb⟩
  have old:∀b o,s.heap.get? b=some o→h₁.get? b=some o:=fun b o e=>hsb₁.extBut b o (below b (Heap.lt_size e)).1 (Heap.get?_push_of_some _ (hH2 ▸ Heap.get?_push_of_some _ e))
  have hacc:h₁.PlainList s.heap.objs.size #[]:=⟨_,hsb₁.extBut _ _ hDC (Heap.get?_push_of_some _ (hH2 ▸ Heap.get?_push_size _ rfl))⟩
  have hfl:∀b∈fp,b<s.heap.objs.size:=fun b hb=>by
    obtain ⟨o,e,_⟩:=T.obj 0 _ t0 b hb
    exact Heap.lt_size e
  have fresh:∀a,s.heap.objs.size≤a→s.heap.get? a=none:=fun a ha=>by
    cases e:s.heap.get? a with
    | none=>rfl
    | some o'=>exact absurd (Heap.lt_size e) (Nat.not_lt.mpr ha)
  generalize eD:s.heap.objs.size=D at hDC hacc hCle below fresh hfl hC ⊢
  generalize eC:H2.objs.size=C at hDC hCle below hC hns₁ hsb₁ ⊢
  have I1:Inv (X.comp scope N' cl C s H fp) [] (inner src σ none) H { s with heap:=h₁,toks:=s.toks+([]:List (Str×Value)).length }:=
    comp_start I S hcl hcl2 (by rw [eD]; exact hCle) hfp (by rw [eD]; exact hfl) ⟨_,hns₁⟩ old rfl rfl
  have stat:∀{H':Hp} {pl:List (Addr×Obj)},(∀p∈pl,p.1=D)→(∀b∈fp,H' b=none)→∀b∈fp,FpOk (X.comp scope N' cl C s H fp) pl H' b:=fun {H' pl} hp hn b hb=>
    ⟨hn b hb,(below b (hfl b hb)).1,fun z=>by
      rcases List.mem_cons.mp (I.stkSub b z) with q | q
      · exact (hfp b hb).2.1 q
      · exact (hfp b hb).2.2.1 q,.inl hb,fun y c e=>(hfp b hb).2.2.2.2.1 y c (hcl y c (PySem.mem_of_lookup e)),fun p hq=>by
      rw [hp p (by rcases List.mem_append.mp hq with z | z; exact absurd (show p∈([]:List (Addr×Obj)) from z) (by simp); exact z)]
      exact Ne.symm (below b (hfl b hb)).2⟩
  have nD:D∉frs X.stack:=fun z=>by
    rcases List.mem_cons.mp (I.stkSub D z) with q | q
    · have:=I.lt; rw [←q,eD] at this; exact Nat.lt_irrefl _ this
    · exact I.nofs (a:=D) (by rw [eD]; exact Nat.le_refl _) q
  have nC:C∉X.fs:=I.nofs (by rw [eD]; exact hCle)
  have cellD:∀y c,cl.lookup y=some c→c<D:=fun y c e=>by
    obtain ⟨v,q⟩:=I.cell y c (hcl y c (PySem.mem_of_lookup e))
    have:=q.lt
    rw [eD] at this
    exact this
  have loop:∀s₃:Shared,s₃={ s with heap:=h₁,toks:=s.toks+([]:List (Str×Value)).length }→
      codeAny (model X.prog X.w) X.A (.compLoop (.ListComp elt [⟨.Name x px,iter,[],0⟩] scope pos) 0 (.ref it) (.ref D) (compEnvC scope cl C X.env)) (RR (.ref D) C) s₃:=by
    rintro s₃ rfl
    refine compLoop_go (fun k s'=>∃(i:Nat) (ys:List V) (its:List Value) (H':Hp) (xo:Option V),Inv (X.comp scope N' cl C s H fp) [] (inner src σ xo) H' s'∧tn i s'.heap∧(∀b∈fp,H' b=none)∧s'.heap.PlainList D its.toArray∧Vals ys its∧H' D=none∧
      Pv i ys H'∧ys.length=i∧i≤n∧k=n+1-i) ?_ (n+1) ⟨0,[],[],H,none,I1,T.keep _ _ _ t0 (fun b _ o e=>old b o e),fun b hb=>(hfp b hb).1,hacc,.nil,I.hok.fresh (by rw [eD]; exact Nat.le_refl _),p0,rfl,Nat.zero_le _,rfl⟩
    rintro k s' ⟨i,ys,its,H',xo,I3,t3,f3,l3,v3,d3,p3,e3,le3,rfl⟩
    by_cases hlt:i<n
    · obtain ⟨go,step⟩:=turn i ys H' hlt p3
      obtain ⟨nn,oD⟩:=id l3
      have I3p:Inv (X.comp scope N' cl C s H fp) [(D,{ cls:=.type "list",data:=.seq its.toArray nn })] (inner src σ xo) H' s':=
        I3.pins_of fun p hp=>by
          have ep:p=(D,{ cls:=.type "list",data:=.seq its.toArray nn }):=by simpa using hp
          subst ep
          exact ⟨oD,d3,hDC,nD,fun v z=>by cases z⟩
      refine thn (T.item (X.comp scope N' cl C s H fp) rfl rfl rfl hcm i _ s' _ H' _ I3p (stat (by simp) f3) t3 go) fun r s4 ⟨u,hr,h4⟩=>?_
      subst hr
      refine thn h4 fun _ s5 ⟨y,H5,I5,r5,y5,st5,fr5⟩=>?_
      have I5':=I5.pinned (stat (by simp) fr5) (T.obj _ _ st5)
      have hg:PG (X.comp scope N' cl C s H fp) (.Name x px) (gName 0):=
        pg_name S.nd (by show N'[0]?=some x; rw [S.names]; rfl) (.inl (lookup_relabel_local S.own)) (.inr (lookup_relabel_local S.own))
      refine wpAny_mono (hg _ s5 _ H5 y u (fun σ2 H2=>σ2=inner src σ (some y)∧H2=H5) I5' r5 ⟨rfl,rfl⟩) (fun _ s6 ⟨σ6,H6,I6,e6,e6'⟩=>?_) fun _ _ z=>False.elim z
      subst e6 e6'
      refine wpAny_mono (helt cl C s H fp _ s6 _ _ _ I6 (step y _ y5)) (fun v s7 ⟨z,H7,I7,r7,q7⟩=>?_) fun _ _ z=>False.elim z
      have o7:=I7.pin (D,{ cls:=.type "list",data:=.seq its.toArray nn }) (by simp)
      have hys:its.toArray.size≤sizeLine:=by
        have:=v3.length
        rw [List.size_toArray]
        omega
      refine wpAny_list_append_plain (hsz:=hys) (items:=its.toArray) (s:=s7) ⟨nn,o7.1⟩ fun h8 hl8 hs8=>?_
      refine ⟨n+1-(i+1),by omega,i+1,ys++[z],its++[v],H7,some y,?_,?_,?_,?_,v3.append (.cons r7 .nil),o7.2.1,q7,by rw [List.length_append,e3]<;>rfl,hlt,rfl⟩
      · have I7':Inv (X.comp scope N' cl C s H fp) [] (inner src σ (some y)) H7 s7:=I7.pins_of fun p hp=>absurd hp (by simp)
        exact I7'.turned (t':=s7.toks) (it:=D) (fun b o hb e=>(hs8.2 b hb).trans e) o7.2.1 hDC (.inr (by show s.heap.objs.size≤D; rw [eD]; exact Nat.le_refl _)) (fun y c e=>Nat.ne_of_lt (cellD y c e)) fun p hp=>absurd (show p∈([]:List (Addr×Obj)) from hp) (by simp)
      · refine T.keep _ _ _ st5 fun b hb o e=>(hs8.2 b (below b (hfl b hb)).2).trans ?_
        exact (I7.pin (b,o) (List.mem_append_right _ (List.mem_append_right _ (mem_pinsAt hb e)))).1
      · intro b hb
        obtain ⟨o,e,_⟩:=T.obj _ _ st5 b hb
        exact (I7.pin (b,o) (List.mem_append_right _ (List.mem_append_right _ (mem_pinsAt hb e)))).2.1
      · have:(its++[v]).toArray=its.toArray.push v:=by simp
        rw [this]; exact hl8
    · have ein:i=n:=by omega
      subst ein
      obtain ⟨nn,oD⟩:=id l3
      have I3p:Inv (X.comp scope N' cl C s H fp) [(D,{ cls:=.type "list",data:=.seq its.toArray nn })] (inner src σ xo) H' s':=
        I3.pins_of fun p hp=>by
          have ep:p=(D,{ cls:=.type "list",data:=.seq its.toArray nn }):=by simpa using hp
          subst ep
          exact ⟨oD,d3,hDC,nD,fun v z=>by cases z⟩
      refine thn (T.done (X.comp scope N' cl C s H fp) rfl rfl rfl hcm i _ s' _ H' _ I3p (stat (by simp) f3) t3 (stop ys H' p3)) fun r s4 ⟨hr,I4⟩=>?_
      subst hr
      have o4:=I4.pin (D,{ cls:=.type "list",data:=.seq its.toArray nn }) (by simp)
      have newI:Inv X pins σ (upd H' D (.lst ys)) s4:=I.call' (ch:=fp) I4.os (I4.base.lay d3 (fresh D (Nat.le_refl _))) (I4.hok.lay d3 ⟨by omega,its,nn,v3,o4.1⟩) I4.bare (fun b hb=>
        ⟨(hfp b hb).2.2.2.1,(hfp b hb).2.1,(hfp b hb).2.2.2.2.1,(hfp b hb).2.2.2.2.2⟩)
      obtain ⟨m,hm,_⟩:=I4.loc
      obtain ⟨o,es,ep,ho,hd,_⟩:=id hm
      refine hR D C o ys H' s4 p3 d3 (newI.pins_of fun p hp=>?_) ⟨m,hm⟩ (I.fpOk (by rw [eD]; exact hCle) (by rw [upd_ne (Ne.symm hDC)]; exact I4.free))
      rcases List.mem_append.mp hp with z | z
      · exact newI.pin p (List.mem_append_right _ z)
      · have ep:p=(C,o):=by simpa using z
        subst ep
        refine ⟨ho,by rw [upd_ne (Ne.symm hDC)]; exact I4.free,fun z=>?_,nC,fun v z=>?_⟩
        · have:=I.lt
          rw [eD,←z] at this
          exact absurd (Nat.lt_of_lt_of_le this hCle) (Nat.lt_irrefl _)
        · have z':o.data=.cell v:=z
          rw [hd] at z'; cases z'
  exact codeAny_compStart_list (loop _ rfl) (T.self _ 0 _ _ _ (T.keep _ _ _ t0 (fun b _ o e=>old b o e)) (loop _ rfl))
theorem pe_lc {sc:Scope} {N:List Str} (S:CompScope scope sc x N N' src) (hsc:X.env.scope=sc) (hN:X.N=N) (hi:PI X (.Name x px) iter wi)
    (helt:∀(cl:List (Str×Addr)) (C:Addr) (s₀:Shared) (H₀:Hp) (fp:List Addr),PE (X.comp scope N' cl C s₀ H₀ fp) elt te) (hcm:X.calm=true:=by rfl) (hs:∀v,foldedSetIterable iter X.env v=pure v:=by intro _; rfl) :
    PE X (.ListComp elt [⟨.Name x px,iter,[],0⟩] scope pos) (tLc wi src te):=by
  subst hsc hN
  intro pins s σ H Q I h
  obtain ⟨cl,hclos,hcl,hcl2⟩:=closure_some (scope:=scope) (env:=X.env) fun y hy hf=>I.ok.has y.1 (.inl (S.free y hy hf))
  rw [eval_ListComp]
  refine wpAny_comprehension_free (use:=none) rfl hs hclos S.kind S.loc ?_
  refine thn (hi pins s σ H _ I h) fun v s1 h1=>thn h1 fun itv s2 h2=>?_
  obtain ⟨it,fp,tn,J,H2,e,I2,T,st2,f2,n,Pv,hn,p0,turn,done⟩:=h2
  subst e
  refine lc_run I2 hcm S hcl hcl2 T st2 f2 helt hn p0 turn (fun ys H p=>(done ys H p).1) fun D C o ys H' s' p d J' hm ho=>?_
  obtain ⟨m,hm⟩:=hm
  refine ⟨m,hm,fun h' hs'=>?_⟩
  have J2:Inv X pins σ (upd H' D (.lst ys)) s':=J'.pins_of fun q hq=>J'.pin q (List.mem_append_right _ (List.mem_append_left _ hq))
  obtain ⟨f0,f1,f2,f3,f4,f5⟩:=ho
  exact ⟨.ref D,_,J2.turned (t':=s'.toks) (it:=C) (fun b o hb e=>(hs'.2 b hb).trans e) f0 f1 f3 f4 f5,rfl,(done ys H' p).2 D d⟩
theorem ps_lc {sc:Scope} {N:List Str} {i:Nat} {y:Str} {py spos:Pos} (hnd:X.N.Nodup) (hi':X.N[i]?=some y) (S:CompScope scope sc x N N' src) (hsc:X.env.scope=sc) (hN:X.N=N) (hi:PI X (.Name x px) iter wi)
    (helt:∀(cl:List (Str×Addr)) (C:Addr) (s₀:Shared) (H₀:Hp) (fp:List Addr),PE (X.comp scope N' cl C s₀ H₀ fp) elt te) (hsw:swapsWith (.ListComp elt [⟨.Name x px,iter,[],0⟩] scope pos) (some (.Name y py)) spos.line X.env=pure true:=by rfl)
    (hy:X.env.scope.names.lookup y=some .local:=by rfl) (hcm:X.calm=true:=by rfl) (hs:∀v,foldedSetIterable iter X.env v=pure v:=by intro _; rfl) :
    PS X (.Assign [.Name y py] (.ListComp elt [⟨.Name x px,iter,[],0⟩] scope pos) spos) (tAsg (tLc wi src te) (gName i)):=by
  subst hsc hN
  intro pins s σ H Dn I h
  obtain ⟨cl,hclos,hcl,hcl2⟩:=closure_some (scope:=scope) (env:=X.env) fun y hy hf=>I.ok.has y.1 (.inl (S.free y hy hf))
  rw [exec_Assign_Name_used _ _ _ _ hsw]
  refine wpAny_bind (wpAny_standAt (wpAny_bind ?_))
  show wpAny _ X.A (do let _ ←comprehension (.ListComp elt [⟨.Name x px,iter,[],0⟩] scope pos) scope X.env _ (newList []) false (eval iter X.env) (some (assign (.Name y py) X.env))) _ _ s
  refine wpAny_bind (wpAny_mono (wpAny_comprehension_free (use:=some (assign (.Name y py) X.env)) (Q:=fun _ s'=>SP X pins Dn .next s') rfl hs hclos S.kind S.loc ?_) (fun _ s' hq=>wpAny_pure (wpAny_pure hq)) fun _ _ e=>e)
  refine thn (hi pins s σ H _ I h) fun v s1 h1=>thn h1 fun itv s2 h2=>?_
  obtain ⟨it,fp,tn,J,H2,e,I2,T,st2,f2,n,Pv,hn,p0,turn,done⟩:=h2
  subst e
  refine lc_run I2 hcm S hcl hcl2 T st2 f2 helt hn p0 turn (fun ys H p=>(done ys H p).1) fun D C o ys H' s' p d J' hm ho=>?_
  show wpAny _ X.A (assign (.Name y py) X.env (.ref D)) _ _ _
  obtain ⟨m,hm⟩:=hm
  have hg:PG X (.Name y py) (gName i):=pg_name hnd hi' (.inl hy) (.inr hy)
  refine thn (hg _ s' σ _ (.ref D) (.ref D) (fun σ2 H3=>σ2=σ.set i (some (.ref D))∧H3=upd H' D (.lst ys)) J' rfl ⟨rfl,rfl⟩) fun _ s6 ⟨σ6,H6,I6,e6,e7⟩=>?_
  subst e6 e7
  have pc:=I6.pin (C,o) (by simp)
  have pc':=J'.pin (C,o) (by simp)
  refine ⟨m,hm.at fun q e=>?_,fun h' hs'=>?_⟩
  · rw [pc'.1] at e; cases e; exact pc.1
  have J2:Inv X pins (σ.set i (some (.ref D))) (upd H' D (.lst ys)) s6:=I6.pins_of fun q hq=>I6.pin q (List.mem_append_right _ (List.mem_append_left _ hq))
  obtain ⟨f0,f1,f2,f3,f4,f5⟩:=ho
  exact ⟨_,_,J2.turned (t':=s6.toks) (it:=C) (fun b o hb e=>(hs'.2 b hb).trans e) f0 f1 f3 f4 f5,(done ys H' p).2 D d⟩
end
end L2
set_option Elab.async false
set_option linter.all false
set_option maxRecDepth 100000
set_option maxHeartbeats 4000000
namespace L2
open PySem PySem.Spec PyProof.Rows PySem.SeqAt
section
variable {X:Cx}
theorem preSum_eq {ns:List Int}:∀k,k≤ns.length→preSum (fun i=>ns.getD i 0) k=(ns.take k).sum
  | 0,_=>by simp [preSum]
  | k+1,h=>by
    have hk:k<ns.length:=by omega
    rw [preSum,preSum_eq k (by omega),List.take_add_one,List.getElem?_eq_getElem hk,List.getD_eq_getElem?_getD,List.getElem?_eq_getElem hk]
    show _=(ns.take k++[ns[k]]).sum
    rw [List.sum_append,List.sum_cons,List.sum_nil,Int.add_zero]
    rfl
theorem call_sum (hc:X.calm=true):CallR X (.builtin "sum") (fun xs H Q=>∃(p:Addr) (ns:List Int),xs=[.ref p]∧SqL X.K H p (ns.map V.int)∧Q (.int ns.sum) H):=by
  intro pins s σ H xs us Q I r h
  obtain ⟨p,ns,rfl,hq,q⟩:=h
  obtain ⟨u,rfl,rx⟩:=vals1 r
  cases rx
  obtain ⟨its,r',pl,hz⟩:=I.list hq
  have hl:=r'.length
  rw [List.length_map] at hl
  refine call_sum_walkG (wpAny_pyIter_list pl.isList ?_)
  have hne:p≠s.heap.objs.size:=by
    obtain ⟨o,n,e,_⟩:=pl
    exact Nat.ne_of_lt (Heap.lt_size e)
  refine ⟨s.heap.objs.size,_,_,_,_,_,fun i=>ns.getD i 0,rfl,Walks.list (A:=X.A.in1) (I.ok.hd hc) _ p hne its.toArray,⟨⟨_,Heap.get?_push_size _ rfl,rfl,rfl⟩,?_⟩,?_,?_,fun h' tk t' hk=>?_⟩
  · obtain ⟨o,n,e,hc',hd,hs⟩:=pl
    exact ⟨o,Heap.get?_push_of_some _ e,hc',n,hs⟩
  · intro b hb
    have hb':b=s.heap.objs.size∨b=p:=by simpa using hb
    rcases hb' with rfl | rfl
    · show _<(s.heap.push _).objs.size
      rw [Heap.size_push]; exact Nat.lt_succ_self _
    · obtain ⟨o,n,e,_⟩:=pl
      show _<(s.heap.push _).objs.size
      rw [Heap.size_push]; exact Nat.lt_succ_of_lt (Heap.lt_size e)
  · intro i v hp
    have hp':its[i]?=some v:=by simpa using hp
    have hi:i<ns.length:=by rw [hl]; exact (List.getElem?_eq_some_iff.mp hp').1
    obtain ⟨u,hu,ru⟩:=r'.get (i:=i) (x:=.int (ns.getD i 0)) (by rw [List.getElem?_map,List.getElem?_eq_getElem hi,List.getD_eq_getElem?_getD,List.getElem?_eq_getElem hi]; rfl)
    rw [hp'] at hu; cases hu
    exact ru
  · refine ⟨.int ns.sum,H,(I.kept (t':=s.toks) fun b o e=>Heap.get?_push_of_some _ e).turned (it:=s.heap.objs.size) (fun b o hb e=>hk b o (by simpa using hb) e) (I.hok.fresh (Nat.le_refl _)) (Nat.ne_of_gt I.lt) (.inr I.sz) (fun x c e z=>?_) (fun q hq z=>?_),⟨t',?_⟩,q⟩
    · obtain ⟨v,w'⟩:=I.cell x c e
      exact absurd w'.lt (by rw [z]; exact Nat.lt_irrefl _)
    · exact absurd (Heap.lt_size (I.pin q hq).1) (by rw [z]; exact Nat.lt_irrefl _)
    · rw [List.size_toArray,←hl,preSum_eq _ (Nat.le_refl _),List.take_length]
mutual
inductive RdV (K:PySem.W.Frag) (H:Hp):V→PyData→Prop
  | non:RdV K H .non .none
  | bl (b:Bool):RdV K H (.bl b) (.bool b)
  | int (i:Int):RdV K H (.int i) (.int i)
  | str (x:Str):RdV K H (.str x) (.str x)
  | lst {a:Addr} {xs:List V} {ds:List PyData}:SqL K H a xs→RdVs K H xs ds→RdV K H (.ref a) (.list ds)
  | tup {a:Addr} {xs:List V} {ds:List PyData}:SqT K H a xs→RdVs K H xs ds→RdV K H (.ref a) (.tuple ds)
inductive RdVs (K:PySem.W.Frag) (H:Hp):List V→List PyData→Prop
  | nil:RdVs K H [] []
  | cons {x:V} {xs:List V} {d:PyData} {ds:List PyData}:RdV K H x d→RdVs K H xs ds→RdVs K H (x::xs) (d::ds)
end
mutual
theorem RdV.reads {pins:List (Addr×Obj)} {σ:St} {H:Hp} {s:Shared} (I:Inv X pins σ H s):∀{x:V} {d:PyData} {u:Value},RdV X.K H x d→RelV x u→∃as,Reads s.heap u d as
  | _,_,_,.non,r=>by cases r; exact ⟨_,.none⟩
  | _,_,_,.bl b,r=>by cases r; exact ⟨_,.bool b⟩
  | _,_,_,.int i,r=>by obtain ⟨t,rfl⟩:=r; exact ⟨_,.int i t⟩
  | _,_,_,.str x,r=>by obtain ⟨t,rfl⟩:=r; exact ⟨_,.str x t⟩
  | _,_,_,.lst h hs,r=>by
    cases r
    obtain ⟨its,rv,⟨o,n,e,hc,hd,hq⟩,_⟩:=I.list h
    obtain ⟨as,q⟩:=RdVs.reads I hs rv
    exact ⟨_,.list e hc hq (by simpa using q)⟩
  | _,_,_,.tup h hs,r=>by
    cases r
    obtain ⟨its,rv,⟨o,e,hc,n,hq⟩,_⟩:=I.tuple h
    obtain ⟨as,q⟩:=RdVs.reads I hs rv
    exact ⟨_,.tuple e hc hq (by simpa using q)⟩
theorem RdVs.reads {pins:List (Addr×Obj)} {σ:St} {H:Hp} {s:Shared} (I:Inv X pins σ H s):∀{xs:List V} {ds:List PyData} {us:List Value},RdVs X.K H xs ds→Vals xs us→∃as,ReadsAll s.heap us ds as
  | _,_,_,.nil,r=>by cases r; exact ⟨_,.nil⟩
  | _,_,_,.cons h hs,r=>by
    cases r with
    | cons r rr=>
      obtain ⟨as,q⟩:=RdV.reads I h r
      obtain ⟨bs,q2⟩:=RdVs.reads I hs rr
      exact ⟨_,.cons q q2⟩
end
theorem op_eqD (hu:X.A.units+64<cLine):OpR X (compareOp .Eq) (fun x y H Q=>∃d e:PyData,RdV X.K H x d∧RdV X.K H y e∧shaped d=true∧shaped e=true∧noMix d e=true∧Q (.bl (same d e)) H):=by
  intro pins s σ H x y v u Q I rx ry h
  obtain ⟨d,e,hd,he,sd,se,hm,q⟩:=h
  obtain ⟨as,ra⟩:=hd.reads I rx
  obtain ⟨bs,rb⟩:=he.reads I ry
  exact eq_dataH_same ra rb sd se hu hm ⟨.bl _,H,I,rfl,q⟩
theorem op_neD (hu:X.A.units+64<cLine):OpR X (compareOp .NotEq) (fun x y H Q=>∃d e:PyData,RdV X.K H x d∧RdV X.K H y e∧shaped d=true∧shaped e=true∧noMix d e=true∧Q (.bl (!same d e)) H):=by
  intro pins s σ H x y v u Q I rx ry h
  obtain ⟨d,e,hd,he,sd,se,hm,q⟩:=h
  obtain ⟨as,ra⟩:=hd.reads I rx
  obtain ⟨bs,rb⟩:=he.reads I ry
  exact ne_dataH_same ra rb sd se hu hm ⟨.bl _,H,I,rfl,q⟩
theorem op_notT:OpR X (compareOp .IsNot) (fun x y H Q=>∃b c:Bool,x=.bl b∧y=.bl c∧Q (.bl (!(b == c))) H):=by
  intro pins s σ H x y v u Q I rx ry h
  obtain ⟨b,c,rfl,rfl,q⟩:=h
  cases rx
  cases ry
  have e:(Value.bool b == Value.bool c)=(b == c):=by cases b<;>cases c<;>rfl
  exact wpAny_isNot_plain rfl ⟨.bl _,H,I,rfl,by rw [e]; exact q⟩
def pickV (xs:List V) (lo hi st:Option Int):List V:=(sliceRange (sliceBounds lo hi st xs.length).1 (sliceBounds lo hi st xs.length).2.1 (sliceBounds lo hi st xs.length).2.2).filterMap (xs[·]?)
theorem Vals.pick {xs:List V} {us:List Value} (r:Vals xs us):∀ks:List Nat,Vals (ks.filterMap (xs[·]?)) (ks.filterMap (us[·]?))
  | []=>.nil
  | k::ks=>by
    cases e:xs[k]? with
    | none=>
      have e':=r.none_of e
      rw [List.filterMap_cons_none e,List.filterMap_cons_none e']
      exact r.pick ks
    | some x=>
      obtain ⟨u,e',q⟩:=r.get e
      rw [List.filterMap_cons_some e,List.filterMap_cons_some e']
      exact .cons q (r.pick ks)
def tSl3 (K:PySem.W.Frag) (te:TE) (tl th ts:TO):TE:=fun σ H Q=>te σ H fun x H1=>tl σ H1 fun l H2=>th σ H2 fun u H3=>ts σ H3 fun st H4=>∃a xs,x=.ref a∧SqL K H4 a xs∧st≠some 0∧(pickV xs l u st).length≤sizeLine∧
  ∀p,H4 p=none→Q (.ref p) (upd H4 p (.lst (pickV xs l u st)))
theorem pe_slice3 {e sp:Expr} {te:TE} {lo hi:Option Expr} {tl th ts:TO} {pos p2:Pos} (he:PE X e te) (hl:PO X lo tl) (hu:PO X hi th) (hs:PO X (some sp) ts):PE X (.Subscript e (.Slice lo hi (some sp) p2) pos) (tSl3 X.K te tl th ts):=by
  intro pins s σ H Q I h
  refine Subscript_ (thn (he pins s σ H _ I h) fun v s1 ⟨x,H1,I1,r1,q1⟩=>?_)
  refine wpAny_Slice (thn (hl pins s1 σ H1 _ I1 q1) fun vl s2 ⟨l,H2,I2,pl,q2⟩=>thn (hu pins s2 σ H2 _ I2 q2) fun vu s3 ⟨u,H3,I3,pu,q3⟩=>thn (hs pins s3 σ H3 _ I3 q3) fun vs s4 ⟨st,H4,I4,ps,q4⟩=>?_)
  obtain ⟨a,xs,rfl,hx,h0,hz',q⟩:=q4
  cases r1
  have I5:Inv X pins σ H4 { s4 with heap:=s4.heap.push { cls:=.type "slice",data:=.fields #[vl,vu,vs] } }:=I4.kept (t':=s4.toks) fun b ob q=>Heap.get?_push_of_some _ q
  obtain ⟨its,r,ht,hz⟩:=I5.list hx
  have hlen:=r.length
  show wpAny (model X.prog X.w) X.A (subscriptTail e (.Slice lo hi (some sp) p2) (.ref a) (.ref s4.heap.objs.size)) (EP X pins σ Q) X.xe { s4 with heap:=s4.heap.push { cls:=.type "slice",data:=.fields #[vl,vu,vs] } }
  refine tail_any (ops:=[.ref a,.ref s4.heap.objs.size]) ht.isList.typeIs slot_list_getitem.lookup (wpAny_getItem_list_slice ht.isList (Heap.IsSliceOf.new ..) pl pu ps h0 ?_ (by rw [List.size_toArray]<;>omega)) (by with_unfolding_all rfl)
  have ep:slicePick its.toArray l u st=((sliceRange (sliceBounds l u st xs.length).1 (sliceBounds l u st xs.length).2.1 (sliceBounds l u st xs.length).2.2).filterMap (its[·]?)).toArray:=by
    unfold slicePick
    rw [List.size_toArray,←hlen]
    simp
  rw [ep]
  refine ⟨.ref _,_,I5.laid (t':=s4.toks) (o:=.lst (pickV xs l u st)) (fun b ob q=>Heap.get?_push_of_some _ q) (Nat.le_refl _) ?_,rfl,q _ (I5.hok.fresh (Nat.le_refl _))⟩
  exact ⟨hz',_,0,r.pick _,Heap.get?_push_size _ rfl⟩
theorem noFill_tuple_mul:fillsNumberSlot (.type "tuple") "mul"=pure false:=
  PySem.fillsNumberSlot_seq (id:="tuple.__mul__") (r:=some (.builtin "tuple.__rmul__")) F.slot_tuple_mul.lookup (by decide +kernel) F.slot_tuple_rmul.lookup (by decide +kernel)
theorem repeat_tuple:seqRepeat? (.type "tuple")=pure (some (.builtin "tuple.__mul__")):=by
  unfold seqRepeat?
  rw [PySem.seqSlot_of (T:="tuple") (name:="__mul__") (id:="tuple.__mul__") F.slot_tuple_mul.lookup (by decide +kernel),PySem.seqSlot_of (T:="tuple") (name:="__rmul__") (id:="tuple.__rmul__") F.slot_tuple_rmul.lookup (by decide +kernel)]
  rfl
end
end L2
set_option Elab.async false
set_option linter.all false
set_option maxRecDepth 100000
set_option maxHeartbeats 4000000
namespace L2
open PySem PySem.Spec PyProof.Rows Builtin
theorem int_rmul_tuple (a:Int) (t:Tok) (l:Addr) (items:Array Value) (n:Nat) (dd:Option Addr) (sl:Array (Option Value)) :
    Meets (Builtin.«int.__rmul__» ⟨[.int a t,.ref l],[]⟩) (fun _ R s=>s.heap.get? l=some { cls:=.type "tuple",dict:=dd,data:=.seq items n,slots:=sl }∧R (.ok (.ret Value.notImplemented)) s):=
  .of_wp fun prog w A R s h=>by obtain ⟨hp,g,d,tk,os⟩:=s; obtain ⟨hl,h⟩:=h; wp_walk; exact ⟨_,rfl,h⟩
theorem tuple_mul_one (l:Addr) (items:Array Value) (n:Nat) (dd:Option Addr) (sl:Array (Option Value)) (u:Tok) :
    Meets (Builtin.«tuple.__mul__» ⟨[.ref l,.int 1 u],[]⟩) (fun _ R s=>s.heap.get? l=some { cls:=.type "tuple",dict:=dd,data:=.seq items n,slots:=sl }∧R (.ok (.ret (Value.ref l))) s):=
  .of_wp fun prog w A R s h=>by
    obtain ⟨hp,g,d,tk,os⟩:=s; obtain ⟨hl,h⟩:=h
    wp_walk
    exact ⟨_,rfl,h⟩
theorem tuple_mul_none (l:Addr) (items:Array Value) (n:Nat) (dd:Option Addr) (sl:Array (Option Value)) (u:Tok) (h0:items.isEmpty=false) :
    Meets (Builtin.«tuple.__mul__» ⟨[.ref l,.int 0 u],[]⟩) (fun _ R s=>s.heap.get? l=some { cls:=.type "tuple",dict:=dd,data:=.seq items n,slots:=sl }∧R (.ok (.ret (Value.ref s.heap.objs.size))) { s with heap:=s.heap.push { cls:=.type "tuple",data:=.seq #[] } }):=
  .of_wp fun prog w A R s h=>by
    obtain ⟨hp,g,d,tk,os⟩:=s; obtain ⟨hl,h⟩:=h
    wp_walk
    exact ⟨_,rfl,h⟩
theorem tuple_mul_many (l:Addr) (items:Array Value) (n:Nat) (dd:Option Addr) (sl:Array (Option Value)) (x:Int) (u:Tok) (h0:items.isEmpty=false) (h1:2≤x) (h2:x<1000) (h3:items.size*x≤1000) :
    Meets (Builtin.«tuple.__mul__» ⟨[.ref l,.int x u],[]⟩) (fun _ R s=>s.heap.get? l=some { cls:=.type "tuple",dict:=dd,data:=.seq items n,slots:=sl }∧R (.ok (.ret (Value.ref s.heap.objs.size))) { s with heap:=s.heap.push { cls:=.type "tuple",data:=.seq (List.foldl (fun x1 x2=>x1++x2) #[] (List.replicate x.toNat items)) } }):=
  .of_wp fun prog w A R s h=>by
    obtain ⟨hp,g,d,tk,os⟩:=s; obtain ⟨hl,h⟩:=h
    have c1:¬(decide (x < -(2 ^ 63)) || decide (x≥2 ^ 63))=true:=by rw [decide_eq_false (by omega),decide_eq_false (by omega)]; decide
    have c2:¬(items.isEmpty || x == 1)=true:=by
      have:(x == 1)=false:=by simp; omega
      rw [h0,this]; decide
    have c3:¬(decide (x≤0) || items.isEmpty)=true:=by rw [h0,decide_eq_false (by omega)]; decide
    have c4:¬((items.size:Int)*x > (2 ^ 63-1)/8):=by omega
    have c5:¬Tuple.tupleTooMany ((items.size:Int)*x)=true:=by
      unfold Tuple.tupleTooMany
      rw [decide_eq_false (by rw [sizeLine_eq]; omega)]
      decide
    wp_walk
    rw [if_neg c1]
    wp_walk
    rw [if_neg c2]
    show wpAny (model prog w) A.in1 (if (decide (x≤0) || items.isEmpty)=true then _ else if (items.size:Int)*x > (2 ^ 63-1)/8 then _ else if Tuple.tupleTooMany ((items.size:Int)*x)=true then _ else _) _ _ _
    rw [if_neg c3,if_neg c4,if_neg c5]
    have hz:(List.foldl (fun x1 x2=>x1++x2) #[] (List.replicate x.toNat items)).size≤sizeLine:=by
      have:(List.replicate x.toNat items).foldl (fun x1 x2=>x1++x2) #[]=(List.replicate x.toNat items.toList).flatten.toArray:=by
        have:=foldl_rep items.toList x.toNat []
        simpa using this
      rw [this,List.size_toArray,len_rep,sizeLine_eq]
      have e:items.toList.length=items.size:=by simp
      rw [e]
      have e2:((x.toNat*items.size:Nat):Int)=(items.size:Int)*x:=by
        rw [Int.natCast_mul,Int.mul_comm]
        congr 1
        omega
      omega
    wp_walk
    exact ⟨_,rfl,h⟩
section
variable {X:Cx}
def rRepT (K:PySem.W.Frag):R2:=fun x y H Q=>∃(a:Addr) (k:Int) (xs:List V),x=.ref a∧y=.int k∧SqT K H a xs∧xs≠[]∧0≤k∧k<1000∧(xs.length:Int)*k≤1000∧
  (k=1→Q (.ref a) H)∧(k≠1→∀p,H p=none→Q (.ref p) (upd H p (.tup (List.replicate k.toNat xs).flatten)))
theorem op_repT:OpR X (binaryOp .Mult) (rRepT X.K):=by
  intro pins s σ H x y v u Q I rx ry h
  obtain ⟨a,k,xs,rfl,rfl,hH,hne,h0,h1,h2,q1,q2⟩:=h
  cases rx
  obtain ⟨t,rfl⟩:=ry
  obtain ⟨its,r,pl,hz⟩:=I.tuple hH
  obtain ⟨⟨oc,dd,data,sl⟩,e,hc,n,hd⟩:=pl
  simp only at hc hd
  subst hc hd
  have hl:=r.length
  have he:its.toArray.isEmpty=false:=by
    cases r with
    | nil=>exact absurd rfl hne
    | cons _ _=>rfl
  refine wpAny_binaryOp_repeat_ref (T:="tuple") (U:="int") (by decide) ⟨_,e,rfl⟩ (fun s'=>typeIs_int s' k t) noFill_tuple_mul F.fills_int_mul F.slot_int_rmul repeat_tuple F.slot_int_index.lookup
    (call_meets F.slot_int_rmul (typeIs_int s k t) F.entry_int_rmul (F.args_int_rmul_2 _ _) (int_rmul_tuple k t a its.toArray n dd sl) ⟨e,rfl,⟨_,e,rfl⟩,?_⟩)
  by_cases k1:k=1
  · subst k1
    exact call_meets F.slot_tuple_mul ⟨_,e,rfl⟩ F.entry_tuple_mul (F.args_tuple_mul_2 _ _) (tuple_mul_one a its.toArray n dd sl t) ⟨e,.ref a,H,I,rfl,q1 rfl⟩
  · by_cases k0:k=0
    · subst k0
      refine call_meets F.slot_tuple_mul ⟨_,e,rfl⟩ F.entry_tuple_mul (F.args_tuple_mul_2 _ _) (tuple_mul_none a its.toArray n dd sl t he) ⟨e,.ref s.heap.objs.size,_,I.laid (t':=s.toks) (o:=.tup []) (fun b ob q=>Heap.get?_push_of_some _ q) (Nat.le_refl _) ?_,rfl,?_⟩
      · exact ⟨Nat.zero_le _,[],.nil,IsTup.new _ _⟩
      · exact q2 k1 _ (I.hok.fresh (Nat.le_refl _))
    · refine call_meets F.slot_tuple_mul ⟨_,e,rfl⟩ F.entry_tuple_mul (F.args_tuple_mul_2 _ _) (tuple_mul_many a its.toArray n dd sl k t he (by omega) h1 (by rw [List.size_toArray,←hl]; exact h2)) ⟨e,?_⟩
      have hnew:List.foldl (fun x1 x2=>x1++x2) #[] (List.replicate k.toNat its.toArray)=(List.replicate k.toNat its).flatten.toArray:=by
        have:=foldl_rep its k.toNat []
        rw [List.nil_append] at this
        exact this
      rw [hnew]
      refine ⟨.ref s.heap.objs.size,_,I.laid (t':=s.toks) (o:=.tup (List.replicate k.toNat xs).flatten) (fun b ob q=>Heap.get?_push_of_some _ q) (Nat.le_refl _) ?_,rfl,q2 k1 _ (I.hok.fresh (Nat.le_refl _))⟩
      refine ⟨?_,_,r.rep k.toNat,IsTup.new _ _⟩
      rw [len_rep,sizeLine_eq]
      have e2:((k.toNat*xs.length:Nat):Int)=(xs.length:Int)*k:=by
        rw [Int.natCast_mul,Int.mul_comm]
        congr 1
        omega
      omega
end
end L2
set_option Elab.async false
set_option linter.all false
set_option maxRecDepth 100000
set_option maxHeartbeats 4000000
namespace My
open PySem L2
def fold (t:Int):Int:=if t=0 then 0 else (t-1) % 65535+1
theorem fold_in {t:Int} (h:0≤t):0≤fold t∧fold t≤65535∧(fold t-t) % 65535=0∧(fold t=0↔t=0):=by
  unfold fold; split<;>omega
theorem fold_small {t:Int} (h:0≤t) (h1:t≤65535):fold t=t:=by
  unfold fold; split<;>omega
theorem fold_step {t:Int} (h:65535<t):fold (t % 65536+t/65536)=fold t∧0≤t % 65536+t/65536∧t % 65536+t/65536<t:=by
  unfold fold
  rw [if_neg (by omega),if_neg (by omega)]
  omega
def wsum:List Int→Int
  | []=>0
  | [a]=>256*a
  | a::b::r=>256*a+b+wsum r
def evens:List Int→List Int
  | []=>[]
  | [a]=>[a]
  | a::_::r=>a::evens r
def odds:List Int→List Int
  | []=>[]
  | [_]=>[]
  | _::b::r=>b::odds r
theorem wsum_eq:∀ns:List Int,256*(evens ns).sum+(odds ns).sum=wsum ns
  | []=>rfl
  | [a]=>by simp [evens,odds,wsum]
  | a::b::r=>by
    have:=wsum_eq r
    simp only [evens,odds,wsum,List.sum_cons]
    omega
theorem wsum_nn:∀{ns:List Int},(∀z∈ns,0≤z)→0≤wsum ns
  | [],_=>by simp [wsum]
  | [a],h=>by have:=h a (by simp); simp only [wsum]; omega
  | a::b::r,h=>by
    have h1:=h a (by simp)
    have h2:=h b (by simp)
    have h3:=wsum_nn (ns:=r) fun z hz=>h z (by simp [hz])
    simp only [wsum]; omega
theorem wsum_app:∀{ns ms:List Int},ns.length % 2=0→wsum (ns++ms)=wsum ns+wsum ms
  | [],ms,_=>by simp [wsum]
  | [a],ms,h=>by simp at h
  | a::b::r,ms,h=>by
    have:=wsum_app (ns:=r) (ms:=ms) (by simp only [List.length_cons] at h; omega)
    show wsum (a::b::(r++ms))=_
    simp only [wsum,this]
    omega
theorem fold_close {w:Int} (h:0≤w):fold (w+(256*((65535-fold w)/256)+(65535-fold w) % 256))=65535:=by
  have e:256*((65535-fold w)/256)+(65535-fold w) % 256=65535-fold w:=by omega
  rw [e]
  unfold fold
  split<;>split<;>omega
theorem pick_evens:∀(m:Nat) (ns:List Int),ns.length≤2*m→((List.range m).map fun k=>2*k).filterMap (fun i=>(ns.map V.int)[i]?)=(evens ns).map V.int
  | 0,ns,h=>by
    have:ns=[]:=List.length_eq_zero_iff.mp (by omega)
    subst this; rfl
  | m+1,ns,h=>by
    rw [List.range_succ_eq_map,List.map_cons,List.map_map]
    have shift:∀(xs:List Int),(List.map ((fun k=>2*k)∘Nat.succ) (List.range m)).filterMap (fun i=>(xs.map V.int)[i]?)=((List.range m).map fun k=>2*k).filterMap (fun i=>((xs.drop 2).map V.int)[i]?):=fun xs=>by
      rw [List.filterMap_map,List.filterMap_map]
      congr 1
      funext k
      show (xs.map V.int)[2*(k+1)]?=((xs.drop 2).map V.int)[2*k]?
      rw [List.getElem?_map,List.getElem?_map,List.getElem?_drop]
      congr 2
      omega
    match ns,h with
    | [],_=>
      have:=shift []
      rw [List.filterMap_cons_none (by rfl),this,pick_evens m _ (by simp)]
      rfl
    | [a],_=>
      have:=shift [a]
      rw [List.filterMap_cons_some (b:=V.int a) (by rfl),this,pick_evens m _ (by simp)]
      rfl
    | a::b::r,h=>
      have:=shift (a::b::r)
      rw [List.filterMap_cons_some (b:=V.int a) (by rfl),this,pick_evens m _ (by simp only [List.length_cons] at h; simp; omega)]
      rfl
theorem odds_eq:∀ns:List Int,odds ns=evens (ns.drop 1)
  | []=>rfl
  | [_]=>rfl
  | [_,_]=>rfl
  | _::b::c::r=>by
    have:=odds_eq (c::r)
    simp only [odds,List.drop,evens] at *
    rw [this]
theorem cut_evens (ns:List Int):pickV (ns.map V.int) none none (some 2)=(evens ns).map V.int:=by
  unfold pickV sliceBounds sliceRange
  simp only [Option.getD_some,List.length_map,show ((2:Int) > 0)=True from eq_true (by decide),if_true]
  have e:(if (0:Int)<(ns.length:Int) then ((ns.length:Int)-0+2-1)/2 else 0).toNat=(ns.length+1)/2:=by split<;>omega
  rw [e]
  have e2:(fun k:Nat=>((0:Int)+2*(k:Int)).toNat)=fun k=>2*k:=by funext k; omega
  rw [e2]
  exact pick_evens _ ns (by omega)
theorem cut_odds (ns:List Int):pickV (ns.map V.int) (some 1) none (some 2)=(odds ns).map V.int:=by
  unfold pickV sliceBounds sliceRange
  simp only [Option.getD_some,List.length_map,show ((2:Int) > 0)=True from eq_true (by decide),show ((1:Int)<0)=False from eq_false (by decide),if_true,if_false]
  rw [odds_eq]
  by_cases h:ns.length=0
  · have:ns=[]:=List.length_eq_zero_iff.mp h
    subst this; rfl
  · have e0:max (0:Int) (min 1 (ns.length:Int))=1:=by omega
    rw [e0]
    have e:(if (1:Int)<(ns.length:Int) then ((ns.length:Int)-1+2-1)/2 else 0).toNat=ns.length/2:=by split<;>omega
    rw [e,←pick_evens (ns.length/2) (ns.drop 1) (by rw [List.length_drop]; omega),List.filterMap_map,List.filterMap_map]
    congr 1
    funext k
    show (ns.map V.int)[((1:Int)+2*(k:Int)).toNat]?=((ns.drop 1).map V.int)[2*k]?
    rw [List.getElem?_map,List.getElem?_map,List.getElem?_drop]
    congr 2
theorem evens_len:∀ns:List Int,(evens ns).length≤ns.length
  | []=>Nat.le_refl _
  | [_]=>Nat.le_refl _
  | _::_::r=>by have:=evens_len r; simp only [evens,List.length_cons]; omega
theorem odds_len:∀ns:List Int,(odds ns).length≤ns.length
  | []=>Nat.le_refl _
  | [_]=>Nat.zero_le _
  | _::_::r=>by have:=odds_len r; simp only [odds,List.length_cons]; omega
def wpre (ns:List Int):Nat→Int
  | 0=>0
  | i+1=>wpre ns i+ns.getD i 0*(if i % 2=0 then 256 else 1)
theorem wpre_two (a b:Int) (r:List Int):∀i,wpre (a::b::r) (i+2)=256*a+b+wpre r i
  | 0=>by simp [wpre]; omega
  | i+1=>by
    have e:(i+2) % 2=i % 2:=by omega
    rw [wpre,wpre_two a b r i]
    show _+r.getD i 0*(if (i+2) % 2=0 then 256 else 1)=256*a+b+(wpre r i+r.getD i 0*(if i % 2=0 then 256 else 1))
    rw [e]
    omega
theorem wpre_all:∀ns:List Int,wpre ns ns.length=wsum ns
  | []=>rfl
  | [a]=>by simp [wpre,wsum]; omega
  | a::b::r=>by
    show wpre (a::b::r) (r.length+2)=_
    rw [wpre_two,wpre_all r]
    rfl
end My
set_option Elab.async false
set_option linter.all false
set_option maxRecDepth 100000
namespace L2
open PySem PySem.Spec PyProof.Rows
section
variable {κ:Type} [DecidableEq κ]
def valV (kvs:List (κ×V)) (k:κ):Option V:=(kvs.find? fun kv=>decide (kv.1=k)).map (·.2)
def putK (kvs:List (κ×V)) (k:κ) (v:V):List (κ×V):=
  if (kvs.any fun kv=>decide (kv.1=k))=true then kvs.map (fun kv=>if kv.1=k then (kv.1,v) else kv) else kvs++[(k,v)]
def dropK (kvs:List (κ×V)) (k:κ):List (κ×V):=kvs.filter fun kv=>decide (kv.1≠k)
theorem valV_pos {p:κ×V} {r:List (κ×V)} {k:κ} (e:p.1=k):valV (p::r) k=some p.2:=by simp [valV,List.find?_cons,e]
theorem valV_neg {p:κ×V} {r:List (κ×V)} {k:κ} (e:¬p.1=k):valV (p::r) k=valV r k:=by simp [valV,List.find?_cons,e]
theorem valV_any (k:κ):∀kvs:List (κ×V),(kvs.any fun kv=>decide (kv.1=k))=(valV kvs k).isSome
  | []=>rfl
  | p::r=>by
    rw [List.any_cons]
    by_cases e:p.1=k
    · simp only [valV_pos e,decide_eq_true e,Bool.true_or,Option.isSome_some]
    · rw [valV_neg e,decide_eq_false e,Bool.false_or]; exact valV_any k r
theorem length_putK (kvs:List (κ×V)) (k:κ) (v:V):(putK kvs k v).length≤kvs.length+1:=by
  unfold putK
  split
  · rw [List.length_map]; omega
  · rw [List.length_append,List.length_cons,List.length_nil]; omega
theorem RelO.isSome_eq {o:Option V} {u:Option Value} (r:RelO o u):o.isSome=u.isSome:=by
  cases o with
  | none=>cases u with
    | none=>rfl
    | some _=>exact (show False from r).elim
  | some _=>cases u with
    | none=>exact (show False from r).elim
    | some _=>rfl
theorem RelO.getD {o:Option V} {u:Option Value} {d:V} {d':Value} (r:RelO o u) (rd:RelV d d'):RelV (o.getD d) (u.getD d'):=by
  cases o with
  | none=>cases u with
    | none=>exact rd
    | some _=>exact (show False from r).elim
  | some _=>cases u with
    | none=>exact (show False from r).elim
    | some _=>exact r
theorem KV.val {kvs:List (κ×V)} {vs:List (κ×Value)} (r:KV kvs vs) (k:κ):RelO (valV kvs k) (valueAt vs k):=by
  unfold KV at r
  induction r with
  | nil=>exact True.intro
  | @cons p q ps qs h t ih=>
    obtain ⟨h1,h2⟩:=h
    by_cases e:p.1=k
    · have e':q.1=k:=h1.symm.trans e
      have b:valueAt (q::qs) k=some q.2:=by simp [valueAt,List.find?_cons,e']
      rw [valV_pos e,b]; exact h2
    · have e':¬q.1=k:=fun z=>e (h1.trans z)
      have b:valueAt (q::qs) k=valueAt qs k:=by simp [valueAt,List.find?_cons,e']
      rw [valV_neg e,b]; exact ih
theorem KV.any {kvs:List (κ×V)} {vs:List (κ×Value)} (r:KV kvs vs) (k:κ):(kvs.any fun kv=>decide (kv.1=k))=vs.any fun kv=>decide (kv.1=k):=by
  unfold KV at r
  induction r with
  | nil=>rfl
  | cons h t ih=>rw [List.any_cons,List.any_cons,ih,h.1]
theorem KV.repl {kvs:List (κ×V)} {vs:List (κ×Value)} (r:KV kvs vs) (k:κ) {y:V} {u:Value} (ry:RelV y u) :
    KV (kvs.map fun kv=>if kv.1=k then (kv.1,y) else kv) (vs.map fun kv=>if kv.1=k then (kv.1,u) else kv):=by
  unfold KV at r ⊢
  induction r with
  | nil=>exact .nil
  | @cons p q ps qs h t ih=>
    rw [List.map_cons,List.map_cons]
    refine .cons ?_ ih
    obtain ⟨h1,h2⟩:=h
    by_cases e:p.1=k
    · rw [if_pos e,if_pos (h1.symm.trans e)]; exact ⟨h1,ry⟩
    · rw [if_neg e,if_neg (fun z=>e (h1.trans z))]; exact ⟨h1,h2⟩
theorem KV.put {kvs:List (κ×V)} {vs:List (κ×Value)} (r:KV kvs vs) (k:κ) {y:V} {u:Value} (ry:RelV y u):KV (putK kvs k y) (stored vs k u):=by
  unfold putK stored
  rw [r.any k]
  by_cases e:(vs.any fun kv=>decide (kv.1=k))=true
  · rw [if_pos e,if_pos e]; exact r.repl k ry
  · rw [if_neg e,if_neg e]; exact Paired.snoc r ⟨rfl,ry⟩
theorem KV.drop {kvs:List (κ×V)} {vs:List (κ×Value)} (r:KV kvs vs) (k:κ):KV (dropK kvs k) (without vs k):=by
  unfold KV at r ⊢
  unfold dropK without
  induction r with
  | nil=>exact .nil
  | @cons p q ps qs h t ih=>
    obtain ⟨h1,h2⟩:=h
    rw [List.filter_cons,List.filter_cons]
    by_cases e:p.1=k
    · have a:¬decide (p.1≠k)=true:=by simp [e]
      have b:¬decide (q.1≠k)=true:=by simp [h1.symm.trans e]
      rw [if_neg a,if_neg b]; exact ih
    · have e':¬q.1=k:=fun z=>e (h1.trans z)
      have a:decide (p.1≠k)=true:=by simp [e]
      have b:decide (q.1≠k)=true:=by simp [e']
      rw [if_pos a,if_pos b]; exact .cons ⟨h1,h2⟩ ih
theorem KV.length {kvs:List (κ×V)} {vs:List (κ×Value)} (r:KV kvs vs):kvs.length=vs.length:=Paired.length r
theorem dropK_le (kvs:List (κ×V)) (k:κ):(dropK kvs k).length≤kvs.length:=List.length_filter_le _ _
end
theorem kV_is {P:Program} {w:World} {k:Key} {u:Value} (r:RelV (kV k) u):(mixKind P w).is k u=true:=by
  cases k with
  | inl i=>obtain ⟨t,e⟩:=(show ∃t,u=Value.int i t from r); subst e; exact mixKind_int P w i t
  | inr x=>obtain ⟨t,e⟩:=(show ∃t,u=Value.str x t from r); subst e; exact mixKind_str P w x t
theorem items_are {P:Program} {w:World}:∀{ks:List Key} {us:List Value},Vals (ks.map kV) us→ItemsAre (mixKind P w) ks us
  | [],_,r=>by rw [List.map_nil] at r; cases r; exact .nil
  | k::ks,_,r=>by
    rw [List.map_cons] at r
    cases r with
    | cons h t=>exact .cons (kV_is h) (items_are t)
abbrev KT (H:Hp):List (List Key×V)→List (List Key×Addr×Value)→Prop:=Paired fun p q=>p.1=q.1∧H q.2.1=some (.tup (p.1.map kV))∧RelV p.2 q.2.2
theorem KT.val {H:Hp} {kvs:List (List Key×V)} {xs:List (List Key×Addr×Value)} (r:KT H kvs xs) (k:List Key):RelO (valV kvs k) ((atKey xs k).map (·.2)):=by
  induction r with
  | nil=>exact True.intro
  | @cons p q ps qs h t ih=>
    obtain ⟨h1,_,h2⟩:=h
    by_cases e:p.1=k
    · have e':q.1=k:=h1.symm.trans e
      have b:atKey (q::qs) k=some q.2:=by simp [atKey,List.find?_cons,e']
      rw [valV_pos e,b]; exact h2
    · have e':¬q.1=k:=fun z=>e (h1.trans z)
      have b:atKey (q::qs) k=atKey qs k:=by simp [atKey,List.find?_cons,e']
      rw [valV_neg e,b]; exact ih
theorem KT.repl {H:Hp} {kvs:List (List Key×V)} {xs:List (List Key×Addr×Value)} (r:KT H kvs xs) (k:List Key) {y:V} {u:Value} (ry:RelV y u) :
    KT H (kvs.map fun kv=>if kv.1=k then (kv.1,y) else kv) (xs.map (putAt k u)):=by
  induction r with
  | nil=>exact .nil
  | @cons p q ps qs h t ih=>
    rw [List.map_cons,List.map_cons]
    refine .cons ?_ ih
    obtain ⟨h1,h2,h3⟩:=h
    unfold putAt
    by_cases e:p.1=k
    · rw [if_pos e,if_pos (h1.symm.trans e)]; exact ⟨h1,h2,ry⟩
    · rw [if_neg e,if_neg (fun z=>e (h1.trans z))]; exact ⟨h1,h2,h3⟩
theorem KT.put {H:Hp} {kvs:List (List Key×V)} {xs:List (List Key×Addr×Value)} (r:KT H kvs xs) (k:List Key) {b:Addr} {y:V} {u:Value} (hb:H b=some (.tup (k.map kV))) (ry:RelV y u) :
    KT H (putK kvs k y) (storedH xs k b u):=by
  have e:(kvs.any fun kv=>decide (kv.1=k))=(atKey xs k).isSome:=by
    rw [valV_any,(r.val k).isSome_eq,Option.isSome_map]
  unfold putK storedH
  rw [e]
  by_cases q:(atKey xs k).isSome=true
  · rw [if_pos q,if_pos q]; exact r.repl k ry
  · rw [if_neg q,if_neg q]; exact Paired.snoc r ⟨rfl,hb,ry⟩
theorem KT.keeps {H H':Hp} {kvs:List (List Key×V)} {xs:List (List Key×Addr×Value)} (r:KT H kvs xs) (ht:∀b ys,H b=some (.tup ys)→H' b=some (.tup ys)):KT H' kvs xs:=
  Paired.mapP r fun _ _ z=>⟨z.1,ht _ _ z.2.1,z.2.2⟩
section
variable {P:Program} {w:World} {H:Hp} {h:Heap} {a:Addr}
theorem rd_of {u:HO} (ok:HOk P w H h) (e:Rd H a u):ObjOk P w H h a u:=e.ok ok
theorem dk_rd {kvs:List (Key×V)} (ok:HOk P w H h) (e:Rd H a (.dK kvs)):kvs.length≤sizeLine∧(a == sysModules)=false∧∃vs,KV kvs vs∧h.DictOf (mixKind P w) a vs:=
  show ObjOk P w H h a (.dK kvs) from rd_of ok e
theorem dk_of {kvs:List (Key×V)} (ok:HOk P w H h) (e:H a=some (.dK kvs)):kvs.length≤sizeLine∧(a == sysModules)=false∧∃vs,KV kvs vs∧h.DictOf (mixKind P w) a vs:=dk_rd ok (.inl e)
theorem key_of {ks:List Key} (ok:HOk P w H h) (e:H a=some (.tup (ks.map kV))):(tupleKind (mixKind P w)).is h ks a:=by
  obtain ⟨_,its,r,o,h1,h2,n,h3⟩:=(show ObjOk P w H h a (.tup (ks.map kV)) from ok a _ e)
  exact ⟨o,its.toArray,n,h1,h2,h3,by simpa using items_are r⟩
theorem dt_rd {kvs:List (List Key×V)} (ok:HOk P w H h) (e:Rd H a (.dT kvs)):kvs.length≤sizeLine∧(a == sysModules)=false∧
    ∃xs,KT H kvs xs∧h.DictOfH (tupleKind (mixKind P w)) a xs:=by
  obtain ⟨z,y,xs,r,o,es,ep,h1,h2,h3,h4,h5⟩:=(show ObjOk P w H h a (.dT kvs) from rd_of ok e)
  refine ⟨z,y,xs,r,o,es,ep,h1,h2,h3,h4,fun x hx=>?_,h5⟩
  have all:∀{l:List (List Key×V)} {m:List (List Key×Addr×Value)},KT H l m→∀x∈m,(tupleKind (mixKind P w)).is h x.1 x.2.1:=by
    intro l m q
    induction q with
    | nil=>intro x hx; exact nomatch hx
    | @cons p q ps qs hq t ih=>
      intro x hx
      rcases List.mem_cons.mp hx with e | hx
      · subst e
        exact key_of ok (by rw [←hq.1]; exact hq.2.1)
      · exact ih x hx
  exact all r x hx
end
def DGet (H:Hp) (a:Addr) (y:V) (r:Option V):Prop:=
  (∃kvs k,Rd H a (.dK kvs)∧y=kV k∧r=valV kvs k)∨∃kvs k b,Rd H a (.dT kvs)∧y=.ref b∧H b=some (.tup (k.map kV))∧r=valV kvs k
def DPut (H:Hp) (a:Addr) (y v:V) (H':Hp):Prop:=
  (∃kvs k,H a=some (.dK kvs)∧y=kV k∧kvs.length<sizeLine∧H'=upd H a (.dK (putK kvs k v)))∨
  ∃kvs k b,H a=some (.dT kvs)∧y=.ref b∧H b=some (.tup (k.map kV))∧kvs.length<sizeLine∧H'=upd H a (.dT (putK kvs k v))
theorem DGet.k {H:Hp} {a:Addr} {kvs:List (Key×V)} {k:Key} (e:H a=some (.dK kvs)):DGet H a (kV k) (valV kvs k):=.inl ⟨kvs,k,.inl e,rfl,rfl⟩
theorem DGet.t {H:Hp} {a b:Addr} {kvs:List (List Key×V)} {k:List Key} (e:H a=some (.dT kvs)) (eb:H b=some (.tup (k.map kV))):DGet H a (.ref b) (valV kvs k):=.inr ⟨kvs,k,b,.inl e,rfl,eb,rfl⟩
theorem DPut.k {H:Hp} {a:Addr} {kvs:List (Key×V)} {k:Key} {v:V} (e:H a=some (.dK kvs)) (hl:kvs.length<sizeLine):DPut H a (kV k) v (upd H a (.dK (putK kvs k v))):=.inl ⟨kvs,k,e,rfl,hl,rfl⟩
theorem DPut.t {H:Hp} {a b:Addr} {kvs:List (List Key×V)} {k:List Key} {v:V} (e:H a=some (.dT kvs)) (eb:H b=some (.tup (k.map kV))) (hl:kvs.length<sizeLine) :
    DPut H a (.ref b) v (upd H a (.dT (putK kvs k v))):=.inr ⟨kvs,k,b,e,rfl,eb,hl,rfl⟩
section
variable {X:Cx} {pins:List (Addr×Obj)} {σ:St} {H:Hp} {s:Shared} {a:Addr} {y v:V} {u r:Value} {o:Option V} {A:Around} {E:Value→Shared→Prop}
theorem Inv.big (I:Inv X pins σ H s):sysModules<s.heap.objs.size:=by
  have h:mainGlobals<s.heap.objs.size:=(I.mod.glob.keeps I.bk).lt
  exact Nat.lt_trans (by decide) h
theorem d_in {Q:Value→Shared→Prop} (hu:A.units+1<cLine) (I:Inv X pins σ H s) (g:DGet H a y o) (ry:RelV y u) (h:∀s',Inv X pins σ H s'→Q (.bool o.isSome) s') :
    wpAny (model X.prog X.w) A (compareOp .In u (.ref a)) Q E s:=by
  rcases g with ⟨kvs,k,e,ey,l⟩ | ⟨kvs,k,b,e,ey,eb,l⟩
  · subst ey
    obtain ⟨z,hd,vs,rel,dd⟩:=dk_rd I.hok e
    refine wpAny_in_of (kV_is ry) hd dd.mapOf ?_
    rw [←(rel.val k).isSome_eq,←l]
    exact h _ (I.tok _)
  · subst ey
    cases (show u=Value.ref b from ry)
    obtain ⟨z,hd,xs,rel,dd⟩:=dt_rd I.hok e
    refine wpAny_in_heap (tupleKind_room_in1 hu) (key_of I.hok eb) hd dd ?_
    have q:=(rel.val k).isSome_eq
    rw [Option.isSome_map] at q
    rw [←q,←l]
    exact h _ (I.tok _)
theorem d_write {h':Heap} {t':Nat} {ob:HO} (I:Inv X pins σ H s) (mu:Mut (H a)) (hs:Heap.SameBut a s.heap h') (he:∃q,h'.get? a=some q) (new:ObjOk X.prog X.w (upd H a ob) h' a ob) :
    Inv X pins σ (upd H a ob) { s with heap:=h',toks:=t' }:=
  I.write (x:=a) (e:=a) mu (.inl rfl) (fun b q hb z=>(hs.2 b hb).trans z) he new
theorem dk_new {P:Program} {w:World} {H':Hp} {h':Heap} {kvs:List (Key×V)} {vs:List (Key×Value)} (z:kvs.length≤sizeLine) (hd:(a == sysModules)=false) (rel:KV kvs vs) (dd:h'.DictOf (mixKind P w) a vs) :
    ObjOk P w H' h' a (.dK kvs):=⟨z,hd,vs,rel,dd⟩
end
section
variable {X:Cx} {pins:List (Addr×Obj)} {σ:St} {H:Hp} {s:Shared} {a:Addr} {kvs:List (Key×V)} {k:Key} {u:Value} {A:Around} {E:Value→Shared→Prop}
theorem d_delItem {Q:Unit→Shared→Prop} (I:Inv X pins σ H s) (e:H a=some (.dK kvs)) (ry:RelV (kV k) u) (l:(valV kvs k).isSome=true) (h:∀s',Inv X pins σ (upd H a (.dK (dropK kvs k))) s'→Q () s') :
    wpAny (model X.prog X.w) A (delItem (.ref a) u) Q E s:=by
  obtain ⟨z,hd,vs,rel,dd⟩:=dk_of I.hok e
  refine wpAny_delItem_slot dd.typeIs (by decide) PySem.F.slot_dict_delitem
    (call_meetsIn PySem.F.slot_dict_delitem dd.typeIs PySem.F.entry_dict_delitem (PySem.F.args_dict_delitem_2 _ _) (meets_dict_delitem_pairs (mixKind X.prog X.w) a (kV_is ry)) ⟨vs,dd,by rw [←rel.length]; exact z,by rw [←(rel.val k).isSome_eq]; exact l,fun h' dd' hs=>h _ ?_⟩)
  have he:∃q,h'.get? a=some q:=let ⟨q,_,_,hq,_⟩:=dd'; ⟨q,hq⟩
  exact d_write I (by rw [e]; exact True.intro) hs he (dk_new (Nat.le_trans (dropK_le kvs k) z) hd (rel.drop k) dd')
theorem d_pop {v:V} {more:List Value} {Q:Value→Shared→Prop} (I:Inv X pins σ H s) (e:H a=some (.dK kvs)) (ry:RelV (kV k) u) (l:valV kvs k=some v) (hm:more=[]∨∃x,more=[x])
    (h:∀w' s',Inv X pins σ (upd H a (.dK (dropK kvs k))) s'→RelV v w'→Q w' s'):wpAny (model X.prog X.w) A (call (.builtin "dict.pop") (.ref a::u::more)) Q E s:=by
  obtain ⟨z,hd,vs,rel,dd⟩:=dk_of I.hok e
  obtain ⟨w',hw,rw'⟩:=RelO.some_of (v:=v) (o:=valueAt vs k) (by rw [←l]; exact rel.val k)
  have hp:(keyPart u).isSome=true:=by
    cases k with
    | inl i=>obtain ⟨t,q⟩:=(show ∃t,u=Value.int i t from ry); subst q; rfl
    | inr x=>obtain ⟨t,q⟩:=(show ∃t,u=Value.str x t from ry); subst q; rfl
  have ha:argsOk "dict.pop" ⟨.ref a::u::more,[]⟩:=by
    rcases hm with q | ⟨x,q⟩
    · subst q; exact PySem.F.args_dict_pop_2 _ _
    · subst q; exact PySem.F.args_dict_pop_3 _ _ _
  refine call_meetsIn PySem.F.slot_dict_pop dd.typeIs PySem.F.entry_dict_pop ha (meets_dict_pop_there (mixKind X.prog X.w) a (kV_is ry) more hm hp)
    ⟨vs,w',dd,by rw [←rel.length]; exact z,hw,fun h' dd' hs=>h w' _ ?_ rw'⟩
  have he:∃q,h'.get? a=some q:=let ⟨q,_,_,hq,_⟩:=dd'; ⟨q,hq⟩
  exact d_write I (by rw [e]; exact True.intro) hs he (dk_new (Nat.le_trans (dropK_le kvs k) z) hd (rel.drop k) dd')
end
def tDIn (ty td:TE):TE:=fun σ H Q=>ty σ H fun y H1=>td σ H1 fun x H2=>∃a o,x=.ref a∧DGet H2 a y o∧Q (.bl o.isSome) H2
section
variable {X:Cx} {o i e value:Expr} {pos pos' tpos:Pos} {td ty tv:TE}
theorem pc_din (hu:X.A.units+1<cLine) (hi:PE X i ty) (ho:PE X o td):PC X .In i o (tDIn ty td):=by
  intro pins s σ H Q I h
  refine thn (hi pins s σ H _ I h) fun iv s1 ⟨y,H1,I1,ry,q1⟩=>thn (ho pins s1 σ H1 _ I1 q1) fun u s2 ⟨x,H2,I2,rx,a,ov,ex,g,q2⟩=>?_
  subst ex
  obtain rfl:u=Value.ref a:=rx
  exact d_in hu I2 g ry fun s3 I3=>⟨.bl ov.isSome,H2,I3,rfl,q2⟩
end
theorem dk_empty {P:Program} {w:World} {H:Hp} (h:Heap) (hb:sysModules<h.objs.size):ObjOk P w H (h.push { cls:=.type "dict",data:=.dict #[] }) h.objs.size (.dK []):=
  ⟨Nat.zero_le _,beq_eq_false_iff_ne.mpr (Ne.symm (Nat.ne_of_lt hb)),[],.nil,Heap.DictOf.new h⟩
def tDNewK:TE:=fun _ H Q=>∀p,H p=none→Q (.ref p) (upd H p (.dK []))
section
variable {X:Cx} {pos:Pos}
theorem pe_dnewK:PE X (.Dict [] [] pos) tDNewK:=fun pins s σ H Q I h=>
  wpAny_Dict_empty ⟨.ref s.heap.objs.size,_,I.laid (a:=s.heap.objs.size) (o:=.dK []) (t':=s.toks) (fun _ _ q=>Heap.get?_push_of_some _ q) (Nat.le_refl _) (dk_empty s.heap I.big),rfl,h _ (I.hok.fresh (Nat.le_refl _))⟩
end
structure M1 (X:Cx) (o:Expr) (m:Str) (apos:Pos) (e:Expr) (cpos:Pos):Prop where
  base:attributeBase o m X.env (eval o X.env)=eval o X.env
  few:((backTo cpos (starEach [e] X.env)).all (fun x=>!x.1) && (backToKw cpos (keywordEach [] X.env)).all (fun x=>x.1.isSome)
    && decide (([e]:List Expr).length+([]:List Keyword).length+(if ([]:List Keyword).isEmpty then 0 else 1)<30))=true
  line:(apos.endLine == cpos.line)=true
  trees:backTo cpos (starEach [e] X.env)=[(false,eval e X.env)]
structure M2 (X:Cx) (o:Expr) (m:Str) (apos:Pos) (e f:Expr) (cpos:Pos):Prop where
  base:attributeBase o m X.env (eval o X.env)=eval o X.env
  few:((backTo cpos (starEach [e,f] X.env)).all (fun x=>!x.1) && (backToKw cpos (keywordEach [] X.env)).all (fun x=>x.1.isSome)
    && decide (([e,f]:List Expr).length+([]:List Keyword).length+(if ([]:List Keyword).isEmpty then 0 else 1)<30))=true
  line:(apos.endLine == cpos.line)=true
  trees:backTo cpos (starEach [e,f] X.env)=[(false,eval e X.env),(false,eval f X.env)]
def IsD (H:Hp) (a:Addr):Prop:=(∃kvs,Rd H a (.dK kvs))∨∃kvs,Rd H a (.dT kvs)
theorem isD_at {X:Cx} {pins:List (Addr×Obj)} {σ:St} {H:Hp} {s:Shared} {a:Addr} (I:Inv X pins σ H s) (d:IsD H a) :
    s.TypeIs (.ref a) "dict"∧(∀b,Value.ref a=.ref b→∃ob,s.heap.get? b=some ob∧ob.dict=none)∧(a == sysModules)=false:=by
  rcases d with ⟨kvs,e⟩ | ⟨kvs,e⟩
  · obtain ⟨_,hd,vs,_,dd⟩:=dk_rd I.hok e
    refine ⟨dd.typeIs,fun b q=>?_,hd⟩
    cases q
    obtain ⟨ob,_,_,h1,h2,_⟩:=dd
    exact ⟨ob,h1,h2.2.1⟩
  · obtain ⟨_,hd,xs,_,dd⟩:=dt_rd I.hok e
    refine ⟨dd.typeIs,fun b q=>?_,hd⟩
    cases q
    obtain ⟨ob,_,_,h1,h2,_⟩:=dd
    exact ⟨ob,h1,h2.2.1⟩
section
variable {X:Cx} {pins:List (Addr×Obj)} {σ:St} {H:Hp} {s:Shared} {a:Addr} {y d:V} {u r:Value} {o:Option V} {A:Around} {E:Value→Shared→Prop}
end
def tDPop1 (td ty:TE):TE:=fun σ H Q=>td σ H fun x H1=>∃a,x=.ref a∧IsD H1 a∧ty σ H1 fun y H2=>∃kvs k v,H2 a=some (.dK kvs)∧y=kV k∧valV kvs k=some v∧Q v (upd H2 a (.dK (dropK kvs k)))
section
variable {X:Cx} {o e f:Expr} {apos cpos:Pos} {td ty tx:TE}
theorem pe_dpop1 (ho:PE X o td) (he:PE X e ty) (m:M1 X o "pop" apos e cpos):PE X (.Call (.Attribute o "pop" apos) [e] [] cpos) (tDPop1 td ty):=by
  intro pins s σ H Q I h
  refine wpAny_Call_method m.base m.few m.line PySem.F.plainAttrs_dict PySem.F.slot_dict_pop PySem.F.type_dict_pop (thn (ho pins s σ H _ I h) fun u s1 ⟨x,H1,I1,rx,a,ex,d,q1⟩=>?_)
  subst ex
  obtain rfl:u=Value.ref a:=rx
  obtain ⟨t1,t2,_⟩:=isD_at I1 d
  refine ⟨t1,t2,?_⟩
  rw [m.trees]
  refine Calls.callWith_builtin rfl (Calls.evalArgs_plain (Calls.spliced_cons (thn (he pins s1 σ H1 _ I1 q1) fun iv s2 ⟨y,H2,I2,ry,kvs,k,v,ea,ey,l,q2⟩=>Calls.spliced_nil ?_)))
  subst ey
  exact d_pop I2 ea ry l (.inl rfl) fun w' s3 I3 rw'=>⟨v,_,I3,rw',q2⟩
end
section
variable {X:Cx} {pins:List (Addr×Obj)} {σ:St} {H:Hp} {s:Shared} {a:Addr} {kvs:List (Key×V)} {A:Around} {E:Value→Shared→Prop}
end
section
variable {X:Cx} {pins:List (Addr×Obj)} {σ:St} {H:Hp} {s:Shared} {a:Addr} {y:V} {u:Value} {A:Around} {E:Value→Shared→Prop}
end
end L2
set_option Elab.async false
set_option linter.all false
set_option maxRecDepth 100000
set_option maxHeartbeats 4000000
namespace L2.MM
open PySem PySem.Spec PyProof.Rows
theorem nr {α:Sort _} {a b:α} (h:a=b):a=b:=h
inductive D where
  | non | bl (b:Bool) | int (i:Int) | str (x:Str) | ty (n:String)
  | scr (ns:List Int) | tup (xs:List D) | lst (xs:List D) | ref (l:Nat)
  deriving Inhabited
inductive Cell where
  | lst (xs:List D) | dK (kvs:List (Key×D)) | dT (kvs:List (List Key×D)) | ins (C:Str) (fs:List (Str×D))
abbrev Sto:=List Cell
structure Bx where
  n:Nat
  m:Nat→Addr
  F:Addr→Prop
  os:List Addr
  ks:Addr→List Int→Prop
def Bx.ok (B:Bx) (a:Addr):Prop:=(∀i,i<B.n→B.m i≠a)∧¬B.F a∧a∉B.os
mutual
def RepV (B:Bx) (H:Hp):D→V→Prop
  | .non,v=>v=.non
  | .bl b,v=>v=.bl b
  | .int i,v=>v=.int i
  | .str x,v=>v=.str x
  | .ty n,v=>v=.ty n
  | .scr ns,v=>∃a,v=.ref a∧((∃o,H a=some (.frz o (.lst (ns.map V.int)))∧B.ok a)∨B.ks a ns)
  | .tup xs,v=>∃a vs,v=.ref a∧H a=some (.tup vs)∧B.ok a∧RepL B H xs vs
  | .lst xs,v=>∃a vs,v=.ref a∧H a=some (.lst vs)∧B.ok a∧RepL B H xs vs
  | .ref l,v=>l<B.n∧v=.ref (B.m l)
def RepL (B:Bx) (H:Hp):List D→List V→Prop
  | [],vs=>vs=[]
  | d::ds,vs=>∃v r,vs=v::r∧RepV B H d v∧RepL B H ds r
end
abbrev RepKV {κ:Type} (B:Bx) (H:Hp):List (κ×D)→List (κ×V)→Prop:=Paired fun p q=>p.1=q.1∧RepV B H p.2 q.2
structure ExtS (B B':Bx) (H H':Hp):Prop where
  n:B.n≤B'.n
  m:∀i,i<B.n→B'.m i=B.m i
  fr:∀i,B.n≤i→i<B'.n→H (B'.m i)=none
  keep:∀a o,H a=some o→(∀i,i<B.n→B.m i≠a)→a∉B.os→H' a=some o
  sm:∀a,H a≠none→H' a≠none
  os:∀a,a∈B'.os→a∈B.os∨H a=none
  F:B'.F=B.F
  ks:B'.ks=B.ks
structure ExtE (B B':Bx) (H H':Hp):Prop extends ExtS B B' H H' where
  osE:B'.os=B.os
  ko:∀a o,a∈B.os→(∀i,i<B.n→B.m i≠a)→H a=some o→H' a=some o
theorem ExtS.refl (B:Bx) (H:Hp):ExtS B B H H:=⟨Nat.le_refl _,fun _ _=>rfl,fun i h h'=>absurd h' (Nat.not_lt.mpr h),fun _ _ h _ _=>h,fun _ h=>h,fun _ h=>.inl h,rfl,rfl⟩
theorem ExtE.refl (B:Bx) (H:Hp):ExtE B B H H:=⟨ExtS.refl B H,rfl,fun _ _ _ _ h=>h⟩
section
variable {B B' B'':Bx} {H H' H'':Hp}
theorem Bx.ok.ext {a:Addr} {o:HO} (k:B.ok a) (E:ExtS B B' H H') (h:H a=some o):B'.ok a∧H' a=some o:=by
  refine ⟨⟨fun i hi e=>?_,by rw [E.F]; exact k.2.1,fun z=>?_⟩,E.keep a o h k.1 k.2.2⟩
  · by_cases q:i<B.n
    · rw [E.m i q] at e; exact k.1 i q e
    · have:=E.fr i (Nat.not_lt.mp q) hi
      rw [e,h] at this; cases this
  · rcases E.os a z with z | z
    · exact k.2.2 z
    · rw [h] at z; cases z
theorem ExtS.trans (E:ExtS B B' H H') (E':ExtS B' B'' H' H''):ExtS B B'' H H'' where
  n:=Nat.le_trans E.n E'.n
  m:=fun i hi=>(E'.m i (Nat.lt_of_lt_of_le hi E.n)).trans (E.m i hi)
  fr:=fun i h1 h2=>by
    by_cases q:i<B'.n
    · rw [E'.m i q]; exact E.fr i h1 q
    · cases z:H (B''.m i) with
      | none=>rfl
      | some o=>exact absurd (E'.fr i (Nat.not_lt.mp q) h2) (E.sm _ (by rw [z]; simp))
  keep:=fun a o h h1 h2=>by
    have h':=E.keep a o h h1 h2
    refine E'.keep a o h' (fun i hi e=>?_) (fun z=>?_)
    · by_cases q:i<B.n
      · rw [E.m i q] at e; exact h1 i q e
      · have:=E.fr i (Nat.not_lt.mp q) hi
        rw [e,h] at this; cases this
    · rcases E.os a z with z | z
      · exact h2 z
      · rw [h] at z; cases z
  sm:=fun a h=>E'.sm a (E.sm a h)
  os:=fun a h=>by
    rcases E'.os a h with z | z
    · exact E.os a z
    · right
      cases q:H a with
      | none=>rfl
      | some o=>exact absurd z (E.sm a (by rw [q]; simp))
  F:=E'.F.trans E.F
  ks:=E'.ks.trans E.ks
theorem ExtE.trans (E:ExtE B B' H H') (E':ExtE B' B'' H' H''):ExtE B B'' H H'' where
  toExtS:=E.toExtS.trans E'.toExtS
  osE:=E'.osE.trans E.osE
  ko:=fun a o ha h1 h=>by
    have h':=E.ko a o ha h1 h
    refine E'.ko a o (by rw [E.osE]; exact ha) (fun i hi e=>?_) h'
    by_cases q:i<B.n
    · rw [E.m i q] at e; exact h1 i q e
    · have:=E.fr i (Nat.not_lt.mp q) hi
      rw [e,h] at this; cases this
mutual
theorem RepV.ext (E:ExtS B B' H H'):∀{d:D} {v:V},RepV B H d v→RepV B' H' d v
  | .non,_,h=>h
  | .bl _,_,h=>h
  | .int _,_,h=>h
  | .str _,_,h=>h
  | .ty _,_,h=>h
  | .scr _,_,h=>by
    obtain ⟨a,e,h⟩:=h
    refine ⟨a,e,?_⟩
    rcases h with ⟨o,h,k⟩ | h
    · obtain ⟨k',h'⟩:=k.ext E h
      exact .inl ⟨o,h',k'⟩
    · exact .inr (by rw [E.ks]; exact h)
  | .tup _,_,h=>by
    obtain ⟨a,vs,e,h,k,l⟩:=h
    obtain ⟨k',h'⟩:=k.ext E h
    exact ⟨a,vs,e,h',k',RepL.ext E l⟩
  | .lst _,_,h=>by
    obtain ⟨a,vs,e,h,k,l⟩:=h
    obtain ⟨k',h'⟩:=k.ext E h
    exact ⟨a,vs,e,h',k',RepL.ext E l⟩
  | .ref l,_,h=>⟨Nat.lt_of_lt_of_le h.1 E.n,by rw [h.2,E.m l h.1]⟩
theorem RepL.ext (E:ExtS B B' H H'):∀{ds:List D} {vs:List V},RepL B H ds vs→RepL B' H' ds vs
  | [],_,h=>h
  | _::_,_,h=>by
    obtain ⟨v,r,e,hv,hr⟩:=h
    exact ⟨v,r,e,RepV.ext E hv,RepL.ext E hr⟩
end
theorem RepL.len:∀{ds:List D} {vs:List V},RepL B H ds vs→vs.length=ds.length
  | [],_,h=>by cases (show _=[] from h); rfl
  | _::_,_,h=>by
    obtain ⟨v,r,rfl,_,hr⟩:=h
    simp [RepL.len hr]
theorem RepL.app:∀{ds es:List D} {vs us:List V},RepL B H ds vs→RepL B H es us→RepL B H (ds++es) (vs++us)
  | [],_,_,_,h,q=>by cases (show _=[] from h); exact q
  | _::_,_,_,_,h,q=>by
    obtain ⟨v,r,rfl,hv,hr⟩:=h
    exact ⟨v,_,rfl,hv,RepL.app hr q⟩
theorem RepL.get:∀{ds:List D} {vs:List V} {i:Nat} {d:D},RepL B H ds vs→ds[i]?=some d→∃v,vs[i]?=some v∧RepV B H d v
  | [],_,_,_,_,e=>by simp at e
  | _::_,_,0,_,h,e=>by
    obtain ⟨v,r,rfl,hv,_⟩:=h
    simp at e; subst e
    exact ⟨v,rfl,hv⟩
  | _::_,_,i+1,_,h,e=>by
    obtain ⟨v,r,rfl,_,hr⟩:=h
    obtain ⟨w,q1,q2⟩:=RepL.get (i:=i) hr (by simpa using e)
    exact ⟨w,by simpa using q1,q2⟩
theorem RepL.take:∀{ds:List D} {vs:List V} (n:Nat),RepL B H ds vs→RepL B H (ds.take n) (vs.take n)
  | _,_,0,_=>by rw [List.take_zero,List.take_zero]; exact rfl
  | [],_,n+1,h=>by cases (show _=[] from h); exact rfl
  | _::_,_,n+1,h=>by
    obtain ⟨v,r,rfl,hv,hr⟩:=h
    exact ⟨v,_,rfl,hv,RepL.take n hr⟩
theorem RepL.drop:∀{ds:List D} {vs:List V} (n:Nat),RepL B H ds vs→RepL B H (ds.drop n) (vs.drop n)
  | _,_,0,h=>h
  | [],_,n+1,h=>by cases (show _=[] from h); exact rfl
  | _::_,_,n+1,h=>by
    obtain ⟨v,r,rfl,hv,hr⟩:=h
    exact RepL.drop n hr
theorem RepL.set {d:D} {v:V} (q:RepV B H d v):∀{ds:List D} {vs:List V} (i:Nat),RepL B H ds vs→RepL B H (ds.set i d) (vs.set i v)
  | [],_,_,h=>by cases (show _=[] from h); exact rfl
  | _::_,_,0,h=>by
    obtain ⟨w,r,rfl,_,hr⟩:=h
    exact ⟨v,r,rfl,q,hr⟩
  | _::_,_,i+1,h=>by
    obtain ⟨w,r,rfl,hw,hr⟩:=h
    exact ⟨w,_,rfl,hw,RepL.set q i hr⟩
theorem RepL.map {α:Type} {f:α→D} {g:α→V} (q:∀a,RepV B H (f a) (g a)):∀l:List α,RepL B H (l.map f) (l.map g)
  | []=>rfl
  | a::l=>⟨_,_,rfl,q a,RepL.map q l⟩
theorem RepKV.ext {κ:Type} (E:ExtS B B' H H'):∀{ks:List (κ×D)} {vs:List (κ×V)},RepKV B H ks vs→RepKV B' H' ks vs
  | _,_,.nil=>.nil
  | _,_,.cons h t=>.cons ⟨h.1,RepV.ext E h.2⟩ (RepKV.ext E t)
end
structure Mo where
  cl:Str→Addr
  K:PySem.W.Frag
def KL (K:PySem.W.Frag) (a:Addr) (ns:List Int):Prop:=∃(o:Obj) (its:Array Value) (n:Nat),K.lookup a=some o∧o.cls=.type "list"∧o.dict=none∧o.data=.seq its n∧its.size≤sizeLine∧Vals (ns.map V.int) its.toList
def CellOk (cl:Mo) (B:Bx) (H:Hp) (a:Addr):Cell→Prop
  | .lst xs=>∃vs,H a=some (.lst vs)∧RepL B H xs vs
  | .dK kvs=>∃vs,H a=some (.dK vs)∧RepKV B H kvs vs
  | .dT kvs=>∃vs,H a=some (.dT vs)∧RepKV B H kvs vs
  | .ins C fs=>∃dx vs,H a=some (.ins (cl.cl C) dx vs)∧RepKV B H fs vs
structure Good (cl:Mo) (B:Bx) (θ:Sto) (H:Hp):Prop where
  len:θ.length=B.n
  inj:∀i j,i<B.n→j<B.n→B.m i=B.m j→i=j
  cel:∀i c,θ[i]?=some c→CellOk cl B H (B.m i) c
  cF:∀i,i<B.n→¬B.F (B.m i)∧B.m i∉B.os
  Fs:∀a,B.F a→H a≠none
  oS:∀a,a∈B.os→H a≠none
  oF:∀a,a∈B.os→¬B.F a
  kc:∀a ns,B.ks a ns→KL cl.K a ns
section
variable {cl:Mo} {B B' B'':Bx} {H H' H'':Hp} {θ θ':Sto}
theorem CellOk.ext {a:Addr} {c:Cell} (k:CellOk cl B H a c) (E:ExtS B B' H H') (h:∀o,H a=some o→H' a=some o):CellOk cl B' H' a c:=by
  cases c with
  | lst xs=>obtain ⟨vs,e,r⟩:=k; exact ⟨vs,h _ e,r.ext E⟩
  | dK kvs=>obtain ⟨vs,e,r⟩:=k; exact ⟨vs,h _ e,r.ext E⟩
  | dT kvs=>obtain ⟨vs,e,r⟩:=k; exact ⟨vs,h _ e,r.ext E⟩
  | ins C fs=>obtain ⟨dx,vs,e,r⟩:=k; exact ⟨dx,vs,h _ e,r.ext E⟩
theorem CellOk.there {a:Addr} {c:Cell} (k:CellOk cl B H a c):H a≠none:=by
  cases c with
  | lst xs=>obtain ⟨vs,e,r⟩:=k; rw [e]; simp
  | dK kvs=>obtain ⟨vs,e,r⟩:=k; rw [e]; simp
  | dT kvs=>obtain ⟨vs,e,r⟩:=k; rw [e]; simp
  | ins C fs=>obtain ⟨dx,vs,e,r⟩:=k; rw [e]; simp
theorem Good.there (G:Good cl B θ H) {i:Nat} (hi:i<B.n):H (B.m i)≠none:=by
  have:i < θ.length:=by rw [G.len]; exact hi
  exact (G.cel i _ (List.getElem?_eq_getElem this)).there
theorem Good.okNone (G:Good cl B θ H) {p:Addr} (h:H p=none):B.ok p:=
  ⟨fun i hi e=>G.there hi (by rw [e]; exact h),fun z=>G.Fs p z h,fun z=>G.oS p z h⟩
theorem ext_new (G:Good cl B θ H) {p:Addr} (h:H p=none) (o:HO):ExtE B B H (upd H p o):=by
  have ne:∀a u,H a=some u→upd H p o a=some u:=fun a u e=>by rw [upd_ne (ne_of_none e h)]; exact e
  exact ⟨⟨Nat.le_refl _,fun _ _=>rfl,fun i h h'=>absurd h' (Nat.not_lt.mpr h),fun a u e _ _=>ne a u e,fun a e=>by
    cases q:H a with
    | none=>exact absurd q e
    | some u=>rw [ne a u q]; simp,fun _ h=>.inl h,rfl,rfl⟩,rfl,fun a u _ _ e=>ne a u e⟩
theorem good_new (G:Good cl B θ H) {p:Addr} (h:H p=none) (o:HO):Good cl B θ (upd H p o):=by
  have E:=ext_new G h o
  exact ⟨G.len,G.inj,fun i c e=>(G.cel i c e).ext E.toExtS fun u q=>by rw [upd_ne (ne_of_none q h)]; exact q,G.cF,fun a z=>E.sm a (G.Fs a z),fun a z=>E.sm a (G.oS a z),G.oF,G.kc⟩
theorem rep_lst (G:Good cl B θ H) {p:Addr} (h:H p=none) {xs:List D} {vs:List V} (r:RepL B H xs vs):RepV B (upd H p (.lst vs)) (.lst xs) (.ref p):=
  ⟨p,vs,rfl,upd_same,G.okNone h,r.ext (ext_new G h _).toExtS⟩
theorem rep_tup (G:Good cl B θ H) {p:Addr} (h:H p=none) {xs:List D} {vs:List V} (r:RepL B H xs vs):RepV B (upd H p (.tup vs)) (.tup xs) (.ref p):=
  ⟨p,vs,rfl,upd_same,G.okNone h,r.ext (ext_new G h _).toExtS⟩
def Bx.push (B:Bx) (p:Addr):Bx:={ B with n:=B.n+1,m:=fun i=>if i=B.n then p else B.m i }
theorem ext_cell (G:Good cl B θ H) {p:Addr} (h:H p=none) (o:HO):ExtE B (B.push p) H (upd H p o):=by
  have E:=ext_new G h o
  refine ⟨⟨Nat.le_succ _,fun i hi=>if_neg (Nat.ne_of_lt hi),fun i h1 h2=>?_,E.keep,E.sm,fun _ h=>.inl h,rfl,rfl⟩,rfl,E.ko⟩
  have e:i=B.n:=Nat.le_antisymm (Nat.le_of_lt_succ h2) h1
  show H (if i=B.n then p else B.m i)=none
  rw [if_pos e]; exact h
theorem good_cell (G:Good cl B θ H) {p:Addr} (h:H p=none) {o:HO} {c:Cell} (k:CellOk cl (B.push p) (upd H p o) p c):Good cl (B.push p) (θ++[c]) (upd H p o):=by
  have E:=ext_cell G h o
  have hm:∀i,i<B.n→(B.push p).m i=B.m i:=fun i hi=>if_neg (Nat.ne_of_lt hi)
  have hn:(B.push p).m B.n=p:=if_pos rfl
  have cs:∀i,i<(B.push p).n→i<B.n∨i=B.n:=fun i hi=>Nat.lt_succ_iff_lt_or_eq.mp hi
  have ok:=G.okNone h
  refine ⟨by rw [List.length_append,G.len]; rfl,fun i j hi hj e=>?_,fun i c' e=>?_,fun i hi=>?_,fun a z=>E.sm a (G.Fs a z),fun a z=>E.sm a (G.oS a z),G.oF,G.kc⟩
  · rcases cs i hi with a | a<;>rcases cs j hj with b | b
    · rw [hm i a,hm j b] at e; exact G.inj i j a b e
    · rw [hm i a,b,hn] at e; exact absurd e (ok.1 i a)
    · rw [hm j b,a,hn] at e; exact absurd e.symm (ok.1 j b)
    · rw [a,b]
  · by_cases q:i < θ.length
    · rw [List.getElem?_append_left q] at e
      rw [hm i (by rw [←G.len]; exact q)]
      exact (G.cel i c' e).ext E.toExtS fun u z=>by rw [upd_ne (ne_of_none z h)]; exact z
    · have q':=Nat.not_lt.mp q
      rw [List.getElem?_append_right q'] at e
      have:i - θ.length=0:=by
        cases z:i - θ.length with
        | zero=>rfl
        | succ k=>rw [z] at e; simp at e
      rw [this] at e
      simp at e
      subst e
      have:i=B.n:=by rw [←G.len]; omega
      rw [this,hn]; exact k
  · rcases cs i hi with a | a
    · rw [hm i a]; exact G.cF i a
    · rw [a,hn]; exact ⟨ok.2.1,ok.2.2⟩
theorem ext_set (G:Good cl B θ H) {l:Nat} (hl:l<B.n) (o:HO):ExtE B B H (upd H (B.m l) o):=by
  have ne:∀a u,(∀i,i<B.n→B.m i≠a)→H a=some u→upd H (B.m l) o a=some u:=fun a u k e=>by rw [upd_ne (Ne.symm (k l hl))]; exact e
  exact ⟨⟨Nat.le_refl _,fun _ _=>rfl,fun i h h'=>absurd h' (Nat.not_lt.mpr h),fun a u e k _=>ne a u k e,fun a e=>by
    by_cases q:a=B.m l
    · rw [q,upd_same]; simp
    · rw [upd_ne q]; exact e,fun _ h=>.inl h,rfl,rfl⟩,rfl,fun a u _ k e=>ne a u k e⟩
theorem good_set (G:Good cl B θ H) {l:Nat} (hl:l<B.n) {o:HO} {c:Cell} (k:CellOk cl B (upd H (B.m l) o) (B.m l) c):Good cl B (θ.set l c) (upd H (B.m l) o):=by
  have E:=ext_set G hl o
  refine ⟨by rw [List.length_set]; exact G.len,G.inj,fun i c' e=>?_,G.cF,fun a z=>E.sm a (G.Fs a z),fun a z=>E.sm a (G.oS a z),G.oF,G.kc⟩
  by_cases q:i=l
  · subst q
    rw [List.getElem?_set_self (by rw [G.len]; exact hl)] at e
    cases e; exact k
  · rw [List.getElem?_set_ne (Ne.symm q)] at e
    have hi:i<B.n:=by rw [←G.len]; exact (List.getElem?_eq_some_iff.mp e).1
    exact (G.cel i c' e).ext E.toExtS fun u z=>by rw [upd_ne (fun z'=>q (G.inj i l hi hl z'))]; exact z
end
inductive R (α:Type) where
  | ok (a:α) (θ:Sto) | ex (c:Str) (θ:Sto) | bad
def R.bind {α β:Type} (r:R α) (k:α→Sto→R β):R β:=match r with
  | .ok a θ=>k a θ
  | .ex c θ=>.ex c θ
  | .bad=>.bad
@[simp] theorem R.bind_ok {α β:Type} (a:α) (θ:Sto) (k:α→Sto→R β):(R.ok a θ).bind k=k a θ:=nr rfl
@[simp] theorem R.bind_bad {α β:Type} (k:α→Sto→R β):(R.bad:R α).bind k=.bad:=nr rfl
inductive Sl where
  | no | val (d:D) | own (xs:List D)
structure Frm (cl:Mo) (B:Bx) (θ:Sto) (ρ:List Sl) (σ:St) (H:Hp):Prop where
  good:Good cl B θ H
  len:ρ.length=σ.length
  val:∀(i:Nat) (d:D),ρ[i]?=some (Sl.val d)→∃v,σ[i]?=some (some v)∧RepV B H d v
  own:∀(i:Nat) (xs:List D),ρ[i]?=some (Sl.own xs)→∃a vs,σ[i]?=some (some (.ref a))∧a∈B.os∧H a=some (.lst vs)∧RepL B H xs vs
  ne:∀(i j:Nat) (xs ys:List D) (a:Addr),i≠j→ρ[i]?=some (Sl.own xs)→ρ[j]?=some (Sl.own ys)→σ[i]?=some (some (.ref a))→σ[j]?≠some (some (.ref a))
theorem Frm.ext {cl:Mo} {B B':Bx} {θ θ':Sto} {ρ:List Sl} {σ:St} {H H':Hp} (F:Frm cl B θ ρ σ H) (E:ExtE B B' H H') (G:Good cl B' θ' H'):Frm cl B' θ' ρ σ H' where
  good:=G
  len:=F.len
  val:=fun i d e=>let ⟨v,h1,h2⟩:=F.val i d e; ⟨v,h1,h2.ext E.toExtS⟩
  own:=fun i xs e=>by
    obtain ⟨a,vs,h1,h2,h3,h4⟩:=F.own i xs e
    exact ⟨a,vs,h1,by rw [E.osE]; exact h2,E.ko a _ h2 (fun i hi z=>(F.good.cF i hi).2 (by rw [z]; exact h2)) h3,h4.ext E.toExtS⟩
  ne:=F.ne
def clOf (mg:Str→Option Value) (x:Str):Addr:=match mg x with
  | some (.ref a)=>a
  | _=>0
abbrev _root_.L2.Cx.cl (X:Cx):Mo:=⟨clOf X.mg,X.K⟩
def XE (X:Cx) (σ:St) (B:Bx) (H:Hp) (c:Str) (θ':Sto):Prop:=False
theorem XE.trans {X:Cx} {σ:St} {B B':Bx} {H H':Hp} {c:Str} {θ':Sto} (h:XE X σ B H c θ') (E:ExtE B B' H H'):XE X σ B' H' c θ':=h
def wpR (X:Cx) (σ:St) {α β:Type} (Rel:Bx→Hp→α→β→Prop) (B:Bx) (H:Hp) (r:R α) (Q:β→Hp→Prop):Prop:=match r with
  | .ok a θ'=>∀B' H' b,ExtE B B' H H'→Good X.cl B' θ' H'→Rel B' H' a b→Q b H'
  | .ex c θ'=>XE X σ B H c θ'
  | .bad=>False
section
variable {X:Cx} {σ:St} {α β γ δ:Type} {Rel:Bx→Hp→α→β→Prop} {Rel':Bx→Hp→γ→δ→Prop} {B B':Bx} {H H':Hp}
theorem wpR.mono {r:R α} {Q Q':β→Hp→Prop} (h:wpR X σ Rel B H r Q) (hQ:∀b H',Q b H'→Q' b H'):wpR X σ Rel B H r Q':=by
  cases r with
  | ok a θ'=>exact fun B' H' b e g q=>hQ _ _ (h B' H' b e g q)
  | ex c θ'=>exact h
  | bad=>exact h
theorem wpR.trans {r:R α} {Q:β→Hp→Prop} (h:wpR X σ Rel B H r Q) (E:ExtE B B' H H'):wpR X σ Rel B' H' r Q:=by
  cases r with
  | ok a θ'=>exact fun B2 H2 b e g q=>h B2 H2 b (E.trans e) g q
  | ex c θ'=>exact XE.trans (c:=c) (θ':=θ') (σ:=σ) (X:=X) h E
  | bad=>exact h
theorem wpR.bind {r:R α} {k:α→Sto→R γ} {Q:δ→Hp→Prop} (h:wpR X σ Rel' B H (r.bind k) Q) :
    wpR X σ Rel B H r (fun b H1=>∃B1 θ1 a,ExtE B B1 H H1∧Good X.cl B1 θ1 H1∧Rel B1 H1 a b∧wpR X σ Rel' B1 H1 (k a θ1) Q):=by
  cases r with
  | ok a θ'=>exact fun B1 H1 b E g q=>⟨B1,θ',a,E,g,q,wpR.trans h E⟩
  | ex c θ'=>exact h
  | bad=>exact h
end
abbrev EM:=List Sl→Sto→R D
abbrev TMr:=List Sl→Sto→R Bool
abbrev AM:=List Sl→Sto→R (List D)
def EqB (_:Bx) (_:Hp) (a b:Bool):Prop:=a=b
def tM (X:Cx) (f:EM):TE:=fun σ H Q=>∃B θ ρ,Frm X.cl B θ ρ σ H∧wpR X σ RepV B H (f ρ θ) Q
def tMT (X:Cx) (f:TMr):TT:=fun σ H Q=>∃B θ ρ,Frm X.cl B θ ρ σ H∧wpR X σ EqB B H (f ρ θ) Q
def tMA (X:Cx) (f:AM):TA:=fun σ H Q=>∃B θ ρ,Frm X.cl B θ ρ σ H∧wpR X σ RepL B H (f ρ θ) Q
def ME (X:Cx) (e:Expr) (f:EM):Prop:=PE X e (tM X f)
def MT (X:Cx) (e:Expr) (f:TMr):Prop:=PT X e (tMT X f)
def MW (X:Cx) (e:Expr) (f:TMr):Prop:=PW X e (tMT X f)
def MA (X:Cx) (es:List Expr) (f:AM):Prop:=PA X es (tMA X f)
section
variable {X:Cx} {σ:St} {H:Hp} {γ δ:Type} {Rel':Bx→Hp→γ→δ→Prop}
theorem tM_mono {f:EM} {Q Q':VK} (h:tM X f σ H Q) (hQ:∀v H',Q v H'→Q' v H'):tM X f σ H Q':=let ⟨B,θ,ρ,F,w⟩:=h; ⟨B,θ,ρ,F,w.mono hQ⟩
theorem tMT_mono {f:TMr} {Q Q':Bool→Hp→Prop} (h:tMT X f σ H Q) (hQ:∀v H',Q v H'→Q' v H'):tMT X f σ H Q':=let ⟨B,θ,ρ,F,w⟩:=h; ⟨B,θ,ρ,F,w.mono hQ⟩
theorem tMA_mono {f:AM} {Q Q':List V→Hp→Prop} (h:tMA X f σ H Q) (hQ:∀v H',Q v H'→Q' v H'):tMA X f σ H Q':=let ⟨B,θ,ρ,F,w⟩:=h; ⟨B,θ,ρ,F,w.mono hQ⟩
variable {B:Bx} {θ:Sto} {ρ:List Sl}
theorem step {f:EM} {k:D→Sto→R γ} {Q:δ→Hp→Prop} (F:Frm X.cl B θ ρ σ H) (h:wpR X σ Rel' B H ((f ρ θ).bind k) Q) :
    tM X f σ H (fun v H1=>∃B1 θ1 d,ExtE B B1 H H1∧Frm X.cl B1 θ1 ρ σ H1∧RepV B1 H1 d v∧wpR X σ Rel' B1 H1 (k d θ1) Q):=
  ⟨B,θ,ρ,F,(wpR.bind (Rel:=RepV) h).mono fun v H1 ⟨B1,θ1,d,E,G,r,w⟩=>⟨B1,θ1,d,E,F.ext E G,r,w⟩⟩
theorem stepT {f:TMr} {k:Bool→Sto→R γ} {Q:δ→Hp→Prop} (F:Frm X.cl B θ ρ σ H) (h:wpR X σ Rel' B H ((f ρ θ).bind k) Q) :
    tMT X f σ H (fun c H1=>∃B1 θ1,ExtE B B1 H H1∧Frm X.cl B1 θ1 ρ σ H1∧wpR X σ Rel' B1 H1 (k c θ1) Q):=
  ⟨B,θ,ρ,F,(wpR.bind (Rel:=EqB) h).mono fun v H1 ⟨B1,θ1,d,E,G,r,w⟩=>by cases (show d=v from r); exact ⟨B1,θ1,E,F.ext E G,w⟩⟩
theorem stepA {f:AM} {k:List D→Sto→R γ} {Q:δ→Hp→Prop} (F:Frm X.cl B θ ρ σ H) (h:wpR X σ Rel' B H ((f ρ θ).bind k) Q) :
    tMA X f σ H (fun v H1=>∃B1 θ1 d,ExtE B B1 H H1∧Frm X.cl B1 θ1 ρ σ H1∧RepL B1 H1 d v∧wpR X σ Rel' B1 H1 (k d θ1) Q):=
  ⟨B,θ,ρ,F,(wpR.bind (Rel:=RepL) h).mono fun v H1 ⟨B1,θ1,d,E,G,r,w⟩=>⟨B1,θ1,d,E,F.ext E G,r,w⟩⟩
theorem wp_now {α β:Type} {Rel:Bx→Hp→α→β→Prop} {a:α} {b:β} {Q:β→Hp→Prop} (G:Good X.cl B θ H) (r:Rel B H a b) (h:wpR X σ Rel B H (.ok a θ) Q):Q b H:=h B H b (ExtE.refl B H) G r
end
theorem PE.imp {X:Cx} {e:Expr} {t t':TE} (h:PE X e t) (hi:∀σ H Q,t' σ H Q→t σ H Q):PE X e t':=fun pins s σ H Q I q=>h pins s σ H Q I (hi σ H Q q)
theorem PT.imp {X:Cx} {e:Expr} {t t':TT} (h:PT X e t) (hi:∀σ H Q,t' σ H Q→t σ H Q):PT X e t':=fun pins s σ H Q I q=>h pins s σ H Q I (hi σ H Q q)
theorem PW.imp {X:Cx} {e:Expr} {t t':TT} (h:PW X e t) (hi:∀σ H Q,t' σ H Q→t σ H Q):PW X e t':=fun wh pins s σ H Q I q=>h wh pins s σ H Q I (hi σ H Q q)
theorem PA.imp {X:Cx} {es:List Expr} {t t':TA} (h:PA X es t) (hi:∀σ H Q,t' σ H Q→t σ H Q):PA X es t':=fun pos pins s σ H Q I q=>h pos pins s σ H Q I (hi σ H Q q)
theorem OpR.imp {X:Cx} {f:Value→Value→Sem Value} {r r':R2} (h:OpR X f r) (hi:∀x y H Q,r' x y H Q→r x y H Q):OpR X f r':=fun pins s σ H x y v u Q I rx ry q=>h pins s σ H x y v u Q I rx ry (hi x y H Q q)
theorem IxR.imp {X:Cx} {r r':R2} (h:IxR X r) (hi:∀x y H Q,r' x y H Q→r x y H Q):IxR X r':=fun pins s σ H x y v u Q v1 s1 I rx ry q=>h pins s σ H x y v u Q v1 s1 I rx ry (hi _ _ _ _ q)
theorem CallR.imp {X:Cx} {f:Value} {r r':List V→Hp→VK→Prop} (h:CallR X f r) (hi:∀xs H Q,r' xs H Q→r xs H Q):CallR X f r':=fun pins s σ H xs us Q I r q=>h pins s σ H xs us Q I r (hi _ _ _ q)
end L2.MM
set_option Elab.async false
set_option linter.all false
set_option maxRecDepth 100000
set_option maxHeartbeats 4000000
namespace L2.MM
open PySem PySem.Spec PyProof.Rows
noncomputable section
variable {X:Cx}
def lstOf (θ:Sto):D→Option (List D)
  | .lst xs=>some xs
  | .ref l=>match θ[l]? with
    | some (.lst xs)=>some xs
    | _=>none
  | _=>none
def seqOf (θ:Sto):D→Option (List D)
  | .tup xs=>some xs
  | .scr ns=>some (ns.map D.int)
  | d=>lstOf θ d
theorem lstOf_at {cl:Mo} {B:Bx} {θ:Sto} {H:Hp} (G:Good cl B θ H) {d:D} {v:V} {xs:List D} (r:RepV B H d v) (h:lstOf θ d=some xs):∃a vs,v=.ref a∧H a=some (.lst vs)∧RepL B H xs vs:=by
  cases d with
  | lst ys=>
    obtain ⟨a,vs,e,h1,_,h2⟩:=r
    cases h
    exact ⟨a,vs,e,h1,h2⟩
  | ref l=>
    obtain ⟨hl,rfl⟩:=r
    simp only [lstOf] at h
    split at h
    · rename_i ys e
      cases h
      obtain ⟨vs,q1,q2⟩:=G.cel l _ e
      exact ⟨_,vs,rfl,q1,q2⟩
    · cases h
  | _=>cases h
theorem seqOf_at {cl:Mo} {B:Bx} {θ:Sto} {H:Hp} (G:Good cl B θ H) {d:D} {v:V} {xs:List D} (r:RepV B H d v) (h:seqOf θ d=some xs) :
    ∃a vs,v=.ref a∧(SqL cl.K H a vs∨SqT cl.K H a vs)∧RepL B H xs vs:=by
  cases d with
  | tup ys=>
    obtain ⟨a,vs,e,h1,_,h2⟩:=r
    cases h
    exact ⟨a,vs,e,.inr (SqT.of h1),h2⟩
  | scr ns=>
    obtain ⟨a,e,h1⟩:=r
    cases h
    refine ⟨a,ns.map V.int,e,.inl ?_,RepL.map (f:=D.int) (g:=V.int) (fun _=>rfl) ns⟩
    rcases h1 with ⟨o,h1,_⟩ | h1
    · exact .inl (.inr ⟨o,h1⟩)
    · exact .inr (G.kc a ns h1)
  | lst ys=>
    obtain ⟨a,vs,e,h1,h2⟩:=lstOf_at G r (show lstOf θ (.lst ys)=some xs from h)
    exact ⟨a,vs,e,.inl (SqL.of h1),h2⟩
  | ref l=>
    obtain ⟨a,vs,e,h1,h2⟩:=lstOf_at G r (show lstOf θ (.ref l)=some xs from h)
    exact ⟨a,vs,e,.inl (SqL.of h1),h2⟩
  | _=>cases h
abbrev BIG:Nat:=100000
theorem big_size {n:Nat} (h:n≤BIG):n≤sizeLine:=Nat.le_trans h (by rw [sizeLine_eq]; decide)
def mVar (i:Nat):EM:=fun ρ θ=>match ρ[i]? with
  | some (Sl.val d)=>.ok d θ
  | _=>.bad
def mC (d:D):EM:=fun _ θ=>.ok d θ
section
variable {a b c e:Expr} {pos:Pos} {fa fb fc:EM} {ft fu:TMr}
theorem me_var (i:Nat) {x:Str} {pos:Pos} (hN:X.N[i]?=some x:=by rfl) (hv:Vis X.env.scope x:=by first | exact Or.inl rfl | exact Or.inr (Or.inl rfl) | exact Or.inr (Or.inr rfl))
    (hd:(x == ("__debug__":Str))=false:=by decide) (hcd:(x == ("__classdict__":Str))=false:=by decide):ME X (.Name x pos) (mVar i):=by
  refine PE.imp (pe_var hN hv hd hcd) fun σ H Q h=>?_
  obtain ⟨B,θ,ρ,F,w⟩:=h
  unfold mVar at w
  split at w
  · rename_i d e
    obtain ⟨v,h1,h2⟩:=F.val i d e
    exact ⟨v,h1,wp_now F.good h2 w⟩
  · exact w.elim
theorem me_c {d:D} {v:V} (h:PE X e (tC v)) (r:∀B H,RepV B H d v):ME X e (mC d):=by
  refine PE.imp h fun σ H Q h=>?_
  obtain ⟨B,θ,ρ,F,w⟩:=h
  exact wp_now F.good (r B H) w
theorem me_int {i j pos}:ME X (.Constant (.int i) j pos) (mC (.int i)):=me_c pe_int fun _ _=>rfl
theorem me_bl {i j pos}:ME X (.Constant (.bool i) j pos) (mC (.bl i)):=me_c pe_bl fun _ _=>rfl
theorem me_non {j pos}:ME X (.Constant .none j pos) (mC .non):=me_c pe_non fun _ _=>rfl
theorem me_str {i j pos}:ME X (.Constant (.str i) j pos) (mC (.str i)):=me_c pe_str fun _ _=>rfl
theorem me_gint {x:Str} {i:Int} (h:∃t,X.mg x=some (.int i t)) (hg:Gl X x:=by rfl) (hd:(x == ("__debug__":Str))=false:=by decide):ME X (.Name x pos) (mC (.int i)):=me_c (pe_gint h hg hd) fun _ _=>rfl
theorem me_gstr {x:Str} {y:Str} (h:∃t,X.mg x=some (.str y t)) (hg:Gl X x:=by rfl) (hd:(x == ("__debug__":Str))=false:=by decide):ME X (.Name x pos) (mC (.str y)):=by
  obtain ⟨t,h⟩:=h
  exact me_c (pe_glob hg h (v:=.str y) ⟨t,rfl⟩ hd) fun _ _=>rfl
abbrev OM:=D→D→Sto→R D
def mOp (g:OM) (fa fb:EM):EM:=fun ρ θ=>(fa ρ θ).bind fun x θ=>(fb ρ θ).bind fun y θ=>g x y θ
def rM (X:Cx) (g:OM):R2:=fun x y H Q=>∃σ B θ d e,Good X.cl B θ H∧RepV B H d x∧RepV B H e y∧wpR X σ RepV B H (g d e θ) Q
theorem tM_op {g:OM} (σ:St) (H:Hp) (Q:VK) (h:tM X (mOp g fa fb) σ H Q):tOp (rM X g) (tM X fa) (tM X fb) σ H Q:=by
  obtain ⟨B,θ,ρ,F,w⟩:=h
  refine tM_mono (step F w) ?_
  rintro x' H1 ⟨B1,θ1,x,E1,F1,rx,w1⟩
  refine tM_mono (step F1 w1) ?_
  rintro y' H2 ⟨B2,θ2,y,E2,F2,ry,w2⟩
  exact ⟨σ,B2,θ2,x,y,F2.good,rx.ext E2.toExtS,ry,w2⟩
theorem me_op {op:Operator} {g:OM} (ho:OpR X (binaryOp op) (rM X g)) (ha:ME X a fa) (hb:ME X b fb):ME X (.BinOp a op b pos) (mOp g fa fb):=PE.imp (pe_op ho ha hb) tM_op
theorem me_cmp {op:CmpOp} {g:OM} (ho:OpR X (compareOp op) (rM X g)) (ha:ME X a fa) (hb:ME X b fb) (hm:behindInMarks op b=false:=by first | exact nomark _ | rfl):ME X (.Compare a [op] [b] pos) (mOp g fa fb):=PE.imp (pe_cmpR ho ha hb hm) tM_op
theorem me_ix {g:OM} (hr:IxR X (rM X g)) (ha:ME X a fa) (hb:ME X b fb) (hs:PlainIx b:=by intro _ _; rfl):ME X (.Subscript a b pos) (mOp g fa fb):=PE.imp (pe_ix hr ha hb hs) tM_op
def mTest (f:EM):TMr:=fun ρ θ=>(f ρ θ).bind fun x θ=>match x with
  | .bl k=>.ok k θ
  | _=>.bad
theorem tMT_test {f:EM} (σ:St) (H:Hp) (Q:Bool→Hp→Prop) (h:tMT X (mTest f) σ H Q):tM X f σ H (fun v H1=>∃k,v=.bl k∧Q k H1):=by
  obtain ⟨B,θ,ρ,F,w⟩:=h
  refine tM_mono (step F w) ?_
  rintro v H1 ⟨B1,θ1,x,E1,F1,rx,w1⟩
  cases x with
  | bl k=>exact ⟨k,rx,wp_now (Rel:=EqB) F1.good rfl w1⟩
  | _=>exact w1.elim
theorem mt_cmp {op:CmpOp} {g:OM} (ho:OpR X (compareOp op) (rM X g)) (ha:ME X a fa) (hb:ME X b fb) (hm:behindInMarks op b=false:=by first | exact nomark _ | rfl):MT X (.Compare a [op] [b] pos) (mTest (mOp g fa fb)):=by
  refine PT.imp (pt_cmpR ho ha hb hm) fun σ H Q h=>?_
  have q:=tMT_test σ H Q h
  exact tM_op σ H _ q
def mChain (g g':OM) (fa fb fc:EM):EM:=fun ρ θ=>(fa ρ θ).bind fun x θ=>(fb ρ θ).bind fun y θ=>(g x y θ).bind fun z θ=>match z with
  | .bl true=>(fc ρ θ).bind fun w θ=>g' y w θ
  | .bl false=>.ok (.bl false) θ
  | _=>.bad
theorem tM_chain {g g':OM} (σ:St) (H:Hp) (Q:VK) (h:tM X (mChain g g' fa fb fc) σ H Q):tChain (rM X g) (rM X g') (tM X fa) (tM X fb) (tM X fc) σ H Q:=by
  obtain ⟨B,θ,ρ,F,w⟩:=h
  refine tM_mono (step F w) ?_
  rintro x' H1 ⟨B1,θ1,x,E1,F1,rx,w1⟩
  refine tM_mono (step F1 w1) ?_
  rintro y' H2 ⟨B2,θ2,y,E2,F2,ry,w2⟩
  refine ⟨σ,B2,θ2,x,y,F2.good,rx.ext E2.toExtS,ry,(wpR.bind (Rel:=RepV) w2).mono ?_⟩
  rintro z' H3 ⟨B3,θ3,z,E3,G3,rz,w3⟩
  have F3:=F2.ext E3 G3
  cases z with
  | bl k=>
    refine ⟨k,rz,?_⟩
    cases k with
    | true=>
      rw [if_pos rfl]
      refine tM_mono (step F3 w3) ?_
      rintro w' H4 ⟨B4,θ4,u,E4,F4,ru,w4⟩
      exact ⟨σ,B4,θ4,y,u,F4.good,ry.ext (E3.trans E4).toExtS,ru,w4⟩
    | false=>
      rw [if_neg Bool.false_ne_true]
      exact wp_now G3 (show RepV B3 H3 (.bl false) (.bl false) from rfl) w3
  | _=>exact w3.elim
theorem me_chain {op op':CmpOp} {g g':OM} (ho:OpR X (compareOp op) (rM X g)) (ho':OpR X (compareOp op') (rM X g')) (ha:ME X a fa) (hb:ME X b fb) (hc:ME X c fc)
    (hm:lastMarks [op,op'] [b,c]=false:=by with_unfolding_all rfl):ME X (.Compare a [op,op'] [b,c] pos) (mChain g g' fa fb fc):=PE.imp (pe_chain ho ho' ha hb hc hm) tM_chain
def truD (θ:Sto):D→Option Bool
  | .non=>some false
  | .bl b=>some b
  | .int i=>some (i != 0)
  | .str x=>if x.length≤BIG then some ((x.length:Int) != 0) else none
  | d=>(seqOf θ d).map fun xs=>!xs.isEmpty
def mTru (f:EM):TMr:=fun ρ θ=>(f ρ θ).bind fun x θ=>match truD θ x with
  | some k=>.ok k θ
  | none=>.bad
theorem RepL.emp {B:Bx} {H:Hp} {xs:List D} {vs:List V} (r:RepL B H xs vs):vs.isEmpty=xs.isEmpty:=by
  cases xs with
  | nil=>cases (show vs=[] from r); rfl
  | cons _ _=>obtain ⟨v,q,rfl,_,_⟩:=r; rfl
theorem truD_ok {cl:Mo} {B:Bx} {θ:Sto} {H:Hp} (G:Good cl B θ H) {d:D} {v:V} {k:Bool} (r:RepV B H d v) (h:truD θ d=some k):TruV cl.K v H k:=by
  have sq:∀xs,seqOf θ d=some xs→((seqOf θ d).map fun xs=>!xs.isEmpty)=some k→TruV cl.K v H k:=fun xs e q=>by
    rw [e] at q
    cases q
    obtain ⟨a,vs,rfl,h1,h2⟩:=seqOf_at G r e
    show TruV cl.K (V.ref a) H (!xs.isEmpty)
    rw [←h2.emp]
    rcases h1 with h1 | h1
    · exact .inl ⟨vs,h1,rfl⟩
    · exact .inr (.inl ⟨vs,h1,rfl⟩)
  cases d with
  | non=>cases (show v=.non from r); cases h; rfl
  | bl b=>cases (show v=.bl b from r); cases h; rfl
  | int i=>cases (show v=.int i from r); cases h; rfl
  | str x=>
    cases (show v=.str x from r)
    simp only [truD] at h
    split at h
    · rename_i hz; cases h; exact ⟨big_size hz,rfl⟩
    · cases h
  | ty n=>simp [truD,seqOf,lstOf] at h
  | scr ns=>exact sq _ rfl h
  | tup xs=>exact sq _ rfl h
  | lst xs=>exact sq _ rfl h
  | ref l=>
    cases e:seqOf θ (.ref l) with
    | none=>simp only [truD,e] at h; cases h
    | some xs=>exact sq xs e h
theorem mt_truth (ha:ME X a fa) (he:∀whole,isTrue a X.env whole=(do let v ←whole; standAt a.pos; holding [v] (truthy v)):=by intro _; rfl):MT X a (mTru fa):=by
  refine PT.imp (pt_truth ha he) fun σ H Q h=>?_
  obtain ⟨B,θ,ρ,F,w⟩:=h
  refine tM_mono (step F w) ?_
  rintro v H1 ⟨B1,θ1,x,E1,F1,rx,w1⟩
  cases e:truD θ1 x with
  | none=>rw [e] at w1; exact w1.elim
  | some k=>rw [e] at w1; exact ⟨k,truD_ok F1.good rx e,wp_now (Rel:=EqB) F1.good rfl w1⟩
def mAnd (f g:TMr):TMr:=fun ρ θ=>(f ρ θ).bind fun k θ=>if k=true then g ρ θ else .ok false θ
def mOr (f g:TMr):TMr:=fun ρ θ=>(f ρ θ).bind fun k θ=>if k=true then .ok true θ else g ρ θ
def mNot (f:TMr):TMr:=fun ρ θ=>(f ρ θ).bind fun k θ=>.ok (!k) θ
theorem mw_one_and (ha:MT X a ft):MW X (.BoolOp .And [a] pos) ft:=pw_and1 ha
theorem mw_one_or (ha:MT X a ft):MW X (.BoolOp .Or [a] pos) ft:=pw_or1 ha
theorem mw_and {rest:List Expr} (ha:MT X a ft) (hb:MW X (.BoolOp .And (b::rest) pos) fu):MW X (.BoolOp .And (a::b::rest) pos) (mAnd ft fu):=by
  refine PW.imp (pw_and ha hb) fun σ H Q h=>?_
  obtain ⟨B,θ,ρ,F,w⟩:=h
  refine tMT_mono (stepT F w) ?_
  rintro k H1 ⟨B1,θ1,E1,F1,w1⟩
  cases k with
  | true=>rw [if_pos rfl] at w1 ⊢; exact ⟨B1,θ1,ρ,F1,w1⟩
  | false=>rw [if_neg Bool.false_ne_true] at w1 ⊢; exact wp_now (Rel:=EqB) F1.good rfl w1
theorem mw_or {rest:List Expr} (ha:MT X a ft) (hb:MW X (.BoolOp .Or (b::rest) pos) fu):MW X (.BoolOp .Or (a::b::rest) pos) (mOr ft fu):=by
  refine PW.imp (pw_or ha hb) fun σ H Q h=>?_
  obtain ⟨B,θ,ρ,F,w⟩:=h
  refine tMT_mono (stepT F w) ?_
  rintro k H1 ⟨B1,θ1,E1,F1,w1⟩
  cases k with
  | true=>rw [if_pos rfl] at w1 ⊢; exact wp_now (Rel:=EqB) F1.good rfl w1
  | false=>rw [if_neg Bool.false_ne_true] at w1 ⊢; exact ⟨B1,θ1,ρ,F1,w1⟩
theorem MW.mt {e:Expr} {f:TMr} (h:MW X e f):MT X e f:=PW.pt h
theorem mt_not (ha:MT X a ft):MT X (.UnaryOp .Not a pos) (mNot ft):=by
  refine PT.imp (pt_not ha) fun σ H Q h=>?_
  obtain ⟨B,θ,ρ,F,w⟩:=h
  refine tMT_mono (stepT F w) ?_
  rintro k H1 ⟨B1,θ1,E1,F1,w1⟩
  exact wp_now (Rel:=EqB) F1.good rfl w1
def mAndV (f g:EM):EM:=fun ρ θ=>(f ρ θ).bind fun x θ=>match x with
  | .bl true=>g ρ θ
  | .bl false=>.ok (.bl false) θ
  | _=>.bad
def mOrV (f g:EM):EM:=fun ρ θ=>(f ρ θ).bind fun x θ=>match x with
  | .bl true=>.ok (.bl true) θ
  | .bl false=>g ρ θ
  | _=>.bad
def mNotV (f:EM):EM:=fun ρ θ=>(f ρ θ).bind fun x θ=>match truD θ x with
  | some k=>.ok (.bl (!k)) θ
  | none=>.bad
theorem me_one {op} (h:ME X a fa):ME X (.BoolOp op [a] pos) fa:=pe_one h
theorem me_and {rest:List Expr} (ha:ME X a fa) (hb:ME X (.BoolOp .And (b::rest) pos) fb):ME X (.BoolOp .And (a::b::rest) pos) (mAndV fa fb):=by
  refine PE.imp (pe_and ha hb) fun σ H Q h=>?_
  obtain ⟨B,θ,ρ,F,w⟩:=h
  refine tM_mono (step F w) ?_
  rintro v H1 ⟨B1,θ1,x,E1,F1,rx,w1⟩
  cases x with
  | bl k=>
    refine ⟨k,rx,?_⟩
    cases k with
    | true=>rw [if_pos rfl]; exact ⟨B1,θ1,ρ,F1,w1⟩
    | false=>rw [if_neg Bool.false_ne_true]; exact wp_now F1.good (show RepV B1 H1 (.bl false) (.bl false) from rfl) w1
  | _=>exact w1.elim
theorem me_or {rest:List Expr} (ha:ME X a fa) (hb:ME X (.BoolOp .Or (b::rest) pos) fb):ME X (.BoolOp .Or (a::b::rest) pos) (mOrV fa fb):=by
  refine PE.imp (pe_or ha hb) fun σ H Q h=>?_
  obtain ⟨B,θ,ρ,F,w⟩:=h
  refine tM_mono (step F w) ?_
  rintro v H1 ⟨B1,θ1,x,E1,F1,rx,w1⟩
  cases x with
  | bl k=>
    refine ⟨k,rx,?_⟩
    cases k with
    | true=>rw [if_pos rfl]; exact wp_now F1.good (show RepV B1 H1 (.bl true) (.bl true) from rfl) w1
    | false=>rw [if_neg Bool.false_ne_true]; exact ⟨B1,θ1,ρ,F1,w1⟩
  | _=>exact w1.elim
theorem me_not (ha:ME X a fa):ME X (.UnaryOp .Not a pos) (mNotV fa):=by
  intro pins s σ H Q I h
  obtain ⟨B,θ,ρ,F,w⟩:=h
  refine UnaryOp_ (thn (ha pins s σ H _ I (step F w)) fun v s1 ⟨x,H1,I1,r1,q1⟩=>?_)
  obtain ⟨B1,θ1,d,E1,F1,rx,w1⟩:=q1
  cases e:truD θ1 d with
  | none=>rw [e] at w1; exact w1.elim
  | some k=>
    rw [e] at w1
    refine not_of (thn (tru_ok pins s1 σ H1 x v (fun k' H'=>Q (.bl (!k')) H') I1 r1 ⟨k,truD_ok F1.good rx e,wp_now F1.good (show RepV B1 H1 (.bl (!k)) (.bl (!k)) from rfl) w1⟩) fun b s2 ⟨H2,I2,q2⟩=>?_)
    exact ⟨.bl (!b),H2,I2,rfl,q2⟩
def mIte (t:TMr) (f g:EM):EM:=fun ρ θ=>(t ρ θ).bind fun k θ=>if k=true then f ρ θ else g ρ θ
theorem me_ite {c:Expr} (hc:MT X c ft) (ha:ME X a fa) (hb:ME X b fb):ME X (.IfExp c a b pos) (mIte ft fa fb):=by
  refine PE.imp (pe_ifExp hc ha hb) fun σ H Q h=>?_
  obtain ⟨B,θ,ρ,F,w⟩:=h
  refine tMT_mono (stepT F w) ?_
  rintro k H1 ⟨B1,θ1,E1,F1,w1⟩
  cases k with
  | true=>rw [if_pos rfl] at w1 ⊢; exact ⟨B1,θ1,ρ,F1,w1⟩
  | false=>rw [if_neg Bool.false_ne_true] at w1 ⊢; exact ⟨B1,θ1,ρ,F1,w1⟩
def mNil:AM:=fun _ θ=>.ok [] θ
def mCons (f:EM) (g:AM):AM:=fun ρ θ=>(f ρ θ).bind fun x θ=>(g ρ θ).bind fun xs θ=>.ok (x::xs) θ
theorem ma_nil:MA X [] mNil:=PA.imp pa_nil fun σ H Q h=>by
  obtain ⟨B,θ,ρ,F,w⟩:=h
  exact wp_now (Rel:=RepL) F.good (show RepL B H [] [] from rfl) w
theorem ma_cons {es:List Expr} {fs:AM} (ha:ME X e fa) (hr:MA X es fs) (hs:starEach (e::es) X.env=(false,eval e X.env)::starEach es X.env:=by rfl):MA X (e::es) (mCons fa fs):=by
  refine PA.imp (pa_cons ha hr hs) fun σ H Q h=>?_
  obtain ⟨B,θ,ρ,F,w⟩:=h
  refine tM_mono (step F w) ?_
  rintro x' H1 ⟨B1,θ1,x,E1,F1,rx,w1⟩
  refine tMA_mono (stepA F1 w1) ?_
  rintro xs' H2 ⟨B2,θ2,xs,E2,F2,rxs,w2⟩
  exact wp_now (Rel:=RepL) F2.good (show RepL B2 H2 (x::xs) (x'::xs') from ⟨x',xs',rfl,rx.ext E2.toExtS,rxs⟩) w2
def mTup (f:AM):EM:=fun ρ θ=>(f ρ θ).bind fun xs θ=>if xs.length≤BIG then .ok (.tup xs) θ else .bad
def mLst (f:AM):EM:=fun ρ θ=>(f ρ θ).bind fun xs θ=>if xs.length≤BIG then .ok (.lst xs) θ else .bad
theorem wp_tup {σ:St} {B:Bx} {θ:Sto} {H:Hp} {xs:List D} {vs:List V} {Q:VK} (G:Good X.cl B θ H) (r:RepL B H xs vs) (w:wpR X σ RepV B H (.ok (.tup xs) θ) Q):∀p,H p=none→Q (.ref p) (upd H p (.tup vs)):=
  fun p hp=>w B _ _ (ext_new G hp _) (good_new G hp _) (rep_tup G hp r)
theorem wp_lst {σ:St} {B:Bx} {θ:Sto} {H:Hp} {xs:List D} {vs:List V} {Q:VK} (G:Good X.cl B θ H) (r:RepL B H xs vs) (w:wpR X σ RepV B H (.ok (.lst xs) θ) Q):∀p,H p=none→Q (.ref p) (upd H p (.lst vs)):=
  fun p hp=>w B _ _ (ext_new G hp _) (good_new G hp _) (rep_lst G hp r)
theorem me_tup {es:List Expr} {fs:AM} {x1} (h:MA X es fs):ME X (.Tuple es x1 pos) (mTup fs):=by
  refine PE.imp (pe_tup h) fun σ H Q h=>?_
  obtain ⟨B,θ,ρ,F,w⟩:=h
  refine tMA_mono (stepA F w) ?_
  rintro xs' H2 ⟨B2,θ2,xs,E2,F2,rxs,w2⟩
  split at w2
  · rename_i hz
    exact ⟨by rw [rxs.len]; exact big_size hz,wp_tup F2.good rxs w2⟩
  · exact w2.elim
theorem me_lst {es:List Expr} {fs:AM} (h:MA X es fs):ME X (.List es pos) (mLst fs):=by
  refine PE.imp (pe_lst h) fun σ H Q h=>?_
  obtain ⟨B,θ,ρ,F,w⟩:=h
  refine tMA_mono (stepA F w) ?_
  rintro xs' H2 ⟨B2,θ2,xs,E2,F2,rxs,w2⟩
  split at w2
  · rename_i hz
    exact ⟨by rw [rxs.len]; exact big_size hz,wp_lst F2.good rxs w2⟩
  · exact w2.elim
abbrev GM:=List D→Sto→R D
def mCB (g:GM) (f:AM):EM:=fun ρ θ=>(f ρ θ).bind fun xs θ=>g xs θ
def rC (X:Cx) (g:GM):List V→Hp→VK→Prop:=fun xs H Q=>∃σ B θ ds,Good X.cl B θ H∧RepL B H ds xs∧wpR X σ RepV B H (g ds θ) Q
theorem tM_CB {g:GM} {fs:AM} (σ:St) (H:Hp) (Q:VK) (h:tM X (mCB g fs) σ H Q):tCB (rC X g) (tMA X fs) σ H Q:=by
  obtain ⟨B,θ,ρ,F,w⟩:=h
  refine tMA_mono (stepA F w) ?_
  rintro xs' H2 ⟨B2,θ2,xs,E2,F2,rxs,w2⟩
  exact ⟨σ,B2,θ2,xs,F2.good,rxs,w2⟩
theorem me_callB {x:Str} {id:String} {p:Pos} {es:List Expr} {fs:AM} {g:GM} (hc:CallR X (.builtin id) (rC X g)) (hm:X.mg x=none) (hv:bootBuiltins x=some (.builtin id)) (ha:MA X (e::es) fs) (hg:Gl X x:=by rfl) (hn:x≠"__name__":=by decide) (hdb:(x == ("__debug__":Str))=false:=by decide)
    (he:starEach (e::es) X.env=(false,eval e X.env)::starEach es X.env:=by rfl) (hpl:(backTo pos (starEach es X.env)).any (·.1)=false:=by rfl):ME X (.Call (.Name x p) (e::es) [] pos) (mCB g fs):=
  PE.imp (pe_callB hc hg hm hv ha hn hdb he hpl) tM_CB
theorem me_callTy {x:Str} {T:String} {p:Pos} {es:List Expr} {fs:AM} {g:GM} (hc:CallR X (.type T) (rC X g)) (hm:X.mg x=none) (hv:bootBuiltins x=some (.type T)) (ha:MA X (e::es) fs) (hg:Gl X x:=by rfl) (hn:x≠"__name__":=by decide) (hdb:(x == ("__debug__":Str))=false:=by decide)
    (he:starEach (e::es) X.env=(false,eval e X.env)::starEach es X.env:=by rfl) (hpl:(backTo pos (starEach es X.env)).any (·.1)=false:=by rfl):ME X (.Call (.Name x p) (e::es) [] pos) (mCB g fs):=
  PE.imp (pe_callTy hc hg hm hv ha hn hdb he hpl) tM_CB
end
end
end L2.MM
set_option Elab.async false
set_option linter.all false
set_option maxRecDepth 100000
set_option maxHeartbeats 4000000
namespace L2.MM
open PySem PySem.Spec PyProof.Rows PySem.SeqAt
noncomputable section
variable {X:Cx}
section
open Classical in
def opI (C:Int→Int→Prop) (g:Int→Int→D):OM:=fun x y θ=>match x,y with
  | .int i,.int j=>if C i j then .ok (g i j) θ else .bad
  | _,_=>.bad
open Classical in
@[simp] theorem opI_int (C:Int→Int→Prop) (g:Int→Int→D) (i j:Int) (θ:Sto):opI C g (.int i) (.int j) θ=if C i j then .ok (g i j) θ else .bad:=nr rfl
open Classical in
theorem op_int {f:Value→Value→Sem Value} {C:Int→Int→Prop} {g:Int→Int→D} {gV:Int→Int→V} (h:OpR X f (rI C gV)) (r:∀B H i j,RepV B H (g i j) (gV i j)):OpR X f (rM X (opI C g)):=by
  refine OpR.imp h fun x y H Q q=>?_
  obtain ⟨σ,B,θ,d,e,G,rd,re,w⟩:=q
  unfold opI at w
  split at w
  · rename_i i j
    split at w
    · rename_i hc
      exact ⟨i,j,rd,re,hc,wp_now G (r B H i j) w⟩
    · exact w.elim
  · exact w.elim
theorem rI_of {f:Value→Value→Sem Value} {g:Int→Int→V} (h:OpR X f (rI0 g)):OpR X f (rI (fun _ _=>True) g):=OpR.imp h fun x y H Q ⟨i,j,a,b,_,q⟩=>⟨i,j,a,b,q⟩
abbrev subM:OM:=opI (fun _ _=>True) fun i j=>.int (i-j)
abbrev divM:OM:=opI (fun _ j=>0<j∧j<18446744073709551616) fun i j=>.int (i/j)
abbrev modM:OM:=opI (fun _ j=>0<j) fun i j=>.int (i % j)
abbrev andM:OM:=opI (fun _ _=>True) fun i j=>.int (Builtin.bitAnd i j)
abbrev ltM:OM:=opI (fun _ _=>True) fun i j=>.bl (decide (i<j))
abbrev leM:OM:=opI (fun _ _=>True) fun i j=>.bl (decide (i≤j))
abbrev gtM:OM:=opI (fun _ _=>True) fun i j=>.bl (decide (j<i))
abbrev geM:OM:=opI (fun _ _=>True) fun i j=>.bl (decide (j≤i))
theorem o_sub:OpR X (binaryOp .Sub) (rM X subM):=op_int (rI_of op_sub) fun _ _ _ _=>rfl
theorem o_div:OpR X (binaryOp .FloorDiv) (rM X divM):=op_int (OpR.imp op_fdivC fun x y H Q ⟨i,j,a,b,c,q⟩=>⟨i,j,a,b,⟨c.1,by
  have h:j.natAbs<2 ^ 64:=by have:=c.1; have:=c.2; omega
  have h0:j.natAbs≠0:=by have:=c.1; omega
  have:=(Nat.log2_lt h0).mpr h
  omega⟩,q⟩) fun _ _ _ _=>rfl
theorem o_mod:OpR X (binaryOp .Mod) (rM X modM):=op_int op_mod fun _ _ _ _=>rfl
theorem o_and:OpR X (binaryOp .BitAnd) (rM X andM):=op_int (rI_of op_and) fun _ _ _ _=>rfl
theorem o_lt:OpR X (compareOp .Lt) (rM X ltM):=op_int (rI_of op_lt) fun _ _ i j=>by show _=V.bl _; congr
theorem o_le:OpR X (compareOp .LtE) (rM X leM):=op_int (rI_of op_le) fun _ _ i j=>by show _=V.bl _; congr
theorem o_gt:OpR X (compareOp .Gt) (rM X gtM):=op_int (rI_of op_gt) fun _ _ i j=>by show _=V.bl _; congr
theorem o_ge:OpR X (compareOp .GtE) (rM X geM):=op_int (rI_of op_ge) fun _ _ i j=>by show _=V.bl _; congr
def addM:OM:=fun x y θ=>match x,y with
  | .int i,.int j=>.ok (.int (i+j)) θ
  | .str i,.str j=>if i.length+j.length≤BIG then .ok (.str (i++j)) θ else .bad
  | .tup xs,.tup ys=>if xs.isEmpty=false∧xs.length+ys.length≤BIG then .ok (.tup (xs++ys)) θ else .bad
  | x,y=>match lstOf θ x,lstOf θ y with
    | some xs,some ys=>if xs.length+ys.length≤BIG then .ok (.lst (xs++ys)) θ else .bad
    | _,_=>.bad
@[simp] theorem addM_int (i j:Int) (θ:Sto):addM (.int i) (.int j) θ=.ok (.int (i+j)) θ:=nr rfl
@[simp] theorem addM_lst (xs ys:List D) (θ:Sto):addM (.lst xs) (.lst ys) θ=if xs.length+ys.length≤BIG then .ok (.lst (xs++ys)) θ else .bad:=nr rfl
@[simp] theorem addM_tup (xs ys:List D) (θ:Sto):addM (.tup xs) (.tup ys) θ=if xs.isEmpty=false∧xs.length+ys.length≤BIG then .ok (.tup (xs++ys)) θ else .bad:=nr rfl
theorem o_add:OpR X (binaryOp .Add) (rM X addM):=by
  refine OpR.imp (op_add.or (op_add_str.or (op_catT.or op_cat))) fun x y H Q q=>?_
  obtain ⟨σ,B,θ,d,e,G,rd,re,w⟩:=q
  unfold addM at w
  split at w
  · exact .inl ⟨_,_,rd,re,wp_now G (show RepV B H (.int _) (.int _) from rfl) w⟩
  · split at w
    · rename_i hz
      exact .inr (.inl ⟨_,_,rd,re,big_size hz,wp_now G (show RepV B H (.str _) (.str _) from rfl) w⟩)
    · exact w.elim
  · split at w
    · rename_i xs ys hz
      obtain ⟨a,vs,rfl,h1,k1,l1⟩:=rd
      obtain ⟨b,us,rfl,h2,k2,l2⟩:=re
      refine .inr (.inr (.inl ⟨a,b,vs,us,rfl,rfl,SqT.of h1,SqT.of h2,?_,?_,fun z=>?_,fun _=>wp_tup G (l1.app l2) w⟩))
      · intro z
        have:=l1.emp
        rw [z,hz.1] at this
        simp at this
      · rw [l1.len,l2.len]; exact big_size hz.2
      · have e0:ys=[]:=by
          have:=l2.emp
          rw [z] at this
          cases ys with
          | nil=>rfl
          | cons _ _=>simp at this
        subst e0
        rw [List.append_nil] at w
        exact wp_now G (show RepV B H (.tup xs) (.ref a) from ⟨a,vs,rfl,h1,k1,l1⟩) w
    · exact w.elim
  · split at w
    · rename_i xs ys e1 e2
      split at w
      · rename_i hz
        obtain ⟨a,vs,rfl,h1,l1⟩:=lstOf_at G rd e1
        obtain ⟨b,us,rfl,h2,l2⟩:=lstOf_at G re e2
        exact .inr (.inr (.inr ⟨a,b,vs,us,rfl,rfl,h1,h2,by rw [l1.len,l2.len]; exact big_size hz,wp_lst G (l1.app l2) w⟩))
      · exact w.elim
    · exact w.elim
def MulB (i j:Int):Prop:=(-18446744073709551616<i∧i<18446744073709551616)∨(-18446744073709551616<j∧j<18446744073709551616)
instance {i j:Int}:Decidable (MulB i j):=by unfold MulB; infer_instance
def mulM:OM:=fun x y θ=>match x,y with
  | .int i,.int j=>if MulB i j then .ok (.int (i*j)) θ else .bad
  | .tup xs,.int k=>if xs.isEmpty=false∧0≤k∧k<1000∧(xs.length:Int)*k≤1000 then .ok (.tup (List.replicate k.toNat xs).flatten) θ else .bad
  | x,.int k=>match lstOf θ x with
    | some xs=>if -1000000≤k∧k≤1000000∧xs.length*k.toNat≤BIG then .ok (.lst (List.replicate k.toNat xs).flatten) θ else .bad
    | _=>.bad
  | _,_=>.bad
@[simp] theorem mulM_int (i j:Int) (θ:Sto):mulM (.int i) (.int j) θ=if MulB i j then .ok (.int (i*j)) θ else .bad:=nr rfl
theorem RepL.rep {B:Bx} {H:Hp} {xs:List D} {vs:List V} (r:RepL B H xs vs):∀k:Nat,RepL B H (List.replicate k xs).flatten (List.replicate k vs).flatten
  | 0=>rfl
  | k+1=>by
    rw [List.replicate_succ,List.replicate_succ,List.flatten_cons,List.flatten_cons]
    exact r.app (RepL.rep r k)
theorem o_mul:OpR X (binaryOp .Mult) (rM X mulM):=by
  refine OpR.imp (op_mul.or (op_repT.or op_rep)) fun x y H Q q=>?_
  obtain ⟨σ,B,θ,d,e,G,rd,re,w⟩:=q
  unfold mulM at w
  split at w
  · split at w
    · rename_i hc
      exact .inl ⟨_,_,rd,re,hc.imp (fun h=>⟨by have:=h.1; omega,by have:=h.2; omega⟩) (fun h=>⟨by have:=h.1; omega,by have:=h.2; omega⟩),wp_now G (show RepV B H (.int _) (.int _) from rfl) w⟩
    · exact w.elim
  · split at w
    · rename_i xs k hz
      obtain ⟨a,vs,rfl,h1,k1,l1⟩:=rd
      obtain ⟨z1,z2,z3,z4⟩:=hz
      refine .inr (.inl ⟨a,k,vs,rfl,re,SqT.of h1,?_,z2,z3,by rw [l1.len]; exact z4,fun z=>?_,fun _=>wp_tup G (l1.rep _) w⟩)
      · intro z
        have:=l1.emp
        rw [z,z1] at this
        simp at this
      · subst z
        have e0:(List.replicate (1:Int).toNat xs).flatten=xs:=by simp
        rw [e0] at w
        exact wp_now G (show RepV B H (.tup xs) (.ref a) from ⟨a,vs,rfl,h1,k1,l1⟩) w
    · exact w.elim
  · split at w
    · rename_i xs e1
      split at w
      · rename_i hz
        obtain ⟨a,vs,rfl,h1,l1⟩:=lstOf_at G rd e1
        exact .inr (.inr ⟨a,_,vs,rfl,re,h1,by have:=hz.1; omega,by have:=hz.2.1; omega,by rw [l1.len]; exact big_size hz.2.2,wp_lst G (l1.rep _) w⟩)
      · exact w.elim
    · exact w.elim
  · exact w.elim
def mNeg (f:EM):EM:=fun ρ θ=>(f ρ θ).bind fun x θ=>match x with
  | .int i=>.ok (.int (-i)) θ
  | _=>.bad
mutual
def dat:D→PyData
  | .bl b=>.bool b
  | .int i=>.int i
  | .str x=>.str x
  | .tup xs=>.tuple (dats xs)
  | .lst xs=>.list (dats xs)
  | _=>.none
def dats:List D→List PyData
  | []=>[]
  | d::r=>dat d::dats r
end
mutual
def plain:D→Bool
  | .non=>true
  | .bl _=>true
  | .int _=>true
  | .str _=>true
  | .tup xs=>plains xs
  | .lst xs=>plains xs
  | _=>false
def plains:List D→Bool
  | []=>true
  | d::r=>plain d && plains r
end
mutual
theorem rdv {B:Bx} {H:Hp} {K:PySem.W.Frag}:∀{d:D} {v:V},plain d=true→RepV B H d v→RdV K H v (dat d)
  | .non,_,_,r=>by cases (show _=V.non from r); exact .non
  | .bl b,_,_,r=>by cases (show _=V.bl b from r); exact .bl b
  | .int i,_,_,r=>by cases (show _=V.int i from r); exact .int i
  | .str x,_,_,r=>by cases (show _=V.str x from r); exact .str x
  | .tup xs,_,p,r=>by
    obtain ⟨a,vs,rfl,h,_,l⟩:=r
    exact .tup (SqT.of h) (rdvs p l)
  | .lst xs,_,p,r=>by
    obtain ⟨a,vs,rfl,h,_,l⟩:=r
    exact .lst (SqL.of h) (rdvs p l)
  | .ty _,_,p,_=>nomatch p
  | .scr _,_,p,_=>nomatch p
  | .ref _,_,p,_=>nomatch p
theorem rdvs {B:Bx} {H:Hp} {K:PySem.W.Frag}:∀{ds:List D} {vs:List V},plains ds=true→RepL B H ds vs→RdVs K H vs (dats ds)
  | [],_,_,r=>by cases (show _=[] from r); exact .nil
  | d::ds,_,p,r=>by
    obtain ⟨v,q,rfl,hv,hq⟩:=r
    have p':plain d=true∧plains ds=true:=by simpa [plains] using p
    exact .cons (rdv p'.1 hv) (rdvs p'.2 hq)
end
mutual
theorem same_iff:∀{d e:D},plain d=true→plain e=true→(same (dat d) (dat e)=true↔d=e):=fun {d e} p q=>by
  cases d with
  | ty _=>exact nomatch p
  | scr _=>exact nomatch p
  | ref _=>exact nomatch p
  | non=>cases e<;>simp_all [plain,dat,same]
  | bl _=>cases e<;>simp_all [plain,dat,same]
  | int _=>cases e<;>simp_all [plain,dat,same]
  | str _=>cases e<;>simp_all [plain,dat,same]
  | tup xs=>
    cases e with
    | tup ys=>
      simp only [dat,same,D.tup.injEq]
      exact sames_iff p q
    | ty _=>exact nomatch q
    | scr _=>exact nomatch q
    | ref _=>exact nomatch q
    | _=>simp [dat,same]
  | lst xs=>
    cases e with
    | lst ys=>
      simp only [dat,same,D.lst.injEq]
      exact sames_iff p q
    | ty _=>exact nomatch q
    | scr _=>exact nomatch q
    | ref _=>exact nomatch q
    | _=>simp [dat,same]
theorem sames_iff:∀{ds es:List D},plains ds=true→plains es=true→(sameAll (dats ds) (dats es)=true↔ds=es)
  | [],[],_,_=>by simp [dats,sameAll]
  | [],_::_,_,_=>by simp [dats,sameAll]
  | _::_,[],_,_=>by simp [dats,sameAll]
  | d::ds,e::es,p,q=>by
    have p':plain d=true∧plains ds=true:=by simpa [plains] using p
    have q':plain e=true∧plains es=true:=by simpa [plains] using q
    simp only [dats,sameAll,Bool.and_eq_true,List.cons.injEq]
    rw [same_iff p'.1 q'.1,sames_iff p'.2 q'.2]
end
def look (θ:Sto) (d:D):D:=match d with
  | .ref l=>match θ[l]? with
    | some (.lst xs)=>.lst xs
    | _=>.ref l
  | d=>d
theorem look_rdv {B:Bx} {θ:Sto} {H:Hp} {K:PySem.W.Frag} (G:Good X.cl B θ H) {d:D} {v:V} (r:RepV B H d v) (p:plain (look θ d)=true):RdV K H v (dat (look θ d)):=by
  cases d with
  | ref l=>
    unfold look at p ⊢
    simp only at p ⊢
    split at p
    · rename_i xs e
      obtain ⟨hl,rfl⟩:=r
      obtain ⟨vs,h1,h2⟩:=G.cel l _ e
      exact .lst (SqL.of h1) (rdvs p h2)
    · exact nomatch p
  | _=>exact rdv p r
structure CmpOk (x y:D):Prop where
  px:plain x=true
  py:plain y=true
  sx:shaped (dat x)=true
  sy:shaped (dat y)=true
  nm:noMix (dat x) (dat y)=true
open Classical in
def eqM:OM:=fun x y θ=>if CmpOk (look θ x) (look θ y) then .ok (.bl (decide (look θ x=look θ y))) θ else .bad
open Classical in
def neM:OM:=fun x y θ=>if CmpOk (look θ x) (look θ y) then .ok (.bl (!decide (look θ x=look θ y))) θ else .bad
open Classical in
theorem same_dec {d e:D} (p:plain d=true) (q:plain e=true):same (dat d) (dat e)=decide (d=e):=by
  rw [Bool.eq_iff_iff,same_iff p q,decide_eq_true_iff]
open Classical in
theorem o_eq (hu:X.A.units+64<cLine):OpR X (compareOp .Eq) (rM X eqM):=by
  refine OpR.imp (op_eqD hu) fun x y H Q q=>?_
  obtain ⟨σ,B,θ,d,e,G,rd,re,w⟩:=q
  unfold eqM at w
  split at w
  · rename_i c
    refine ⟨_,_,look_rdv G rd c.px,look_rdv G re c.py,c.sx,c.sy,c.nm,?_⟩
    rw [same_dec c.px c.py]
    exact wp_now G (show RepV B H (.bl _) (.bl _) from rfl) w
  · exact w.elim
open Classical in
theorem o_ne (hu:X.A.units+64<cLine):OpR X (compareOp .NotEq) (rM X neM):=by
  refine OpR.imp (op_neD hu) fun x y H Q q=>?_
  obtain ⟨σ,B,θ,d,e,G,rd,re,w⟩:=q
  unfold neM at w
  split at w
  · rename_i c
    refine ⟨_,_,look_rdv G rd c.px,look_rdv G re c.py,c.sx,c.sy,c.nm,?_⟩
    rw [same_dec c.px c.py]
    exact wp_now G (show RepV B H (.bl _) (.bl _) from rfl) w
  · exact w.elim
def allInt:List D→Bool
  | []=>true
  | .int _::r=>allInt r
  | _=>false
def allStr:List D→Bool
  | []=>true
  | .str _::r=>allStr r
  | _=>false
def memI (i:Int):List D→Bool
  | .int j::r=>decide (j=i) || memI i r
  | _=>false
def memS (x:Str):List D→Bool
  | .str y::r=>decide (y=x) || memS x r
  | _=>false
def inD (θ:Sto) (x y:D):Option Bool:=match seqOf θ y with
  | none=>none
  | some ys=>match x with
    | .int i=>if allInt ys=true then some (memI i ys) else none
    | .str z=>if allStr ys=true then some (memS z ys) else none
    | _=>none
def inM:OM:=fun x y θ=>match inD θ x y with
  | some k=>.ok (.bl k) θ
  | none=>.bad
def notInM:OM:=fun x y θ=>match inD θ x y with
  | some k=>.ok (.bl (!k)) θ
  | none=>.bad
theorem allInt_flat {B:Bx} {H:Hp}:∀{ys:List D} {vs:List V},allInt ys=true→RepL B H ys vs→vs.all flatV=true∧∀i:Int,inV (.int i) vs=memI i ys
  | [],_,_,r=>by cases (show _=[] from r); exact ⟨rfl,fun _=>rfl⟩
  | d::ys,_,h,r=>by
    cases d with
    | int j=>
      obtain ⟨v,q,rfl,hv,hq⟩:=r
      cases (show v=V.int j from hv)
      obtain ⟨h1,h2⟩:=allInt_flat (show allInt ys=true from h) hq
      refine ⟨by simp [flatV] at h1 ⊢; exact h1,fun i=>?_⟩
      have:=h2 i
      unfold inV at this ⊢
      rw [List.any_cons,this]
      show (j == i || memI i ys)=(decide (j=i) || memI i ys)
      rw [Bool.beq_eq_decide_eq]
    | _=>exact nomatch h
theorem allStr_flat {B:Bx} {H:Hp}:∀{ys:List D} {vs:List V},allStr ys=true→RepL B H ys vs→vs.all flatV=true∧∀i:Str,inV (.str i) vs=memS i ys
  | [],_,_,r=>by cases (show _=[] from r); exact ⟨rfl,fun _=>rfl⟩
  | d::ys,_,h,r=>by
    cases d with
    | str j=>
      obtain ⟨v,q,rfl,hv,hq⟩:=r
      cases (show v=V.str j from hv)
      obtain ⟨h1,h2⟩:=allStr_flat (show allStr ys=true from h) hq
      refine ⟨by simp [flatV] at h1 ⊢; exact h1,fun i=>?_⟩
      have:=h2 i
      unfold inV at this ⊢
      rw [List.any_cons,this]
      show (j == i || memS i ys)=(decide (j=i) || memS i ys)
      rw [Bool.beq_eq_decide_eq]
    | _=>exact nomatch h
theorem inD_ok {cl:Mo} {B:Bx} {θ:Sto} {H:Hp} (G:Good cl B θ H) {d e:D} {x y:V} {k:Bool} (rd:RepV B H d x) (re:RepV B H e y) (h:inD θ d e=some k) :
    ∃p xs,y=.ref p∧(SqL cl.K H p xs∨SqT cl.K H p xs)∧flatV x=true∧xs.all flatV=true∧inV x xs=k:=by
  unfold inD at h
  split at h
  · cases h
  · rename_i ys e1
    obtain ⟨a,vs,rfl,h1,h2⟩:=seqOf_at G re e1
    split at h
    · split at h
      · rename_i i hz
        cases h
        cases (show x=V.int i from rd)
        obtain ⟨q1,q2⟩:=allInt_flat hz h2
        exact ⟨a,vs,rfl,h1,rfl,q1,q2 i⟩
      · cases h
    · split at h
      · rename_i i hz
        cases h
        cases (show x=V.str i from rd)
        obtain ⟨q1,q2⟩:=allStr_flat hz h2
        exact ⟨a,vs,rfl,h1,rfl,q1,q2 i⟩
      · cases h
    · cases h
theorem o_in:OpR X (compareOp .In) (rM X inM):=by
  refine OpR.imp op_in_seq fun x y H Q q=>?_
  obtain ⟨σ,B,θ,d,e,G,rd,re,w⟩:=q
  unfold inM at w
  split at w
  · rename_i k e1
    obtain ⟨p,xs,h1,h2,h3,h4,h5⟩:=inD_ok G rd re e1
    exact ⟨p,xs,h1,h2,h3,h4,by rw [h5]; exact wp_now G (show RepV B H (.bl _) (.bl _) from rfl) w⟩
  · exact w.elim
theorem o_notin:OpR X (compareOp .NotIn) (rM X notInM):=by
  refine OpR.imp op_notIn_seq fun x y H Q q=>?_
  obtain ⟨σ,B,θ,d,e,G,rd,re,w⟩:=q
  unfold notInM at w
  split at w
  · rename_i k e1
    obtain ⟨p,xs,h1,h2,h3,h4,h5⟩:=inD_ok G rd re e1
    exact ⟨p,xs,h1,h2,h3,h4,by rw [h5]; exact wp_now G (show RepV B H (.bl _) (.bl _) from rfl) w⟩
  · exact w.elim
def isNon:D→Bool
  | .non=>true
  | _=>false
theorem isNon_ok {B:Bx} {H:Hp} {d:D} {v:V} (r:RepV B H d v):isNon d=decide (v=.non):=by
  cases d with
  | non=>cases (show v=.non from r); simp [isNon]
  | bl b=>cases (show v=.bl b from r); simp [isNon]
  | int i=>cases (show v=.int i from r); simp [isNon]
  | str x=>cases (show v=.str x from r); simp [isNon]
  | ty n=>cases (show v=.ty n from r); simp [isNon]
  | scr ns=>obtain ⟨a,rfl,_⟩:=r; simp [isNon]
  | tup xs=>obtain ⟨a,o,rfl,_⟩:=r; simp [isNon]
  | lst xs=>obtain ⟨a,o,rfl,_⟩:=r; simp [isNon]
  | ref l=>obtain ⟨_,rfl⟩:=r; simp [isNon]
def isM:OM:=fun x y θ=>match y with
  | .non=>.ok (.bl (isNon x)) θ
  | .bl c=>match x with
    | .bl b=>.ok (.bl (b == c)) θ
    | _=>.bad
  | _=>.bad
def isNotM:OM:=fun x y θ=>match y with
  | .non=>.ok (.bl (!isNon x)) θ
  | .bl c=>match x with
    | .bl b=>.ok (.bl (!(b == c))) θ
    | _=>.bad
  | _=>.bad
theorem op_isT:OpR X (compareOp .Is) (fun x y H Q=>∃b c:Bool,x=.bl b∧y=.bl c∧Q (.bl (b == c)) H):=by
  intro pins s σ H x y v u Q I rx ry h
  obtain ⟨b,c,rfl,rfl,q⟩:=h
  cases rx
  cases ry
  have e:(Value.bool b == Value.bool c)=(b == c):=by cases b<;>cases c<;>rfl
  exact wpAny_is_plain rfl ⟨.bl _,H,I,rfl,by rw [e]; exact q⟩
theorem o_is:OpR X (compareOp .Is) (rM X isM):=by
  refine OpR.imp (op_isN.or op_isT) fun x y H Q q=>?_
  obtain ⟨σ,B,θ,d,e,G,rd,re,w⟩:=q
  unfold isM at w
  split at w
  · refine .inl ⟨re,?_⟩
    have q:=wp_now G (show RepV B H (.bl _) (.bl _) from rfl) w
    rw [isNon_ok rd] at q
    exact q
  · split at w
    · exact .inr ⟨_,_,rd,re,wp_now G (show RepV B H (.bl _) (.bl _) from rfl) w⟩
    · exact w.elim
  · exact w.elim
theorem o_isnot:OpR X (compareOp .IsNot) (rM X isNotM):=by
  refine OpR.imp (op_notN.or op_notT) fun x y H Q q=>?_
  obtain ⟨σ,B,θ,d,e,G,rd,re,w⟩:=q
  unfold isNotM at w
  split at w
  · refine .inl ⟨re,?_⟩
    have q:=wp_now G (show RepV B H (.bl _) (.bl _) from rfl) w
    rw [isNon_ok rd] at q
    exact q
  · split at w
    · exact .inr ⟨_,_,rd,re,wp_now G (show RepV B H (.bl _) (.bl _) from rfl) w⟩
    · exact w.elim
  · exact w.elim
end
end
end L2.MM
set_option Elab.async false
set_option linter.all false
set_option maxRecDepth 100000
set_option maxHeartbeats 4000000
namespace L2.MM
open PySem PySem.Spec PyProof.Rows PySem.SeqAt
noncomputable section
variable {X:Cx}
section
def ixD (θ:Sto) (x:D) (i:Int):Option D:=match x with
  | .str z=>if z.length≤BIG then (atI z.cps.toList i).map fun c=>.str ⟨#[c]⟩ else none
  | x=>(seqOf θ x).bind (atI · i)
def ixM:OM:=fun x y θ=>match y with
  | .int i=>match ixD θ x i with
    | some d=>.ok d θ
    | none=>.bad
  | _=>.bad
theorem RepL.atI {B:Bx} {H:Hp} {xs:List D} {vs:List V} {i:Int} {d:D} (r:RepL B H xs vs) (h:atI xs i=some d):∃v,atI vs i=some v∧RepV B H d v:=by
  unfold L2.atI at h ⊢
  rw [r.len]
  cases e:ixN xs.length i with
  | none=>rw [e] at h; cases h
  | some j=>
    rw [e] at h
    exact r.get h
theorem ix_ok:IxR X (rM X ixM):=by
  refine IxR.imp ix_seq fun x y H Q q=>?_
  obtain ⟨σ,B,θ,d,e,G,rd,re,w⟩:=q
  unfold ixM at w
  split at w
  · rename_i i
    split at w
    · rename_i r e1
      have sq:(seqOf θ d).bind (L2.atI · i)=some r→rIx X.K x y H Q:=fun h=>by
        cases e2:seqOf θ d with
        | none=>rw [e2] at h; cases h
        | some xs=>
          rw [e2] at h
          obtain ⟨a,vs,rfl,h1,h2⟩:=seqOf_at G rd e2
          obtain ⟨v,h3,h4⟩:=h2.atI h
          have q:=wp_now G h4 w
          rcases h1 with h1 | h1
          · exact .inl ⟨a,vs,i,v,rfl,re,h1,h3,q⟩
          · exact .inr (.inl ⟨a,vs,i,v,rfl,re,h1,h3,q⟩)
      cases d with
      | str z=>
        simp only [ixD] at e1
        split at e1
        · rename_i hz
          cases e2:L2.atI z.cps.toList i with
          | none=>rw [e2] at e1; cases e1
          | some c=>
            rw [e2] at e1
            cases e1
            exact .inr (.inr ⟨z,i,c,rd,re,big_size hz,e2,wp_now G (show RepV B H (.str _) (.str _) from rfl) w⟩)
        · cases e1
      | non=>exact sq e1
      | bl _=>exact sq e1
      | int _=>exact sq e1
      | ty _=>exact sq e1
      | scr _=>exact sq e1
      | tup _=>exact sq e1
      | lst _=>exact sq e1
      | ref _=>exact sq e1
    · exact w.elim
  · exact w.elim
abbrev PM:=List Sl→Sto→R (Option Int)
def EqO (_:Bx) (_:Hp) (a b:Option Int):Prop:=a=b
def tMO (X:Cx) (f:PM):TO:=fun σ H Q=>∃B θ ρ,Frm X.cl B θ ρ σ H∧wpR X σ EqO B H (f ρ θ) Q
def MO (X:Cx) (e:Option Expr) (f:PM):Prop:=PO X e (tMO X f)
theorem tMO_mono {f:PM} {σ:St} {H:Hp} {Q Q':Option Int→Hp→Prop} (h:tMO X f σ H Q) (hQ:∀v H',Q v H'→Q' v H'):tMO X f σ H Q':=let ⟨B,θ,ρ,F,w⟩:=h; ⟨B,θ,ρ,F,w.mono hQ⟩
theorem stepO {σ:St} {H:Hp} {γ δ:Type} {Rel':Bx→Hp→γ→δ→Prop} {B:Bx} {θ:Sto} {ρ:List Sl} {f:PM} {k:Option Int→Sto→R γ} {Q:δ→Hp→Prop} (F:Frm X.cl B θ ρ σ H) (h:wpR X σ Rel' B H ((f ρ θ).bind k) Q) :
    tMO X f σ H (fun c H1=>∃B1 θ1,ExtE B B1 H H1∧Frm X.cl B1 θ1 ρ σ H1∧wpR X σ Rel' B1 H1 (k c θ1) Q):=
  ⟨B,θ,ρ,F,(wpR.bind (Rel:=EqO) h).mono fun v H1 ⟨B1,θ1,d,E,G,r,w⟩=>by cases (show d=v from r); exact ⟨B1,θ1,E,F.ext E G,w⟩⟩
def mNoPart:PM:=fun _ θ=>.ok none θ
def mPart (f:EM):PM:=fun ρ θ=>(f ρ θ).bind fun x θ=>match x with
  | .int i=>.ok (some i) θ
  | _=>.bad
theorem PO.imp {e:Option Expr} {t t':TO} (h:PO X e t) (hi:∀σ H Q,t' σ H Q→t σ H Q):PO X e t':=fun pins s σ H Q I q=>h pins s σ H Q I (hi σ H Q q)
theorem mo_none:MO X none mNoPart:=PO.imp po_none fun σ H Q h=>by
  obtain ⟨B,θ,ρ,F,w⟩:=h
  exact wp_now (Rel:=EqO) F.good rfl w
theorem mo_some {e:Expr} {f:EM} (h:ME X e f):MO X (some e) (mPart f):=PO.imp (po_some h) fun σ H Q h=>by
  obtain ⟨B,θ,ρ,F,w⟩:=h
  refine tM_mono (step F w) ?_
  rintro v H1 ⟨B1,θ1,x,E1,F1,rx,w1⟩
  cases x with
  | int i=>exact ⟨i,rx,wp_now (Rel:=EqO) F1.good rfl w1⟩
  | _=>exact w1.elim
def cutL {α:Type} (xs:List α) (lo hi:Option Int):List α:=(xs.drop (HT.sIx xs.length 0 lo)).take (HT.sIx xs.length xs.length hi-HT.sIx xs.length 0 lo)
theorem RepL.cut {B:Bx} {H:Hp} {xs:List D} {vs:List V} (r:RepL B H xs vs) (lo hi:Option Int):RepL B H (cutL xs lo hi) (cutV vs lo hi):=by
  unfold cutL cutV
  rw [r.len]
  exact (r.drop _).take _
def sliceD (θ:Sto) (x:D) (lo hi:Option Int):Option D:=match x with
  | .tup xs=>if HT.sIx xs.length 0 lo=0∧HT.sIx xs.length xs.length hi=xs.length then none else some (.tup (cutL xs lo hi))
  | x=>(lstOf θ x).map fun xs=>.lst (cutL xs lo hi)
def mSl (f:EM) (lo hi:PM):EM:=fun ρ θ=>(f ρ θ).bind fun x θ=>(lo ρ θ).bind fun l θ=>(hi ρ θ).bind fun h θ=>match sliceD θ x l h with
  | some d=>.ok d θ
  | none=>.bad
theorem SlR.imp {r r':V→Option Int→Option Int→Hp→VK→Prop} (h:SlR X r) (hi:∀x l u H Q,r' x l u H Q→r x l u H Q):SlR X r':=by
  intro pins s σ H x v vl vu lo hi' sl Q I rx hs pl pu q
  exact h pins s σ H x v vl vu lo hi' sl Q I rx hs pl pu (hi _ _ _ _ _ q)
theorem me_slice {e:Expr} {lo hi:Option Expr} {f:EM} {fl fh:PM} {pos p2:Pos} (he:ME X e f) (hl:MO X lo fl) (hh:MO X hi fh):ME X (.Subscript e (.Slice lo hi none p2) pos) (mSl f fl fh):=by
  refine PE.imp (pe_slice (sl_list.or sl_tup) he hl hh) fun σ H Q h=>?_
  obtain ⟨B,θ,ρ,F,w⟩:=h
  refine tM_mono (step F w) ?_
  rintro v H1 ⟨B1,θ1,x,E1,F1,rx,w1⟩
  refine tMO_mono (stepO F1 w1) ?_
  rintro l H2 ⟨B2,θ2,E2,F2,w2⟩
  refine tMO_mono (stepO F2 w2) ?_
  rintro u H3 ⟨B3,θ3,E3,F3,w3⟩
  have rx3:=rx.ext (E2.trans E3).toExtS
  have lst:∀d,(lstOf θ3 x).map (fun xs=>D.lst (cutL xs l u))=some d→wpR X σ RepV B3 H3 (R.ok d θ3) Q→rSlL X.K v l u H3 Q:=fun d h w=>by
    cases e2:lstOf θ3 x with
    | none=>rw [e2] at h; cases h
    | some xs=>
      rw [e2] at h
      cases h
      obtain ⟨a,vs,rfl,h1,h2⟩:=lstOf_at F3.good rx3 e2
      exact ⟨a,vs,rfl,SqL.of h1,wp_lst F3.good (h2.cut l u) w⟩
  split at w3
  · rename_i d e1
    cases x with
    | tup xs=>
      simp only [sliceD] at e1
      split at e1
      · cases e1
      · rename_i hw
        cases e1
        obtain ⟨a,vs,rfl,h1,k1,l1⟩:=rx3
        exact .inr ⟨a,vs,rfl,SqT.of h1,by rw [l1.len]; exact hw,wp_tup F3.good (l1.cut l u) w3⟩
    | non=>exact .inl (lst d e1 w3)
    | bl _=>exact .inl (lst d e1 w3)
    | int _=>exact .inl (lst d e1 w3)
    | str _=>exact .inl (lst d e1 w3)
    | ty _=>exact .inl (lst d e1 w3)
    | scr _=>exact .inl (lst d e1 w3)
    | lst _=>exact .inl (lst d e1 w3)
    | ref _=>exact .inl (lst d e1 w3)
  · exact w3.elim
def pickL {α:Type} (xs:List α) (lo hi st:Option Int):List α:=(sliceRange (sliceBounds lo hi st xs.length).1 (sliceBounds lo hi st xs.length).2.1 (sliceBounds lo hi st xs.length).2.2).filterMap (xs[·]?)
theorem RepL.none_of:∀{B:Bx} {H:Hp} {xs:List D} {vs:List V} {i:Nat},RepL B H xs vs→xs[i]?=none→vs[i]?=none:=fun {B H xs vs i} r e=>by
  have h1:=r.len
  have h2:xs.length≤i:=List.getElem?_eq_none_iff.mp e
  exact List.getElem?_eq_none_iff.mpr (by omega)
theorem RepL.pick {B:Bx} {H:Hp} {xs:List D} {vs:List V} (r:RepL B H xs vs):∀ks:List Nat,RepL B H (ks.filterMap (xs[·]?)) (ks.filterMap (vs[·]?))
  | []=>rfl
  | k::ks=>by
    cases e:xs[k]? with
    | none=>rw [List.filterMap_cons_none e,List.filterMap_cons_none (r.none_of e)]; exact r.pick ks
    | some x=>
      obtain ⟨u,e',q⟩:=r.get e
      rw [List.filterMap_cons_some e,List.filterMap_cons_some e']
      exact ⟨_,_,rfl,q,r.pick ks⟩
def mSl3 (f:EM) (lo hi st:PM):EM:=fun ρ θ=>(f ρ θ).bind fun x θ=>(lo ρ θ).bind fun l θ=>(hi ρ θ).bind fun h θ=>(st ρ θ).bind fun s θ=>match lstOf θ x with
  | some xs=>if s≠some 0∧(pickL xs l h s).length≤BIG then .ok (.lst (pickL xs l h s)) θ else .bad
  | none=>.bad
theorem me_slice3 {e sp:Expr} {lo hi:Option Expr} {f:EM} {fl fh fs:PM} {pos p2:Pos} (he:ME X e f) (hl:MO X lo fl) (hh:MO X hi fh) (hs:MO X (some sp) fs):ME X (.Subscript e (.Slice lo hi (some sp) p2) pos) (mSl3 f fl fh fs):=by
  refine PE.imp (pe_slice3 he hl hh hs) fun σ H Q h=>?_
  obtain ⟨B,θ,ρ,F,w⟩:=h
  refine tM_mono (step F w) ?_
  rintro v H1 ⟨B1,θ1,x,E1,F1,rx,w1⟩
  refine tMO_mono (stepO F1 w1) ?_
  rintro l H2 ⟨B2,θ2,E2,F2,w2⟩
  refine tMO_mono (stepO F2 w2) ?_
  rintro u H3 ⟨B3,θ3,E3,F3,w3⟩
  refine tMO_mono (stepO F3 w3) ?_
  rintro s H4 ⟨B4,θ4,E4,F4,w4⟩
  split at w4
  · rename_i xs e1
    split at w4
    · rename_i hz
      obtain ⟨a,vs,rfl,h1,h2⟩:=lstOf_at F4.good (rx.ext ((E2.trans E3).trans E4).toExtS) e1
      have p:RepL B4 H4 (pickL xs l u s) (pickV vs l u s):=by
        unfold pickL pickV
        rw [h2.len]
        exact h2.pick _
      exact ⟨a,vs,rfl,SqL.of h1,hz.1,by rw [p.len]; exact big_size hz.2,wp_lst F4.good p w4⟩
    · exact w4.elim
  · exact w4.elim
def lenG:GM:=fun ds θ=>match ds with
  | [.str z]=>if z.length≤BIG then .ok (.int z.length) θ else .bad
  | [d]=>match seqOf θ d with
    | some xs=>.ok (.int xs.length) θ
    | none=>.bad
  | _=>.bad
theorem RepL.one {B:Bx} {H:Hp} {d:D} {vs:List V} (r:RepL B H [d] vs):∃v,vs=[v]∧RepV B H d v:=by
  obtain ⟨v,q,rfl,hv,hq⟩:=r
  cases (show q=[] from hq)
  exact ⟨v,rfl,hv⟩
theorem RepL.two {B:Bx} {H:Hp} {d e:D} {vs:List V} (r:RepL B H [d,e] vs):∃v u,vs=[v,u]∧RepV B H d v∧RepV B H e u:=by
  obtain ⟨v,q,rfl,hv,hq⟩:=r
  obtain ⟨u,rfl,hu⟩:=hq.one
  exact ⟨v,u,rfl,hv,hu⟩
theorem c_len:CallR X (.builtin "len") (rC X lenG):=by
  refine CallR.imp (call_len_str.or call_len_seq) fun vs H Q q=>?_
  obtain ⟨σ,B,θ,ds,G,r,w⟩:=q
  unfold lenG at w
  split at w
  · split at w
    · rename_i z hz
      obtain ⟨v,rfl,rv⟩:=r.one
      cases (show v=V.str z from rv)
      exact .inl ⟨z,rfl,big_size hz,wp_now G (show RepV B H (.int _) (.int _) from rfl) w⟩
    · exact w.elim
  · split at w
    · rename_i xs e1
      obtain ⟨v,rfl,rv⟩:=r.one
      obtain ⟨a,us,rfl,h1,h2⟩:=seqOf_at G rv e1
      exact .inr ⟨a,us,rfl,h1,by rw [h2.len]; exact wp_now G (show RepV B H (.int _) (.int _) from rfl) w⟩
    · exact w.elim
  · exact w.elim
def intsD:List D→Option (List Int)
  | []=>some []
  | .int i::r=>(intsD r).map (i::·)
  | _=>none
@[simp] theorem ints_map (ns:List Int):intsD (ns.map D.int)=some ns:=by
  induction ns with
  | nil=>rfl
  | cons n r ih=>simp [intsD,ih]
theorem ints_eq:∀{ds:List D} {ns:List Int},intsD ds=some ns→ds=ns.map D.int
  | [],_,h=>by cases h; rfl
  | d::r,ns,h=>by
    cases d with
    | int i=>
      simp only [intsD] at h
      cases e:intsD r with
      | none=>rw [e] at h; cases h
      | some ms=>rw [e] at h; cases h; rw [ints_eq e]; rfl
    | _=>cases h
theorem ints_rep {B:Bx} {H:Hp}:∀{ns:List Int} {vs:List V},RepL B H (ns.map D.int) vs→vs=ns.map V.int
  | [],_,r=>r
  | n::ns,_,r=>by
    obtain ⟨v,q,rfl,hv,hq⟩:=r
    cases (show v=V.int n from hv)
    rw [ints_rep hq]; rfl
def sumG:GM:=fun ds θ=>match ds with
  | [d]=>match (lstOf θ d).bind intsD with
    | some ns=>.ok (.int ns.sum) θ
    | none=>.bad
  | _=>.bad
theorem c_sum (hc:X.calm=true:=by rfl):CallR X (.builtin "sum") (rC X sumG):=by
  refine CallR.imp (call_sum hc) fun vs H Q q=>?_
  obtain ⟨σ,B,θ,ds,G,r,w⟩:=q
  unfold sumG at w
  split at w
  · rename_i d
    split at w
    · rename_i ns e1
      obtain ⟨v,rfl,rv⟩:=r.one
      cases e2:lstOf θ d with
      | none=>rw [e2] at e1; cases e1
      | some xs=>
        rw [e2] at e1
        obtain ⟨a,us,rfl,h1,h2⟩:=lstOf_at G rv e2
        rw [ints_eq (show intsD xs=some ns from e1)] at h2
        rw [ints_rep h2] at h1
        exact ⟨a,ns,rfl,SqL.of h1,wp_now G (show RepV B H (.int _) (.int _) from rfl) w⟩
    · exact w.elim
  · exact w.elim
def minG:GM:=fun ds θ=>match ds with
  | [.int i,.int j]=>.ok (.int (if j<i then j else i)) θ
  | [.int i,.int j,.int k]=>.ok (.int (if j<i then (if k<j then k else j) else (if k<i then k else i))) θ
  | _=>.bad
def maxG:GM:=fun ds θ=>match ds with
  | [.int i,.int j]=>.ok (.int (if j > i then j else i)) θ
  | _=>.bad
theorem RepL.three {B:Bx} {H:Hp} {d e f:D} {vs:List V} (r:RepL B H [d,e,f] vs):∃v u w,vs=[v,u,w]∧RepV B H d v∧RepV B H e u∧RepV B H f w:=by
  obtain ⟨v,q,rfl,hv,hq⟩:=r
  obtain ⟨u,w,rfl,hu,hw⟩:=hq.two
  exact ⟨v,u,w,rfl,hv,hu,hw⟩
theorem call_min3 (hc:X.calm=true):CallR X (.builtin "min") (fun xs H Q=>∃i j k,xs=[.int i,.int j,.int k]∧Q (.int (if j<i then (if k<j then k else j) else (if k<i then k else i))) H):=by
  intro pins s σ H xs us Q I r h
  obtain ⟨i,j,k,rfl,q⟩:=h
  cases r with
  | cons r1 rr=>
    obtain ⟨u2,u3,e,r2,r3⟩:=vals2 rr
    subst e
    obtain ⟨t1,rfl⟩:=r1
    obtain ⟨t2,rfl⟩:=r2
    obtain ⟨t3,rfl⟩:=r3
    refine min_three_ints (I.ok.hd hc) fun h' tk kk=>⟨_,H,I.kept kk,?_,q⟩
    by_cases c1:j<i
    · by_cases c2:k<j
      · simp only [c1,c2,if_true]; exact ⟨_,rfl⟩
      · simp only [c1,c2,if_true,if_false]; exact ⟨_,rfl⟩
    · by_cases c2:k<i
      · simp only [c1,c2,if_true,if_false]; exact ⟨_,rfl⟩
      · simp only [c1,c2,if_false]; exact ⟨_,rfl⟩
theorem c_min (hc:X.calm=true:=by rfl):CallR X (.builtin "min") (rC X minG):=by
  refine CallR.imp ((call_min2 hc).or (call_min3 hc)) fun vs H Q q=>?_
  obtain ⟨σ,B,θ,ds,G,r,w⟩:=q
  unfold minG at w
  split at w
  · rename_i i j
    obtain ⟨v,u,rfl,rv,ru⟩:=r.two
    cases (show v=V.int i from rv)
    cases (show u=V.int j from ru)
    exact .inl ⟨i,j,rfl,wp_now G (show RepV B H (.int _) (.int _) from rfl) w⟩
  · rename_i i j k
    obtain ⟨v,u,z,rfl,rv,ru,rz⟩:=r.three
    cases (show v=V.int i from rv)
    cases (show u=V.int j from ru)
    cases (show z=V.int k from rz)
    exact .inr ⟨i,j,k,rfl,wp_now G (show RepV B H (.int _) (.int _) from rfl) w⟩
  · exact w.elim
theorem c_max (hc:X.calm=true:=by rfl):CallR X (.builtin "max") (rC X maxG):=by
  refine CallR.imp (call_max2 hc) fun vs H Q q=>?_
  obtain ⟨σ,B,θ,ds,G,r,w⟩:=q
  unfold maxG at w
  split at w
  · rename_i i j
    obtain ⟨v,u,rfl,rv,ru⟩:=r.two
    cases (show v=V.int i from rv)
    cases (show u=V.int j from ru)
    exact ⟨i,j,rfl,wp_now G (show RepV B H (.int _) (.int _) from rfl) w⟩
  · exact w.elim
def intG:GM:=fun ds θ=>match ds with
  | [.int i]=>.ok (.int i) θ
  | [.bl k]=>.ok (.int (if k then 1 else 0)) θ
  | _=>.bad
theorem c_int:CallR X (.type "int") (rC X intG):=by
  refine CallR.imp call_int1 fun vs H Q q=>?_
  obtain ⟨σ,B,θ,ds,G,r,w⟩:=q
  unfold intG at w
  split at w
  · rename_i i
    obtain ⟨v,rfl,rv⟩:=r.one
    cases (show v=V.int i from rv)
    exact .inl ⟨i,rfl,wp_now G (show RepV B H (.int _) (.int _) from rfl) w⟩
  · rename_i k
    obtain ⟨v,rfl,rv⟩:=r.one
    cases (show v=V.bl k from rv)
    exact .inr ⟨k,rfl,wp_now G (show RepV B H (.int _) (.int _) from rfl) w⟩
  · exact w.elim
def listG:GM:=fun ds θ=>match ds with
  | [d]=>match seqOf θ d with
    | some xs=>.ok (.lst xs) θ
    | none=>.bad
  | _=>.bad
theorem c_list:CallR X (.type "list") (rC X listG):=by
  refine CallR.imp call_list_of fun vs H Q q=>?_
  obtain ⟨σ,B,θ,ds,G,r,w⟩:=q
  unfold listG at w
  split at w
  · split at w
    · rename_i xs e1
      obtain ⟨v,rfl,rv⟩:=r.one
      obtain ⟨a,us,rfl,h1,h2⟩:=seqOf_at G rv e1
      exact ⟨a,us,rfl,h1,wp_lst G h2 w⟩
    · exact w.elim
  · exact w.elim
def tupleG:GM:=fun ds θ=>match ds with
  | [.tup xs]=>.ok (.tup xs) θ
  | [d]=>match lstOf θ d with
    | some xs=>.ok (.tup xs) θ
    | none=>.bad
  | _=>.bad
theorem c_tuple:CallR X (.type "tuple") (rC X tupleG):=by
  refine CallR.imp call_tuple_of fun vs H Q q=>?_
  obtain ⟨σ,B,θ,ds,G,r,w⟩:=q
  unfold tupleG at w
  split at w
  · rename_i xs
    obtain ⟨v,rfl,rv⟩:=r.one
    obtain ⟨a,us,rfl,h1,k1,l1⟩:=id rv
    exact ⟨a,us,rfl,.inr ⟨SqT.of h1,wp_now G rv w⟩⟩
  · split at w
    · rename_i xs e1
      obtain ⟨v,rfl,rv⟩:=r.one
      obtain ⟨a,us,rfl,h1,h2⟩:=lstOf_at G rv e1
      exact ⟨a,us,rfl,.inl ⟨SqL.of h1,wp_tup G h2 w⟩⟩
    · exact w.elim
  · exact w.elim
inductive Ty | non | bl | int | str | lst | tup
def Ty.nm:Ty→String
  | .non=>"NoneType" | .bl=>"bool" | .int=>"int" | .str=>"str" | .lst=>"list" | .tup=>"tuple"
end
end
end L2.MM
set_option Elab.async false
set_option linter.all false
set_option maxRecDepth 100000
set_option maxHeartbeats 4000000
namespace L2.MM
open PySem PySem.Spec PyProof.Rows PySem.SeqAt
noncomputable section
variable {X:Cx}
inductive Src where
  | seq (d:D) | rng (lo:Int) (n:Nat)
def Src.items (θ:Sto):Src→Option (List D)
  | .seq d=>seqOf θ d
  | .rng lo n=>some ((List.range n).map fun (i:Nat)=>D.int (lo+(i:Int)))
def SrcRep (K:PySem.W.Frag) (B:Bx) (H:Hp):Src→It→Prop
  | .seq d,J=>∃a,RepV B H d (.ref a)∧J=(match d with | .tup _=>Itt K a | _=>Itl K a)
  | .rng lo n,J=>J=Itr lo n
abbrev IM:=List Sl→Sto→R Src
section
def tMI (X:Cx) (f:IM):TI:=fun σ H Q=>∃B θ ρ,Frm X.cl B θ ρ σ H∧wpR X σ (SrcRep X.K) B H (f ρ θ) Q
def MI (X:Cx) (tg iter:Expr) (f:IM):Prop:=PI X tg iter (tMI X f)
theorem PI.imp {tg iter:Expr} {t t':TI} (h:PI X tg iter t) (hi:∀σ H Q,t' σ H Q→t σ H Q):PI X tg iter t':=fun pins s σ H Q I q=>h pins s σ H Q I (hi σ H Q q)
theorem SrcRep.ext {K:PySem.W.Frag} {B B':Bx} {H H':Hp} {S:Src} {J:It} (r:SrcRep K B H S J) (E:ExtS B B' H H'):SrcRep K B' H' S J:=by
  cases S with
  | seq d=>obtain ⟨a,h,e⟩:=r; exact ⟨a,h.ext E,e⟩
  | rng lo n=>exact r
theorem src_go {cl:Mo} {B:Bx} {θ:Sto} {H:Hp} {S:Src} {J:It} {xs:List D} (G:Good cl B θ H) (r:SrcRep cl.K B H S J) (h:S.items θ=some xs) :
    (∀i d,xs[i]?=some d→J.go i H∧∀x H',J.yld i H x H'→H'=H∧RepV B H d x)∧J.stop xs.length H:=by
  cases S with
  | rng lo n=>
    cases (show J=Itr lo n from r)
    cases h
    refine ⟨fun i d e=>?_,by show n≤_; simp⟩
    rw [List.getElem?_map] at e
    by_cases hi:i<n
    · rw [List.getElem?_range hi] at e
      cases e
      exact ⟨hi,fun x H' y=>⟨y.1,y.2⟩⟩
    · rw [List.getElem?_eq_none (by simpa using hi)] at e
      cases e
  | seq d=>
    obtain ⟨a,rv,e⟩:=r
    cases d with
    | tup ys=>
      obtain ⟨a',vs,e1,h1,_,h2⟩:=rv
      cases e1
      cases h
      simp only at e
      subst e
      refine ⟨fun i d e=>?_,⟨vs,SqT.of h1,by rw [h2.len]; exact Nat.le_refl _⟩⟩
      obtain ⟨v,q1,q2⟩:=h2.get e
      refine ⟨⟨vs,v,SqT.of h1,q1⟩,fun x H' y=>⟨y.1,?_⟩⟩
      have:=y.2 vs (SqT.of h1)
      rw [q1] at this
      cases this
      exact q2
    | scr ns=>
      cases h
      obtain ⟨a',vs',e1,h1,_⟩:=seqOf_at G rv (show seqOf θ (.scr ns)=some (ns.map D.int) from rfl)
      cases e1
      simp only at e
      subst e
      have hS:SqL cl.K H a (ns.map V.int):=by
        obtain ⟨a',e1,h1⟩:=rv
        cases e1
        rcases h1 with ⟨o,h1,_⟩ | h1
        · exact .inl (.inr ⟨o,h1⟩)
        · exact .inr (G.kc a ns h1)
      have h2:RepL B H (ns.map D.int) (ns.map V.int):=RepL.map (f:=D.int) (g:=V.int) (fun _=>rfl) ns
      refine ⟨fun i d e=>?_,⟨ns.map V.int,hS,by simp⟩⟩
      obtain ⟨v,q1,q2⟩:=h2.get e
      refine ⟨⟨_,v,hS,q1⟩,fun x H' y=>⟨y.1,?_⟩⟩
      have:=y.2 _ hS
      rw [q1] at this
      cases this
      exact q2
    | lst ys=>
      obtain ⟨a',vs,e1,h1,h2⟩:=lstOf_at G rv (show lstOf θ (.lst ys)=some xs from h)
      cases e1
      simp only at e
      subst e
      refine ⟨fun i d e=>?_,⟨vs,SqL.of h1,by rw [h2.len]; exact Nat.le_refl _⟩⟩
      obtain ⟨v,q1,q2⟩:=h2.get e
      refine ⟨⟨vs,v,SqL.of h1,q1⟩,fun x H' y=>⟨y.1,?_⟩⟩
      have:=y.2 vs (SqL.of h1)
      rw [q1] at this
      cases this
      exact q2
    | ref l=>
      obtain ⟨a',vs,e1,h1,h2⟩:=lstOf_at G rv (show lstOf θ (.ref l)=some xs from h)
      cases e1
      simp only at e
      subst e
      refine ⟨fun i d e=>?_,⟨vs,SqL.of h1,by rw [h2.len]; exact Nat.le_refl _⟩⟩
      obtain ⟨v,q1,q2⟩:=h2.get e
      refine ⟨⟨vs,v,SqL.of h1,q1⟩,fun x H' y=>⟨y.1,?_⟩⟩
      have:=y.2 vs (SqL.of h1)
      rw [q1] at this
      cases this
      exact q2
    | non=>cases h
    | bl _=>cases h
    | int _=>cases h
    | str _=>cases h
    | ty _=>cases h
def iSeq (K:PySem.W.Frag) (tl:TE):TI:=fun σ H R=>tl σ H fun x H1=>∃a,x=.ref a∧(((∃xs,SqL K H1 a xs)∧R (Itl K a) H1)∨((∃xs,SqT K H1 a xs)∧R (Itt K a) H1))
theorem pi_seq {tg l:Expr} {tl:TE} (hl:PE X l tl):PI X tg l (iSeq X.K tl):=by
  intro pins s σ H R I h
  refine thn (hl pins s σ H _ I h) fun v s1 ⟨x,H1,I1,r1,q1⟩=>?_
  obtain ⟨a,e,q1⟩:=q1
  subst e
  cases r1
  rcases q1 with ⟨⟨xs,hq⟩,q⟩ | ⟨⟨xs,hq⟩,q⟩
  · obtain ⟨its,rv,p,hz⟩:=I1.list hq
    refine wpAny_pyIter_list p.isList ?_
    refine ⟨s1.heap.objs.size,[s1.heap.objs.size],_,_,H1,rfl,I1.kept (t':=s1.toks) fun b o e=>Heap.get?_push_of_some _ e,turn_list a _,⟨_,Heap.get?_push_size _ rfl,rfl,rfl⟩,fun b hb=>?_,q⟩
    have e:b=s1.heap.objs.size:=by simpa using hb
    subst e
    exact I1.fpOk (Nat.le_refl _) (I1.hok.fresh (Nat.le_refl _))
  · obtain ⟨its,rv,p,hz⟩:=I1.tuple hq
    refine wpAny_pyIter_tuple (show s1.heap.IsTuple a its.toArray from p) ?_
    refine ⟨s1.heap.objs.size,[s1.heap.objs.size],_,_,H1,rfl,I1.kept (t':=s1.toks) fun b o e=>Heap.get?_push_of_some _ e,turn_tuple a _,⟨_,Heap.get?_push_size _ rfl,rfl,rfl⟩,fun b hb=>?_,q⟩
    have e:b=s1.heap.objs.size:=by simpa using hb
    subst e
    exact I1.fpOk (Nat.le_refl _) (I1.hok.fresh (Nat.le_refl _))
def mIn (f:EM):IM:=fun ρ θ=>(f ρ θ).bind fun d θ=>match seqOf θ d with
  | some _=>.ok (.seq d) θ
  | none=>.bad
theorem mi_seq {tg l:Expr} {f:EM} (h:ME X l f):MI X tg l (mIn f):=by
  refine PI.imp (pi_seq h) fun σ H R q=>?_
  obtain ⟨B,θ,ρ,F,w⟩:=q
  refine tM_mono (step F w) ?_
  rintro v H1 ⟨B1,θ1,d,E1,F1,rd,w1⟩
  split at w1
  · rename_i xs e
    obtain ⟨a,vs,rfl,h1,h2⟩:=seqOf_at F1.good rd e
    refine ⟨a,rfl,?_⟩
    have fin:=fun J (hJ:SrcRep X.K B1 H1 (.seq d) J)=>wp_now (Rel:=SrcRep X.K) F1.good hJ w1
    cases d with
    | tup ys=>
      obtain ⟨a',us,e1,g1,_,_⟩:=id rd
      cases e1
      exact .inr ⟨⟨us,SqT.of g1⟩,fin _ ⟨a,rd,rfl⟩⟩
    | scr ns=>
      have hS:SqL X.K H1 a (ns.map V.int):=by
        obtain ⟨a',e1,g1⟩:=id rd
        cases e1
        rcases g1 with ⟨o,g1,_⟩ | g1
        · exact .inl (.inr ⟨o,g1⟩)
        · exact .inr (F1.good.kc a ns g1)
      exact .inl ⟨⟨_,hS⟩,fin _ ⟨a,rd,rfl⟩⟩
    | lst ys=>
      obtain ⟨a',us,e1,g1,_⟩:=lstOf_at F1.good rd (show lstOf θ1 (.lst ys)=some xs from e)
      cases e1
      exact .inl ⟨⟨us,SqL.of g1⟩,fin _ ⟨a,rd,rfl⟩⟩
    | ref l=>
      obtain ⟨a',us,e1,g1,_⟩:=lstOf_at F1.good rd (show lstOf θ1 (.ref l)=some xs from e)
      cases e1
      exact .inl ⟨⟨us,SqL.of g1⟩,fin _ ⟨a,rd,rfl⟩⟩
    | non=>cases e
    | bl _=>cases e
    | int _=>cases e
    | str _=>cases e
    | ty _=>cases e
  · exact w1.elim
def mRng1 (f:AM):IM:=fun ρ θ=>(f ρ θ).bind fun ds θ=>match ds with
  | [.int j]=>if -1000000≤j∧j≤1000000 then .ok (.rng 0 j.toNat) θ else .bad
  | _=>.bad
theorem mi_range1 {tg a:Expr} {f:AM} {p pos:Pos} (hm:X.mg "range"=none) (ha:MA X [a] f) (hg:Gl X "range":=by rfl) (hs:starEach [a] X.env=[(false,eval a X.env)]:=by rfl):MI X tg (.Call (.Name "range" p) [a] [] pos) (mRng1 f):=by
  refine PI.imp (pi_range1 hg hm ha hs) fun σ H R q=>?_
  obtain ⟨B,θ,ρ,F,w⟩:=q
  refine tMA_mono (stepA F w) ?_
  rintro vs H1 ⟨B1,θ1,ds,E1,F1,rd,w1⟩
  split at w1
  · rename_i j
    split at w1
    · rename_i hj
      obtain ⟨v,rfl,rv⟩:=rd.one
      cases (show v=V.int j from rv)
      exact ⟨j,rfl,by have:=hj.1; omega,by have:=hj.2; omega,wp_now (Rel:=SrcRep X.K) F1.good (show SrcRep X.K B1 H1 (.rng 0 j.toNat) _ from rfl) w1⟩
    · exact w1.elim
  · exact w1.elim
def inEnv (src:List Nat) (ρ:List Sl) (x:D):List Sl:=Sl.val x::src.map fun (j:Nat)=>match ρ[j]? with
  | some (Sl.val d)=>Sl.val d
  | _=>Sl.no
theorem Frm.inner {B:Bx} {θ:Sto} {ρ:List Sl} {σ:St} {H:Hp} (F:Frm X.cl B θ ρ σ H) (src:List Nat) {x:D} {v:V} (r:RepV B H x v):Frm X.cl B θ (inEnv src ρ x) (L2.inner src σ (some v)) H:=by
  have key:∀(i:Nat) (s:Sl),(inEnv src ρ x)[i]?=some s→s=.no∨∃d,s=.val d∧∃v',(L2.inner src σ (some v))[i]?=some (some v')∧RepV B H d v':=fun i s e=>by
    cases i with
    | zero=>simp [inEnv] at e; subst e; exact .inr ⟨x,rfl,v,by simp [L2.inner],r⟩
    | succ i=>
      simp only [inEnv,List.getElem?_cons_succ,List.getElem?_map] at e
      simp only [L2.inner,List.getElem?_cons_succ,List.getElem?_map]
      cases q:src[i]? with
      | none=>rw [q] at e; cases e
      | some j=>
        rw [q] at e
        simp only [Option.map_some,Option.some.injEq] at e
        split at e
        · rename_i d ed
          subst e
          obtain ⟨v',h1,h2⟩:=F.val j d ed
          exact .inr ⟨d,rfl,v',by simp [h1],h2⟩
        · exact .inl e.symm
  refine ⟨F.good,by simp [inEnv,L2.inner],fun i d e=>?_,fun i xs e=>?_,fun i j xs ys a _ e _=>?_⟩
  · rcases key i _ e with z | ⟨d',z,v',h1,h2⟩
    · cases z
    · cases z; exact ⟨v',h1,h2⟩
  · rcases key i _ e with z | ⟨d',z,_⟩<;>cases z
  · rcases key i _ e with z | ⟨d',z,_⟩<;>cases z
open Classical in
def compL (S:Src) (all:List D) (elt:D→Sto→R D):List D→List D→Sto→R D
  | [],acc,θ=>if S.items θ=some all∧acc.length≤BIG then .ok (.lst acc) θ else .bad
  | x::r,acc,θ=>if S.items θ=some all then (elt x θ).bind fun y θ=>compL S all elt r (acc++[y]) θ else .bad
def mComp (fi:IM) (src:List Nat) (elt:EM):EM:=fun ρ θ=>(fi ρ θ).bind fun S θ=>match S.items θ with
  | some xs=>if xs.length≤BIG then compL S xs (fun x θ=>elt (inEnv src ρ x) θ) xs [] θ else .bad
  | none=>.bad
open Classical in
theorem tM_comp {fi:IM} {src:List Nat} {elt:EM} (σ:St) (H:Hp) (Q:VK) (h:tM X (mComp fi src elt) σ H Q):tLc (tMI X fi) src (tM X elt) σ H Q:=by
  obtain ⟨B,θ,ρ,F,w⟩:=h
  refine ⟨B,θ,ρ,F,(wpR.bind (Rel:=SrcRep X.K) w).mono ?_⟩
  rintro J H1 ⟨B1,θ1,S,E1,G1,rJ,w1⟩
  split at w1
  · rename_i xs e1
    split at w1
    · rename_i hz
      refine ⟨xs.length,fun i ys H'=>∃B' θ' acc,ExtE B1 B' H1 H'∧Good X.cl B' θ' H'∧RepL B' H' acc ys∧wpR X σ RepV B' H' (compL S xs (fun x θ=>elt (inEnv src ρ x) θ) (xs.drop i) acc θ') Q,big_size hz,?_,?_,?_⟩
      · exact ⟨B1,θ1,[],ExtE.refl _ _,G1,rfl,w1⟩
      · rintro i ys H' hi ⟨B2,θ2,acc,E2,G2,racc,w2⟩
        rw [List.drop_eq_getElem_cons hi] at w2
        unfold compL at w2
        split at w2
        · rename_i e2
          obtain ⟨g1,g2⟩:=(src_go G2 (rJ.ext E2.toExtS) e2).1 i xs[i] (List.getElem?_eq_getElem hi)
          refine ⟨g1,fun y H3 hy=>?_⟩
          obtain ⟨rfl,ry⟩:=g2 y H3 hy
          have F2:=(F.ext (E1.trans E2) G2).inner src ry
          refine ⟨B2,θ2,_,F2,(wpR.bind (Rel:=RepV) w2).mono ?_⟩
          rintro z H4 ⟨B4,θ4,d,E4,G4,rd,w4⟩
          exact ⟨B4,θ4,acc++[d],E2.trans E4,G4,(racc.ext E4.toExtS).app ⟨z,[],rfl,rd,rfl⟩,w4⟩
        · exact w2.elim
      · rintro ys H' ⟨B2,θ2,acc,E2,G2,racc,w2⟩
        rw [List.drop_length] at w2
        unfold compL at w2
        split at w2
        · rename_i e2
          exact ⟨(src_go G2 (rJ.ext E2.toExtS) e2.1).2,wp_lst G2 racc w2⟩
        · exact w2.elim
    · exact w1.elim
  · exact w1.elim
theorem me_lc {x:Str} {px pos:Pos} {iter elt:Expr} {scope:Scope} {N':List Str} {src:List Nat} {sc:Scope} {N:List Str} {fi:IM} {fe:EM} (S:CompScope scope sc x N N' src) (hsc:X.env.scope=sc) (hN:X.N=N) (hi:MI X (.Name x px) iter fi)
    (helt:∀(cl:List (Str×Addr)) (C:Addr) (s₀:Shared) (H₀:Hp) (fp:List Addr),ME (X.comp scope N' cl C s₀ H₀ fp) elt fe) (hcm:X.calm=true:=by rfl) (hs:∀v,foldedSetIterable iter X.env v=pure v:=by intro _; rfl) :
    ME X (.ListComp elt [⟨.Name x px,iter,[],0⟩] scope pos) (mComp fi src fe):=
  PE.imp (pe_lc (te:=tM X fe) S hsc hN hi (fun cl C s₀ H₀ fp=>helt cl C s₀ H₀ fp) hcm hs) tM_comp
inductive Fl where
  | nx | rt (d:D) | bk | ct
abbrev SM:=List Sl→Sto→R (Fl×List Sl)
def endOf (Dn:Ends) (B:Bx) (σ:St) (H:Hp):Fl→Prop
  | .nx=>Dn.nx σ H
  | .bk=>Dn.bk σ H
  | .ct=>Dn.ct σ H
  | .rt d=>∀v,RepV B H d v→Dn.rt v H
def wpS (X:Cx) (σ:St) (B:Bx) (H:Hp) (r:R (Fl×List Sl)) (Dn:Ends):Prop:=match r with
  | .ok (fl,ρ') θ'=>∀B' H' σ',ExtS B B' H H'→Frm X.cl B' θ' ρ' σ' H'→endOf Dn B' σ' H' fl
  | .ex c θ'=>XE X σ B H c θ'
  | .bad=>False
def tMS (X:Cx) (f:SM):TS:=fun Dn σ H=>∃B θ ρ,Frm X.cl B θ ρ σ H∧wpS X σ B H (f ρ θ) Dn
def MS (X:Cx) (st:Stmt) (f:SM):Prop:=PS X st (tMS X f)
def MSs (X:Cx) (sts:List Stmt) (f:SM):Prop:=PSs X sts (tMS X f)
theorem PS.imp {st:Stmt} {t t':TS} (h:PS X st t) (hi:∀D σ H,t' D σ H→t D σ H):PS X st t':=fun pins s σ H D I q=>h pins s σ H D I (hi D σ H q)
theorem PSs.imp {st:List Stmt} {t t':TS} (h:PSs X st t) (hi:∀D σ H,t' D σ H→t D σ H):PSs X st t':=fun pins s σ H D I q=>h pins s σ H D I (hi D σ H q)
theorem wpS.trans {σ σ':St} {B B':Bx} {H H':Hp} {r:R (Fl×List Sl)} {Dn:Ends} (h:wpS X σ B H r Dn) (E:ExtS B B' H H'):wpS X σ' B' H' r Dn:=by
  cases r with
  | ok a θ'=>exact fun B2 H2 σ2 e g=>h B2 H2 σ2 (E.trans e) g
  | ex c θ'=>exact h
  | bad=>exact h
theorem wpS.bind {α β:Type} {Rel:Bx→Hp→α→β→Prop} {σ:St} {B:Bx} {H:Hp} {r:R α} {k:α→Sto→R (Fl×List Sl)} {Dn:Ends} (h:wpS X σ B H (r.bind k) Dn) :
    wpR X σ Rel B H r (fun b H1=>∃B1 θ1 a,ExtE B B1 H H1∧Good X.cl B1 θ1 H1∧Rel B1 H1 a b∧wpS X σ B1 H1 (k a θ1) Dn):=by
  cases r with
  | ok a θ'=>exact fun B1 H1 b E g q=>⟨B1,θ',a,E,g,q,wpS.trans h E.toExtS⟩
  | ex c θ'=>exact h
  | bad=>exact h
theorem stepS {σ:St} {H:Hp} {B:Bx} {θ:Sto} {ρ:List Sl} {f:EM} {k:D→Sto→R (Fl×List Sl)} {Dn:Ends} (F:Frm X.cl B θ ρ σ H) (h:wpS X σ B H ((f ρ θ).bind k) Dn) :
    tM X f σ H (fun v H1=>∃B1 θ1 d,ExtE B B1 H H1∧Frm X.cl B1 θ1 ρ σ H1∧RepV B1 H1 d v∧wpS X σ B1 H1 (k d θ1) Dn):=
  ⟨B,θ,ρ,F,(wpS.bind (Rel:=RepV) h).mono fun v H1 ⟨B1,θ1,d,E,G,r,w⟩=>⟨B1,θ1,d,E,F.ext E G,r,w⟩⟩
theorem stepST {σ:St} {H:Hp} {B:Bx} {θ:Sto} {ρ:List Sl} {f:TMr} {k:Bool→Sto→R (Fl×List Sl)} {Dn:Ends} (F:Frm X.cl B θ ρ σ H) (h:wpS X σ B H ((f ρ θ).bind k) Dn) :
    tMT X f σ H (fun c H1=>∃B1 θ1,ExtE B B1 H H1∧Frm X.cl B1 θ1 ρ σ H1∧wpS X σ B1 H1 (k c θ1) Dn):=
  ⟨B,θ,ρ,F,(wpS.bind (Rel:=EqB) h).mono fun v H1 ⟨B1,θ1,d,E,G,r,w⟩=>by cases (show d=v from r); exact ⟨B1,θ1,E,F.ext E G,w⟩⟩
theorem wpS_now {σ:St} {B:Bx} {H:Hp} {θ:Sto} {ρ:List Sl} {fl:Fl} {Dn:Ends} (F:Frm X.cl B θ ρ σ H) (h:wpS X σ B H (.ok (fl,ρ) θ) Dn):endOf Dn B σ H fl:=h B H σ (ExtS.refl B H) F
def mSkip:SM:=fun ρ θ=>.ok (.nx,ρ) θ
def thenS (r:R (Fl×List Sl)) (k:SM):R (Fl×List Sl):=r.bind fun p θ=>match p with
  | (.nx,ρ)=>k ρ θ
  | p=>.ok p θ
def mSeq (f g:SM):SM:=fun ρ θ=>thenS (f ρ θ) g
theorem mss_nil:MSs X [] mSkip:=PSs.imp pss_nil fun D σ H h=>by
  obtain ⟨B,θ,ρ,F,w⟩:=h
  exact wpS_now F w
theorem wpS.seq {σ:St} {B:Bx} {H:Hp} {r:R (Fl×List Sl)} {g:SM} {Dn:Ends} (w:wpS X σ B H (thenS r g) Dn):wpS X σ B H r { Dn with nx:=tMS X g Dn }:=by
  cases r with
  | ex c θ'=>exact w
  | bad=>exact w
  | ok p θ'=>
    obtain ⟨fl,ρ'⟩:=p
    intro B' H' σ' E F
    cases fl with
    | nx=>exact ⟨B',θ',ρ',F,wpS.trans w E⟩
    | bk=>exact w B' H' σ' E F
    | ct=>exact w B' H' σ' E F
    | rt d=>exact w B' H' σ' E F
theorem mss_cons {st:Stmt} {rest:List Stmt} {f g:SM} (h1:MS X st f) (h2:MSs X rest g):MSs X (st::rest) (mSeq f g):=PSs.imp (pss_cons h1 h2) fun D σ H h=>by
  obtain ⟨B,θ,ρ,F,w⟩:=h
  exact ⟨B,θ,ρ,F,wpS.seq w⟩
theorem mss_one {st:Stmt} {f:SM} (h1:MS X st f):MSs X [st] f:=pss_one h1
def mBad:SM:=fun _ _=>.bad
theorem ms_never {st:Stmt}:MS X st mBad:=fun _ _ _ _ _ _ h=>by obtain ⟨_,_,_,_,w⟩:=h; exact w.elim
def mExpr (f:EM):SM:=fun ρ θ=>(f ρ θ).bind fun _ θ=>.ok (.nx,ρ) θ
theorem ms_expr {e:Expr} {f:EM} {pos:Pos} (he:ME X e f) (hs:swapsWith e none pos.line X.env=pure false:=by rfl):MS X (.Expr e pos) (mExpr f):=PS.imp (ps_expr he hs) fun D σ H h=>by
  obtain ⟨B,θ,ρ,F,w⟩:=h
  refine tM_mono (stepS F w) ?_
  rintro v H1 ⟨B1,θ1,d,E1,F1,rd,w1⟩
  exact wpS_now F1 w1
def mRet (f:EM):SM:=fun ρ θ=>(f ρ θ).bind fun d θ=>.ok (.rt d,ρ) θ
theorem ms_ret {e:Expr} {f:EM} {pos:Pos} (he:ME X e f):MS X (.Return (some e) pos) (mRet f):=PS.imp (ps_ret he) fun D σ H h=>by
  obtain ⟨B,θ,ρ,F,w⟩:=h
  refine tM_mono (stepS F w) ?_
  rintro v H1 ⟨B1,θ1,d,E1,F1,rd,w1⟩
  exact wpS_now F1 w1 v rd
def mRetN:SM:=fun ρ θ=>.ok (.rt .non,ρ) θ
theorem ms_retN {pos:Pos}:MS X (.Return none pos) mRetN:=PS.imp ps_retN fun D σ H h=>by
  obtain ⟨B,θ,ρ,F,w⟩:=h
  exact wpS_now F w .non rfl
def mIf (t:TMr) (f g:SM):SM:=fun ρ θ=>(t ρ θ).bind fun k θ=>if k=true then f ρ θ else g ρ θ
theorem ms_if {c:Expr} {a b:List Stmt} {t:TMr} {f g:SM} {pos:Pos} (hc:MT X c t) (ha:MSs X a f) (hb:MSs X b g):MS X (.If c a b pos) (mIf t f g):=PS.imp (ps_if hc ha hb) fun D σ H h=>by
  obtain ⟨B,θ,ρ,F,w⟩:=h
  refine tMT_mono (stepST F w) ?_
  rintro k H1 ⟨B1,θ1,E1,F1,w1⟩
  cases k with
  | true=>rw [if_pos rfl] at w1 ⊢; exact ⟨B1,θ1,ρ,F1,w1⟩
  | false=>rw [if_neg Bool.false_ne_true] at w1 ⊢; exact ⟨B1,θ1,ρ,F1,w1⟩
theorem Frm.set {B:Bx} {θ:Sto} {ρ:List Sl} {σ:St} {H:Hp} (F:Frm X.cl B θ ρ σ H) (i:Nat) {d:D} {v:V} (r:RepV B H d v):Frm X.cl B θ (ρ.set i (.val d)) (σ.set i (some v)) H:=by
  have oth:∀(j:Nat) (s:Sl),(ρ.set i (Sl.val d))[j]?=some s→(j=i∧s=.val d∧j < σ.length)∨(j≠i∧ρ[j]?=some s):=fun j s e=>by
    by_cases q:j=i
    · subst q
      have hl:j < ρ.length:=by
        have:=(List.getElem?_eq_some_iff.mp e).1
        simpa using this
      rw [List.getElem?_set_self hl] at e
      cases e
      exact .inl ⟨rfl,rfl,by rw [←F.len]; exact hl⟩
    · rw [List.getElem?_set_ne (Ne.symm q)] at e
      exact .inr ⟨q,e⟩
  refine ⟨F.good,by simp [F.len],fun j e h=>?_,fun j xs h=>?_,fun j k xs ys a hne h1 h2 h3=>?_⟩
  · rcases oth j _ h with ⟨rfl,z,hl⟩ | ⟨q,z⟩
    · cases z; exact ⟨v,by rw [List.getElem?_set_self hl],r⟩
    · rw [List.getElem?_set_ne (Ne.symm q)]; exact F.val j e z
  · rcases oth j _ h with ⟨rfl,z,hl⟩ | ⟨q,z⟩
    · cases z
    · rw [List.getElem?_set_ne (Ne.symm q)]; exact F.own j xs z
  · rcases oth j _ h1 with ⟨_,z,_⟩ | ⟨q1,z1⟩
    · cases z
    · rcases oth k _ h2 with ⟨_,z,_⟩ | ⟨q2,z2⟩
      · cases z
      · rw [List.getElem?_set_ne (Ne.symm q1)] at h3
        rw [List.getElem?_set_ne (Ne.symm q2)]
        exact F.ne j k xs ys a hne z1 z2 h3
def mSet (i:Nat) (f:EM):SM:=fun ρ θ=>(f ρ θ).bind fun d θ=>.ok (.nx,ρ.set i (.val d)) θ
theorem ms_set (i:Nat) {x:Str} {e:Expr} {f:EM} {pos pos':Pos} (hN:X.N.Nodup) (he:ME X e f) (hi:X.N[i]?=some x:=by rfl) (hx:Loc X.env.scope x:=by first | exact Or.inl rfl | exact Or.inr rfl)
    (hs:swapsWith e (some (.Name x pos')) pos.line X.env=pure false:=by rfl) (hf:X.fn x=true∨X.env.scope.names.lookup x=some .local:=by first | exact .inl rfl | exact .inr rfl):MS X (.Assign [.Name x pos'] e pos) (mSet i f):=
  PS.imp (ps_set hN hi hx he hs hf) fun D σ H h=>by
  obtain ⟨B,θ,ρ,F,w⟩:=h
  refine tM_mono (stepS F w) ?_
  rintro v H1 ⟨B1,θ1,d,E1,F1,rd,w1⟩
  exact w1 B1 H1 _ (ExtS.refl _ _) (F1.set i rd)
theorem ms_setLc (i:Nat) {x y:Str} {px py pos spos:Pos} {iter elt:Expr} {scope:Scope} {N':List Str} {src:List Nat} {sc:Scope} {N:List Str} {fi:IM} {fe:EM} (hnd:X.N.Nodup) (S:CompScope scope sc x N N' src) (hsc:X.env.scope=sc) (hN:X.N=N) (hi:MI X (.Name x px) iter fi)
    (helt:∀(cl:List (Str×Addr)) (C:Addr) (s₀:Shared) (H₀:Hp) (fp:List Addr),ME (X.comp scope N' cl C s₀ H₀ fp) elt fe) (hi':X.N[i]?=some y:=by rfl)
    (hsw:swapsWith (.ListComp elt [⟨.Name x px,iter,[],0⟩] scope pos) (some (.Name y py)) spos.line X.env=pure true:=by rfl)
    (hy:X.env.scope.names.lookup y=some .local:=by rfl) (hcm:X.calm=true:=by rfl) (hs:∀v,foldedSetIterable iter X.env v=pure v:=by intro _; rfl) :
    MS X (.Assign [.Name y py] (.ListComp elt [⟨.Name x px,iter,[],0⟩] scope pos) spos) (mSet i (mComp fi src fe)):=
  PS.imp (ps_lc (te:=tM X fe) hnd hi' S hsc hN hi (fun cl C s₀ H₀ fp=>helt cl C s₀ H₀ fp) hsw hy hcm hs) fun D σ H h=>by
  obtain ⟨B,θ,ρ,F,w⟩:=h
  refine tM_comp σ H _ (tM_mono (stepS F w) ?_)
  rintro v H1 ⟨B1,θ1,d,E1,F1,rd,w1⟩
  exact w1 B1 H1 _ (ExtS.refl _ _) (F1.set i rd)
end
end
end L2.MM
set_option Elab.async false
set_option linter.all false
set_option maxRecDepth 100000
set_option maxHeartbeats 4000000
namespace L2.MM
open PySem PySem.Spec PyProof.Rows PySem.SeqAt
noncomputable section
variable {X:Cx}
def loopK (k:SM):Fl×List Sl→Sto→R (Fl×List Sl)
  | (.nx,ρ),θ=>k ρ θ
  | (.ct,ρ),θ=>k ρ θ
  | (.bk,ρ),θ=>.ok (.nx,ρ) θ
  | (.rt d,ρ),θ=>.ok (.rt d,ρ) θ
theorem wpS.loop {σ:St} {B:Bx} {H:Hp} {r:R (Fl×List Sl)} {k:SM} {Dn:Ends} (w:wpS X σ B H (r.bind (loopK k)) Dn) :
    wpS X σ B H r { Dn with nx:=fun σ' H'=>∃B' θ' ρ',ExtS B B' H H'∧Frm X.cl B' θ' ρ' σ' H'∧wpS X σ' B' H' (k ρ' θ') Dn,ct:=fun σ' H'=>∃B' θ' ρ',ExtS B B' H H'∧Frm X.cl B' θ' ρ' σ' H'∧wpS X σ' B' H' (k ρ' θ') Dn,bk:=Dn.nx }:=by
  cases r with
  | ex c θ'=>exact w
  | bad=>exact w
  | ok p θ'=>
    obtain ⟨fl,ρ'⟩:=p
    intro B' H' σ' E F
    cases fl with
    | nx=>exact ⟨B',θ',ρ',E,F,wpS.trans w E⟩
    | ct=>exact ⟨B',θ',ρ',E,F,wpS.trans w E⟩
    | bk=>exact w B' H' σ' E F
    | rt d=>exact w B' H' σ' E F
theorem wpS.mono {σ:St} {B:Bx} {H:Hp} {r:R (Fl×List Sl)} {D D':Ends} (w:wpS X σ B H r D) (h1:∀σ H,D.nx σ H→D'.nx σ H) (h2:∀v H,D.rt v H→D'.rt v H) (h3:∀σ H,D.bk σ H→D'.bk σ H) (h4:∀σ H,D.ct σ H→D'.ct σ H):wpS X σ B H r D':=by
  cases r with
  | ex c θ'=>exact w
  | bad=>exact w
  | ok p θ'=>
    obtain ⟨fl,ρ'⟩:=p
    intro B' H' σ' E F
    have:=w B' H' σ' E F
    cases fl with
    | nx=>exact h1 _ _ this
    | ct=>exact h4 _ _ this
    | bk=>exact h3 _ _ this
    | rt d=>exact fun v r=>h2 _ _ (this v r)
abbrev TgM:=D→List Sl→Option (List Sl)
def tMG (X:Cx) (g:TgM):TG:=fun v σ H Q=>∃B θ ρ d ρ',Frm X.cl B θ ρ σ H∧RepV B H d v∧g d ρ=some ρ'∧∀σ',Frm X.cl B θ ρ' σ' H→Q σ' H
def MG (X:Cx) (tg:Expr) (g:TgM):Prop:=PG X tg (tMG X g)
theorem PG.imp {tg:Expr} {t t':TG} (h:PG X tg t) (hi:∀v σ H Q,t' v σ H Q→t v σ H Q):PG X tg t':=fun pins s σ H v u Q I r q=>h pins s σ H v u Q I r (hi v σ H Q q)
def gNm (i:Nat):TgM:=fun d ρ=>some (ρ.set i (.val d))
theorem mg_name (i:Nat) {x:Str} {pos:Pos} (hN:X.N.Nodup) (hi:X.N[i]?=some x:=by rfl) (hx:Loc X.env.scope x:=by first | exact Or.inl rfl | exact Or.inr rfl) (hf:X.fn x=true∨X.env.scope.names.lookup x=some .local:=by first | exact .inl rfl | exact .inr rfl):MG X (.Name x pos) (gNm i):=
  PG.imp (pg_name hN hi hx hf) fun v σ H Q h=>by
  obtain ⟨B,θ,ρ,d,ρ',F,r,e,q⟩:=h
  cases e
  exact q _ (F.set i r)
open Classical in
def forL (S:Src) (all:List D) (tg:TgM) (body:SM):List D→SM
  | []=>fun ρ θ=>if S.items θ=some all then .ok (.nx,ρ) θ else .bad
  | x::r=>fun ρ θ=>if S.items θ=some all then (match tg x ρ with
    | none=>.bad
    | some ρ1=>(body ρ1 θ).bind (loopK (forL S all tg body r))) else .bad
def mFor (fi:IM) (tg:TgM) (body:SM):SM:=fun ρ θ=>(fi ρ θ).bind fun S θ=>match S.items θ with
  | some xs=>forL S xs tg body xs ρ θ
  | none=>.bad
open Classical in
theorem ms_for {tg iter:Expr} {body:List Stmt} {fi:IM} {g:TgM} {fb:SM} {pos:Pos} (hp:PassesOwn (model X.prog X.w) X.A X.env X.xe) (hi:MI X tg iter fi) (hg:MG X tg g) (hb:MSs X body fb) (hc:X.calm=true:=by rfl)
    (hs:∀x,foldedSetIterable iter X.env x=pure x:=by intro _; rfl):MS X (.For tg iter body [] pos) (mFor fi g fb):=
  PS.imp (ps_for hp hc hi hg hb hs) fun Dn σ H h=>by
  obtain ⟨B,θ,ρ,F,w⟩:=h
  refine ⟨B,θ,ρ,F,(wpS.bind (Rel:=SrcRep X.K) w).mono ?_⟩
  rintro J H1 ⟨B1,θ1,S,E1,G1,rJ,w1⟩
  split at w1
  · rename_i xs e1
    refine ⟨fun i m σ H=>∃B θ ρ,Frm X.cl B θ ρ σ H∧SrcRep X.K B H S J∧m=xs.length-i∧i≤xs.length∧wpS X σ B H (forL S xs g fb (xs.drop i) ρ θ) Dn,⟨xs.length,B1,θ1,ρ,F.ext E1 G1,rJ,rfl,Nat.zero_le _,w1⟩,?_⟩
    rintro i m σ2 H2 ⟨B2,θ2,ρ2,F2,rJ2,rfl,hi2,w2⟩
    by_cases hlt:i<xs.length
    · rw [List.drop_eq_getElem_cons hlt] at w2
      unfold forL at w2
      split at w2
      · rename_i e2
        obtain ⟨g1,g2⟩:=(src_go F2.good rJ2 e2).1 i xs[i] (List.getElem?_eq_getElem hlt)
        split at w2
        · exact w2.elim
        · rename_i ρ3 e3
          refine .inr ⟨g1,fun σ' H'=>∃B' θ' ρ',ExtS B2 B' H2 H'∧Frm X.cl B' θ' ρ' σ' H'∧wpS X σ' B' H' (forL S xs g fb (xs.drop (i+1)) ρ' θ') Dn,?_,fun x H' hy=>?_⟩
          · rintro σ' H' ⟨B',θ',ρ',E',F',w'⟩
            exact ⟨xs.length-(i+1),by omega,B',θ',ρ',F',rJ2.ext E',rfl,hlt,w'⟩
          · obtain ⟨rfl,rx⟩:=g2 x H' hy
            refine ⟨B2,θ2,ρ2,xs[i],ρ3,F2,rx,e3,fun σ' F'=>⟨B2,θ2,ρ3,F',?_⟩⟩
            have w3:=wpS.loop w2
            exact wpS.trans w3 (ExtS.refl _ _)
      · exact w2.elim
    · have e:i=xs.length:=by omega
      subst e
      rw [List.drop_length] at w2
      unfold forL at w2
      split at w2
      · rename_i e2
        exact .inl ⟨(src_go F2.good rJ2 e2).2,wpS_now F2 w2⟩
      · exact w2.elim
  · exact w1.elim
def whileL (t:TMr) (body:SM):Nat→SM
  | 0=>mBad
  | n+1=>fun ρ θ=>(t ρ θ).bind fun k θ=>if k=true then (body ρ θ).bind (loopK (whileL t body n)) else .ok (.nx,ρ) θ
theorem ms_while (n:Nat) {c:Expr} {body:List Stmt} {t:TMr} {fb:SM} {pos:Pos} (hp:PassesOwn (model X.prog X.w) X.A X.env X.xe) (hc:MT X c t) (hb:MSs X body fb):MS X (.While c body [] pos) (whileL t fb n):=
  PS.imp (ps_while hp hc hb) fun Dn σ H h=>by
  obtain ⟨B,θ,ρ,F,w⟩:=h
  refine ⟨fun m σ H=>∃B θ ρ,Frm X.cl B θ ρ σ H∧wpS X σ B H (whileL t fb m ρ θ) Dn,⟨n,B,θ,ρ,F,w⟩,?_⟩
  rintro m σ2 H2 ⟨B2,θ2,ρ2,F2,w2⟩
  cases m with
  | zero=>exact w2.elim
  | succ m=>
    refine tMT_mono (stepST F2 w2) ?_
    rintro k H3 ⟨B3,θ3,E3,F3,w3⟩
    cases k with
    | true=>
      rw [if_pos rfl] at w3 ⊢
      refine ⟨_,?_,⟨B3,θ3,ρ2,F3,wpS.loop w3⟩⟩
      rintro σ' H' ⟨B',θ',ρ',E',F',w'⟩
      exact ⟨m,Nat.lt_succ_self _,B',θ',ρ',F',w'⟩
    | false=>
      rw [if_neg Bool.false_ne_true] at w3 ⊢
      exact wpS_now F3 w3
theorem Frm.setOwn {cl:Mo} {B:Bx} {θ:Sto} {ρ:List Sl} {σ:St} {H:Hp} (F:Frm cl B θ ρ σ H) (i:Nat) {p:Addr} (hp:H p=none) {xs:List D} {vs:List V} (r:RepL B H xs vs) :
    ExtS B { B with os:=p::B.os } H (upd H p (.lst vs))∧Frm cl { B with os:=p::B.os } θ (ρ.set i (.own xs)) (σ.set i (some (.ref p))) (upd H p (.lst vs)):=by
  have E0:=ext_new F.good hp (.lst vs)
  have G0:=good_new F.good hp (.lst vs)
  have ok:=F.good.okNone hp
  have E:ExtS B { B with os:=p::B.os } H (upd H p (.lst vs)):=⟨E0.n,E0.m,E0.fr,E0.keep,E0.sm,fun a h=>by
    rcases List.mem_cons.mp h with rfl | h
    · exact .inr hp
    · exact .inl h,rfl,rfl⟩
  refine ⟨E,?_⟩
  have E1:ExtS B { B with os:=p::B.os } H (upd H p (.lst vs)):=E
  have G:Good cl { B with os:=p::B.os } θ (upd H p (.lst vs)):=⟨G0.len,G0.inj,fun j c e=>(F.good.cel j c e).ext E fun u q=>by rw [upd_ne (ne_of_none q hp)]; exact q,fun j hj=>⟨(G0.cF j hj).1,fun z=>by
      rcases List.mem_cons.mp z with z | z
      · exact ok.1 j hj z
      · exact (G0.cF j hj).2 z⟩,G0.Fs,fun a z=>by
      rcases List.mem_cons.mp z with rfl | z
      · rw [upd_same]; simp
      · exact G0.oS a z,fun a z=>by
      rcases List.mem_cons.mp z with rfl | z
      · exact ok.2.1
      · exact G0.oF a z,G0.kc⟩
  have oth:∀(j:Nat) (s:Sl),(ρ.set i (Sl.own xs))[j]?=some s→(j=i∧s=.own xs∧j < σ.length)∨(j≠i∧ρ[j]?=some s):=fun j s e=>by
    by_cases q:j=i
    · subst q
      have hl:j < ρ.length:=by
        have:=(List.getElem?_eq_some_iff.mp e).1
        simpa using this
      rw [List.getElem?_set_self hl] at e
      cases e
      exact .inl ⟨rfl,rfl,by rw [←F.len]; exact hl⟩
    · rw [List.getElem?_set_ne (Ne.symm q)] at e
      exact .inr ⟨q,e⟩
  have old:∀j ys,ρ[j]?=some (Sl.own ys)→∀a,σ[j]?=some (some (V.ref a))→a≠p:=fun j ys h a e z=>by
    obtain ⟨a',us,q1,q2,q3,q4⟩:=F.own j ys h
    rw [e] at q1
    cases q1
    rw [z,hp] at q3
    cases q3
  refine ⟨G,by simp [F.len],fun j d h=>?_,fun j ys h=>?_,fun j k ys zs a hne h1 h2 h3=>?_⟩
  · rcases oth j _ h with ⟨_,z,_⟩ | ⟨q,z⟩
    · cases z
    · rw [List.getElem?_set_ne (Ne.symm q)]
      obtain ⟨v,q1,q2⟩:=F.val j d z
      exact ⟨v,q1,q2.ext E⟩
  · rcases oth j _ h with ⟨rfl,z,hl⟩ | ⟨q,z⟩
    · cases z
      exact ⟨p,vs,by rw [List.getElem?_set_self hl],List.mem_cons_self,upd_same,r.ext E⟩
    · rw [List.getElem?_set_ne (Ne.symm q)]
      obtain ⟨a,us,q1,q2,q3,q4⟩:=F.own j ys z
      exact ⟨a,us,q1,List.mem_cons_of_mem _ q2,by rw [upd_ne (ne_of_none q3 hp)]; exact q3,q4.ext E⟩
  · rcases oth j _ h1 with ⟨rfl,z1,hl⟩ | ⟨q1,z1⟩
    · rcases oth k _ h2 with ⟨rfl,z2,_⟩ | ⟨q2,z2⟩
      · exact absurd rfl hne
      · rw [List.getElem?_set_self hl] at h3
        cases h3
        rw [List.getElem?_set_ne (Ne.symm q2)]
        exact fun z=>old k zs z2 _ z rfl
    · rw [List.getElem?_set_ne (Ne.symm q1)] at h3
      rcases oth k _ h2 with ⟨rfl,z2,hl⟩ | ⟨q2,z2⟩
      · rw [List.getElem?_set_self hl]
        intro z
        cases z
        exact old j ys z1 _ h3 rfl
      · rw [List.getElem?_set_ne (Ne.symm q2)]
        exact F.ne j k ys zs a hne z1 z2 h3
def mSetOwn (i:Nat) (f:AM):SM:=fun ρ θ=>(f ρ θ).bind fun xs θ=>if xs.length≤BIG then .ok (.nx,ρ.set i (.own xs)) θ else .bad
theorem stepSA {σ:St} {H:Hp} {B:Bx} {θ:Sto} {ρ:List Sl} {f:AM} {k:List D→Sto→R (Fl×List Sl)} {Dn:Ends} (F:Frm X.cl B θ ρ σ H) (h:wpS X σ B H ((f ρ θ).bind k) Dn) :
    tMA X f σ H (fun v H1=>∃B1 θ1 d,ExtE B B1 H H1∧Frm X.cl B1 θ1 ρ σ H1∧RepL B1 H1 d v∧wpS X σ B1 H1 (k d θ1) Dn):=
  ⟨B,θ,ρ,F,(wpS.bind (Rel:=RepL) h).mono fun v H1 ⟨B1,θ1,d,E,G,r,w⟩=>⟨B1,θ1,d,E,F.ext E G,r,w⟩⟩
theorem ms_setOwn (i:Nat) {x:Str} {es:List Expr} {f:AM} {pos pos' lpos:Pos} (hN:X.N.Nodup) (he:MA X es f) (hi:X.N[i]?=some x:=by rfl) (hx:Loc X.env.scope x:=by first | exact Or.inl rfl | exact Or.inr rfl)
    (hs:swapsWith (.List es lpos) (some (.Name x pos')) pos.line X.env=pure false:=by rfl) (hf:X.fn x=true∨X.env.scope.names.lookup x=some .local:=by first | exact .inl rfl | exact .inr rfl):MS X (.Assign [.Name x pos'] (.List es lpos) pos) (mSetOwn i f):=
  PS.imp (ps_set hN hi hx (pe_lst he) hs hf) fun D σ H h=>by
  obtain ⟨B,θ,ρ,F,w⟩:=h
  refine tMA_mono (stepSA F w) ?_
  rintro vs H1 ⟨B1,θ1,xs,E1,F1,rd,w1⟩
  split at w1
  · rename_i hz
    refine ⟨by rw [rd.len]; exact big_size hz,fun p hp=>?_⟩
    obtain ⟨E2,F2⟩:=F1.setOwn i hp rd
    exact w1 _ _ _ E2 F2
  · exact w1.elim
theorem Frm.updOwn {cl:Mo} {B:Bx} {θ:Sto} {ρ:List Sl} {σ:St} {H:Hp} (F:Frm cl B θ ρ σ H) {i:Nat} {xs ys:List D} {us:List V} {a:Addr} (h:ρ[i]?=some (Sl.own xs)) (ha:σ[i]?=some (some (.ref a))) (r:RepL B H ys us) :
    ExtS B B H (upd H a (.lst us))∧Frm cl B θ (ρ.set i (.own ys)) σ (upd H a (.lst us)):=by
  obtain ⟨a',vs,q1,q2,q3,q4⟩:=F.own i xs h
  rw [ha] at q1
  cases q1
  have hc:∀j,j<B.n→B.m j≠a:=fun j hj z=>(F.good.cF j hj).2 (by rw [z]; exact q2)
  have E:ExtS B B H (upd H a (.lst us)):=⟨Nat.le_refl _,fun _ _=>rfl,fun i h h'=>absurd h' (Nat.not_lt.mpr h),fun b o e _ hb=>by rw [upd_ne (fun z=>hb (by rw [z]; exact q2))]; exact e,fun b e=>by
    by_cases q:b=a
    · rw [q,upd_same]; simp
    · rw [upd_ne q]; exact e,fun _ h=>.inl h,rfl,rfl⟩
  have hl:i < ρ.length:=(List.getElem?_eq_some_iff.mp h).1
  have oth:∀(j:Nat) (s:Sl),(ρ.set i (Sl.own ys))[j]?=some s→(j=i∧s=.own ys)∨(j≠i∧ρ[j]?=some s):=fun j s e=>by
    by_cases q:j=i
    · subst q
      rw [List.getElem?_set_self hl] at e
      cases e
      exact .inl ⟨rfl,rfl⟩
    · rw [List.getElem?_set_ne (Ne.symm q)] at e
      exact .inr ⟨q,e⟩
  refine ⟨E,⟨⟨F.good.len,F.good.inj,fun j c e=>(F.good.cel j c e).ext E fun u q=>by
      have hj:j<B.n:=by rw [←F.good.len]; exact (List.getElem?_eq_some_iff.mp e).1
      rw [upd_ne (hc j hj)]; exact q,F.good.cF,fun b z=>E.sm b (F.good.Fs b z),fun b z=>E.sm b (F.good.oS b z),F.good.oF,F.good.kc⟩,by simp [F.len],fun j d e=>?_,fun j zs e=>?_,fun j k zs ws b hne h1 h2 h3=>?_⟩⟩
  · rcases oth j _ e with ⟨_,z⟩ | ⟨_,z⟩
    · cases z
    · obtain ⟨v,p1,p2⟩:=F.val j d z
      exact ⟨v,p1,p2.ext E⟩
  · rcases oth j _ e with ⟨rfl,z⟩ | ⟨q,z⟩
    · cases z
      exact ⟨a,us,ha,q2,upd_same,r.ext E⟩
    · obtain ⟨b,ws,p1,p2,p3,p4⟩:=F.own j zs z
      refine ⟨b,ws,p1,p2,?_,p4.ext E⟩
      rw [upd_ne (fun z'=>F.ne i j xs zs a (Ne.symm q) h z ha (by rw [←z']; exact p1))]
      exact p3
  · have o1:∃zs',ρ[j]?=some (Sl.own zs'):=by
      rcases oth j _ h1 with ⟨rfl,_⟩ | ⟨_,z⟩
      · exact ⟨xs,h⟩
      · exact ⟨_,z⟩
    have o2:∃ws',ρ[k]?=some (Sl.own ws'):=by
      rcases oth k _ h2 with ⟨rfl,_⟩ | ⟨_,z⟩
      · exact ⟨xs,h⟩
      · exact ⟨_,z⟩
    obtain ⟨zs',o1⟩:=o1
    obtain ⟨ws',o2⟩:=o2
    exact F.ne j k zs' ws' b hne o1 o2 h3
def mAppend (i:Nat) (f:EM):SM:=fun ρ θ=>(f ρ θ).bind fun d θ=>match ρ[i]? with
  | some (Sl.own xs)=>if xs.length<BIG then .ok (.nx,ρ.set i (.own (xs++[d]))) θ else .bad
  | _=>.bad
theorem ms_append (i:Nat) {x:Str} {e:Expr} {f:EM} {p apos pos pos':Pos} (he:ME X e f) (hN:X.N[i]?=some x:=by rfl) (hv:Vis X.env.scope x:=by first | exact Or.inl rfl | exact Or.inr (Or.inl rfl) | exact Or.inr (Or.inr rfl))
    (hd:(x == ("__debug__":Str))=false:=by decide) (hcd:(x == ("__classdict__":Str))=false:=by decide)
    (hpe:∀{to:TE},PE X (.Name x p) to→PE X (.Call (.Attribute (.Name x p) "append" apos) [e] [] pos) (tBM X.K "list" rAppend to (tCons (tM X f) tNil)))
    (hs:swapsWith (.Call (.Attribute (.Name x p) "append" apos) [e] [] pos) none pos'.line X.env=pure false:=by rfl):MS X (.Expr (.Call (.Attribute (.Name x p) "append" apos) [e] [] pos) pos') (mAppend i f):=
  PS.imp (ps_expr (hpe (pe_var hN hv hd hcd)) hs) fun D σ H h=>by
  obtain ⟨B,θ,ρ,F,w⟩:=h
  have own:∃xs,ρ[i]?=some (Sl.own xs):=by
    unfold mAppend at w
    cases q:f ρ θ with
    | bad=>rw [q] at w; exact w.elim
    | ex c θ'=>rw [q] at w; exact False.elim w
    | ok d θ'=>
      rw [q] at w
      simp only [R.bind_ok] at w
      split at w
      · rename_i xs e; exact ⟨xs,e⟩
      · exact w.elim
  obtain ⟨xs,hx⟩:=own
  obtain ⟨a,vs,q1,q2,q3,q4⟩:=F.own i xs hx
  refine ⟨.ref a,q1,.inl ⟨rfl,vs,SqL.of q3⟩,?_⟩
  refine tM_mono (stepS F w) ?_
  rintro y H1 ⟨B1,θ1,d,E1,F1,rd,w1⟩
  rw [hx] at w1
  simp only at w1
  split at w1
  · rename_i hz
    obtain ⟨a',us,p1,p2,p3,p4⟩:=F1.own i xs hx
    rw [q1] at p1
    cases p1
    refine ⟨a,us,y,rfl,rfl,p3,by rw [p4.len]; exact Nat.lt_of_lt_of_le hz (big_size (Nat.le_refl _)),?_⟩
    obtain ⟨E2,F2⟩:=F1.updOwn hx q1 (p4.app (show RepL B1 H1 [d] [y] from ⟨y,[],rfl,rd,rfl⟩))
    exact w1 _ _ _ E2 F2
  · exact w1.elim
def mFreeze (i:Nat) (f:SM):SM:=fun ρ θ=>match ρ[i]? with
  | some (Sl.own xs)=>f (ρ.set i (.val (.lst xs))) θ
  | _=>f ρ θ
theorem tMS_freeze {i:Nat} {f:SM} {D:Ends} {σ:St} {H:Hp} (h:tMS X (mFreeze i f) D σ H):tMS X f D σ H:=by
  obtain ⟨B,θ,ρ,F,w⟩:=h
  unfold mFreeze at w
  split at w
  · rename_i xs hx
    obtain ⟨a,vs,q1,q2,q3,q4⟩:=F.own i xs hx
    let B':Bx:={ B with os:=B.os.filter fun b=>decide (b≠a) }
    have sub:∀b,b∈B'.os→b∈B.os∧b≠a:=fun b hb=>by
      have:=List.mem_filter.mp hb
      exact ⟨this.1,of_decide_eq_true this.2⟩
    have E:ExtS B B' H H:=⟨Nat.le_refl _,fun _ _=>rfl,fun i h h'=>absurd h' (Nat.not_lt.mpr h),fun _ _ e _ _=>e,fun _ e=>e,fun b hb=>.inl (sub b hb).1,rfl,rfl⟩
    have hc:∀j,j<B.n→B.m j≠a:=fun j hj z=>(F.good.cF j hj).2 (by rw [z]; exact q2)
    have G:Good X.cl B' θ H:=⟨F.good.len,F.good.inj,fun j c e=>(F.good.cel j c e).ext E fun _ q=>q,fun j hj=>⟨(F.good.cF j hj).1,fun z=>(F.good.cF j hj).2 (sub _ z).1⟩,F.good.Fs,fun b z=>F.good.oS b (sub b z).1,fun b z=>F.good.oF b (sub b z).1,F.good.kc⟩
    have rv:RepV B' H (.lst xs) (.ref a):=⟨a,vs,rfl,q3,⟨hc,F.good.oF a q2,fun z=>(sub a z).2 rfl⟩,q4.ext E⟩
    have hl:i < ρ.length:=(List.getElem?_eq_some_iff.mp hx).1
    have oth:∀(j:Nat) (s:Sl),(ρ.set i (Sl.val (.lst xs)))[j]?=some s→(j=i∧s=.val (.lst xs))∨(j≠i∧ρ[j]?=some s):=fun j s e=>by
      by_cases q:j=i
      · subst q
        rw [List.getElem?_set_self hl] at e
        cases e
        exact .inl ⟨rfl,rfl⟩
      · rw [List.getElem?_set_ne (Ne.symm q)] at e
        exact .inr ⟨q,e⟩
    refine ⟨B',θ,_,⟨G,by simp [F.len],fun j d e=>?_,fun j ys e=>?_,fun j k ys zs b hne h1 h2 h3=>?_⟩,wpS.trans w E⟩
    · rcases oth j _ e with ⟨rfl,z⟩ | ⟨_,z⟩
      · cases z; exact ⟨_,q1,rv⟩
      · obtain ⟨v,p1,p2⟩:=F.val j d z
        exact ⟨v,p1,p2.ext E⟩
    · rcases oth j _ e with ⟨_,z⟩ | ⟨q,z⟩
      · cases z
      · obtain ⟨b,ws,p1,p2,p3,p4⟩:=F.own j ys z
        refine ⟨b,ws,p1,List.mem_filter.mpr ⟨p2,decide_eq_true fun z'=>?_⟩,p3,p4.ext E⟩
        subst z'
        exact F.ne i j xs ys b (Ne.symm q) hx z q1 p1
    · rcases oth j _ h1 with ⟨_,z⟩ | ⟨_,z1⟩
      · cases z
      · rcases oth k _ h2 with ⟨_,z⟩ | ⟨_,z2⟩
        · cases z
        · exact F.ne j k ys zs b hne z1 z2 h3
  · exact ⟨B,θ,ρ,F,w⟩
theorem ms_freeze (i:Nat) {st:Stmt} {f:SM} (h:MS X st f):MS X st (mFreeze i f):=PS.imp h fun _ _ _ q=>tMS_freeze q
def startS (n:Nat) (ds:List D):List Sl:=ds.map Sl.val++List.replicate (n-ds.length) Sl.no
def mDef (np nn:Nat) (fb:SM):GM:=fun ds θ=>if ds.length=np then (fb (startS nn ds) θ).bind fun p θ=>match p.1 with
  | .nx=>.ok .non θ
  | .rt d=>.ok d θ
  | _=>.bad
  else .bad
def spM (X:Mo) (f:GM):Sp:=fun vs H Q E=>∃B θ ds,B.os=[]∧Good X B θ H∧RepL B H ds vs∧(match f ds θ with
  | .ok d θ'=>∀B' H' v,ExtE B B' H H'→Good X B' θ' H'→RepV B' H' d v→Q v H'
  | .ex c θ'=>False
  | .bad=>False)
def MDef (P:Program) (w:World) (K:PySem.W.Frag) (mg:Str→Option Value) (base:Heap) (k:Nat) (x:Str) (f:GM):Prop:=∃ps,Def P w K mg base k x ps (spM ⟨clOf mg,K⟩ f)
theorem MDef.mono {P:Program} {w:World} {K:PySem.W.Frag} {mg:Str→Option Value} {base:Heap} {x:Str} {f:GM} {j k:Nat} (D:MDef P w K mg base j x f) (h:j≤k):MDef P w K mg base k x f:=let ⟨ps,q⟩:=D; ⟨ps,q.mono h⟩
theorem start_frm {cl:Mo} {B:Bx} {θ:Sto} {H:Hp} {ds:List D} {vs:List V} {N:List Str} {nn:Nat} (G:Good cl B θ H) (r:RepL B H ds vs) (hn:N.length=nn):Frm cl B θ (startS nn ds) (start N vs) H:=by
  subst hn
  have hl:=r.len
  have key:∀(i:Nat) (s:Sl),(startS N.length ds)[i]?=some s→s=.no∨∃d,s=.val d∧∃v,(start N vs)[i]?=some (some v)∧RepV B H d v:=fun i s e=>by
    unfold startS at e
    by_cases q:i<ds.length
    · rw [List.getElem?_append_left (by simpa using q),List.getElem?_map,List.getElem?_eq_getElem q] at e
      cases e
      obtain ⟨v,h1,h2⟩:=r.get (List.getElem?_eq_getElem q)
      refine .inr ⟨_,rfl,v,?_,h2⟩
      unfold start
      rw [List.getElem?_append_left (by simpa [hl] using q),List.getElem?_map,h1]
      rfl
    · rw [List.getElem?_append_right (by simpa using q)] at e
      exact .inl (List.eq_of_mem_replicate (List.mem_of_getElem? e))
  refine ⟨G,by simp [startS,start,hl],fun i d e=>?_,fun i xs e=>?_,fun i j xs ys a _ e _=>?_⟩
  · rcases key i _ e with z | ⟨d',z,v',h1,h2⟩
    · cases z
    · cases z; exact ⟨v',h1,h2⟩
  · rcases key i _ e with z | ⟨d',z,_⟩<;>cases z
  · rcases key i _ e with z | ⟨d',z,_⟩<;>cases z
theorem mfn {P:Program} {w:World} {K:PySem.W.Frag} {mg:Str→Option Value} {base:Heap} {x qual:Str} {st:Stmt} {N ps:List Str} {k:Nat} {fb:SM} {f:Addr} {fd:FuncData} (F:Fun K x qual st f fd) (S:FnScope N ps (defScope st)) (np nn:Nat) (hp:ps.length=np) (hn:N.length=nn)
    (hbody:∀(cdv:Value) (A:Around) (outer:List Env) (s:Shared) (H:Hp) (E:XK),Room k (A.deeper (envOfC qual (defScope st) s.heap.objs.size f cdv))→MSs (cxOf CX0 P w K mg base N qual (defScope st) f cdv A outer s H E).nox (defBody st) fb) :
    FnOk P w K mg base CX0 (k+1) f fd ps (spM ⟨clOf mg,K⟩ (mDef np nn fb)):=by
  refine F.ok S ?_ ?_
  · rintro vs H Q E ⟨B,θ,ds,_,_,r,q⟩
    unfold mDef at q
    split at q
    · rename_i h
      split at h
      · rename_i hl; rw [r.len,hl,hp]
      · cases h
    · exact q.elim
    · exact q.elim
  · intro cdv A outer s H vs Q E hr h
    obtain ⟨B,θ,ds,hos,G,r,q⟩:=h
    refine ⟨tMS (cxOf CX0 P w K mg base N qual (defScope st) f cdv A outer s H E).nox fb,hbody cdv A outer s H E hr,B,θ,startS nn ds,start_frm G r hn,?_⟩
    unfold mDef at q
    by_cases hl:ds.length=np
    · rw [if_pos hl] at q
      cases e:fb (startS nn ds) θ with
      | bad=>rw [e] at q; exact q.elim
      | ex c θ'=>rw [e] at q; exact q.elim
      | ok p θ'=>
        rw [e] at q
        obtain ⟨fl,ρ'⟩:=p
        intro B' H' σ' E' F'
        have hos':∀a,a∈B.os→False:=fun a ha=>by rw [hos] at ha; cases ha
        let B2:Bx:={ B' with os:=[] }
        have E2:ExtE B B2 H H':=⟨⟨E'.n,E'.m,E'.fr,E'.keep,E'.sm,fun a ha=>(nomatch ha),E'.F,E'.ks⟩,hos.symm,fun a o ha=>(hos' a ha).elim⟩
        have E3:ExtS B' B2 H' H':=⟨Nat.le_refl _,fun _ _=>rfl,fun i h h'=>absurd h' (Nat.not_lt.mpr h),fun _ _ e _ _=>e,fun _ e=>e,fun b hb=>(nomatch hb),rfl,rfl⟩
        have G2:Good ⟨clOf mg,K⟩ B2 θ' H':=⟨F'.good.len,F'.good.inj,fun j c e=>(F'.good.cel j c e).ext E3 fun _ q=>q,fun j hj=>⟨(F'.good.cF j hj).1,fun z=>nomatch z⟩,F'.good.Fs,fun b z=>(nomatch z),fun b z=>(nomatch z),F'.good.kc⟩
        cases fl with
        | nx=>exact q B2 H' .non E2 G2 rfl
        | rt d=>exact fun v rv=>q B2 H' v E2 G2 (rv.ext E3)
        | bk=>exact q.elim
        | ct=>exact q.elim
    · rw [if_neg hl] at q
      exact q.elim
theorem mdef {P:Program} {w:World} {K:PySem.W.Frag} {mg:Str→Option Value} {base:Heap} {x:Str} {st:Stmt} {N ps:List Str} {k:Nat} {fb:SM} (D0:Def0 K mg x st ps) (S:FnScope N ps (defScope st)) (np nn:Nat) (hp:ps.length=np) (hn:N.length=nn)
    (hbody:∀(f:Addr) (cdv:Value) (A:Around) (outer:List Env) (s:Shared) (H:Hp) (E:XK),Room k (A.deeper (envOfC x (defScope st) s.heap.objs.size f cdv))→MSs (cxOf CX0 P w K mg base N x (defScope st) f cdv A outer s H E).nox (defBody st) fb):MDef P w K mg base (k+1) x (mDef np nn fb):=by
  obtain ⟨f,fd,F,b,m⟩:=D0
  exact ⟨ps,f,fd,mfn F S np nn hp hn (hbody f),b,F.kp,m⟩
def Bx.inC (B:Bx):Bx:={ B with F:=fun a=>B.F a∨a∈B.os,os:=[] }
theorem inC_ok {B:Bx} {a:Addr}:B.inC.ok a↔B.ok a:=by
  constructor
  · rintro ⟨h1,h2,h3⟩
    exact ⟨h1,fun z=>h2 (.inl z),fun z=>h2 (.inr z)⟩
  · rintro ⟨h1,h2,h3⟩
    exact ⟨h1,fun z=>z.elim h2 h3,fun z=>nomatch z⟩
mutual
theorem RepV.same {B B':Bx} {H:Hp} (hn:B'.n=B.n) (hm:B'.m=B.m) (hk:B'.ks=B.ks) (ho:∀a,B.ok a→B'.ok a):∀{d:D} {v:V},RepV B H d v→RepV B' H d v
  | .non,_,h=>h
  | .bl _,_,h=>h
  | .int _,_,h=>h
  | .str _,_,h=>h
  | .ty _,_,h=>h
  | .scr _,_,h=>by
    obtain ⟨a,e,h⟩:=h
    refine ⟨a,e,?_⟩
    rcases h with ⟨o,h,k⟩ | h
    · exact .inl ⟨o,h,ho a k⟩
    · exact .inr (by rw [hk]; exact h)
  | .tup _,_,h=>by obtain ⟨a,vs,e,h,k,l⟩:=h; exact ⟨a,vs,e,h,ho a k,RepL.same hn hm hk ho l⟩
  | .lst _,_,h=>by obtain ⟨a,vs,e,h,k,l⟩:=h; exact ⟨a,vs,e,h,ho a k,RepL.same hn hm hk ho l⟩
  | .ref l,_,h=>⟨by rw [hn]; exact h.1,by rw [hm]; exact h.2⟩
theorem RepL.same {B B':Bx} {H:Hp} (hn:B'.n=B.n) (hm:B'.m=B.m) (hk:B'.ks=B.ks) (ho:∀a,B.ok a→B'.ok a):∀{ds:List D} {vs:List V},RepL B H ds vs→RepL B' H ds vs
  | [],_,h=>h
  | _::_,_,h=>by obtain ⟨v,r,e,hv,hr⟩:=h; exact ⟨v,r,e,RepV.same hn hm hk ho hv,RepL.same hn hm hk ho hr⟩
end
theorem RepKV.same {κ:Type} {B B':Bx} {H:Hp} (hn:B'.n=B.n) (hm:B'.m=B.m) (hk:B'.ks=B.ks) (ho:∀a,B.ok a→B'.ok a):∀{ks:List (κ×D)} {vs:List (κ×V)},RepKV B H ks vs→RepKV B' H ks vs
  | _,_,.nil=>.nil
  | _,_,.cons h t=>.cons ⟨h.1,RepV.same hn hm hk ho h.2⟩ (RepKV.same hn hm hk ho t)
theorem CellOk.same {cl:Mo} {B B':Bx} {H:Hp} {a:Addr} {c:Cell} (hn:B'.n=B.n) (hm:B'.m=B.m) (hk:B'.ks=B.ks) (ho:∀a,B.ok a→B'.ok a) (k:CellOk cl B H a c):CellOk cl B' H a c:=by
  cases c with
  | lst xs=>obtain ⟨vs,e,r⟩:=k; exact ⟨vs,e,r.same hn hm hk ho⟩
  | dK kvs=>obtain ⟨vs,e,r⟩:=k; exact ⟨vs,e,r.same hn hm hk ho⟩
  | dT kvs=>obtain ⟨vs,e,r⟩:=k; exact ⟨vs,e,r.same hn hm hk ho⟩
  | ins C fs=>obtain ⟨dx,vs,e,r⟩:=k; exact ⟨dx,vs,e,r.same hn hm hk ho⟩
theorem good_inC {cl:Mo} {B:Bx} {θ:Sto} {H:Hp} (G:Good cl B θ H):Good cl B.inC θ H:=
  ⟨G.len,G.inj,fun i c e=>CellOk.same (B:=B) (B':=B.inC) rfl rfl rfl (fun a=>inC_ok.mpr) (G.cel i c e),fun i hi=>⟨fun z=>z.elim (G.cF i hi).1 (G.cF i hi).2,fun z=>nomatch z⟩,fun a z=>z.elim (G.Fs a) (G.oS a),fun a z=>(nomatch z),fun a z=>(nomatch z),G.kc⟩
theorem out_C {cl:Mo} {B B':Bx} {θ θ':Sto} {H H':Hp} (G:Good cl B θ H) (E:ExtE B.inC B' H H') (G':Good cl B' θ' H') :
    ExtE B { B' with F:=B.F,os:=B.os } H H'∧Good cl { B' with F:=B.F,os:=B.os } θ' H'∧∀d v,RepV B' H' d v→RepV { B' with F:=B.F,os:=B.os } H' d v:=by
  have hF:B'.F=fun a=>B.F a∨a∈B.os:=E.F
  have ho:∀a,B'.ok a→Bx.ok { B' with F:=B.F,os:=B.os } a:=fun a ⟨h1,h2,h3⟩=>by
    rw [hF] at h2
    exact ⟨h1,fun z=>h2 (.inl z),fun z=>h2 (.inr z)⟩
  have keep:∀a o,H a=some o→(∀i,i<B.n→B.m i≠a)→H' a=some o:=fun a o h k=>E.keep a o h k (fun z=>nomatch z)
  refine ⟨⟨⟨E.n,E.m,E.fr,fun a o h k _=>keep a o h k,E.sm,fun a h=>.inl h,rfl,E.ks⟩,rfl,fun a o _ k h=>keep a o h k⟩,⟨G'.len,G'.inj,fun i c e=>CellOk.same (B:=B') (B':={ B' with F:=B.F,os:=B.os }) rfl rfl rfl ho (G'.cel i c e),fun i hi=>?_,fun a z=>E.sm a (G.Fs a z),fun a z=>E.sm a (G.oS a z),G.oF,G'.kc⟩,fun d v r=>RepV.same (B:=B') (B':={ B' with F:=B.F,os:=B.os }) rfl rfl rfl ho r⟩
  have:=(G'.cF i hi).1
  rw [hF] at this
  exact ⟨fun z=>this (.inl z),fun z=>this (.inr z)⟩
theorem call_sp {f:GM} {σ:St} {B:Bx} {θ:Sto} {H:Hp} {ds:List D} {vs:List V} {Q:VK} {E:XK} (G:Good X.cl B θ H) (r:RepL B H ds vs) (w:wpR X σ RepV B H (f ds θ) Q):spM X.cl f vs H Q E:=by
  refine ⟨B.inC,θ,ds,rfl,good_inC G,RepL.same (B:=B) (B':=B.inC) rfl rfl rfl (fun a=>inC_ok.mpr) r,?_⟩
  cases e:f ds θ with
  | bad=>rw [e] at w; exact w
  | ex c θ'=>rw [e] at w; exact w
  | ok d θ'=>
    rw [e] at w
    intro B' H' v E' G' rv
    obtain ⟨h1,h2,h3⟩:=out_C G E' G'
    exact w _ H' v h1 h2 (h3 d v rv)
theorem me_call {k j:Nat} {x:Str} {f:GM} {p pos:Pos} {e:Expr} {es:List Expr} {fs:AM} (D0:MDef X.prog X.w X.K X.mg X.base k x f) (hr:Room j X.A) (hj:k≤j) (ha:MA X (e::es) fs) (hg:Gl X x:=by rfl) (hdb:(x == ("__debug__":Str))=false:=by decide)
    (he:starEach (e::es) X.env=(false,eval e X.env)::starEach es X.env:=by rfl) (hpl:(backTo pos (starEach es X.env)).any (·.1)=false:=by rfl):ME X (.Call (.Name x p) (e::es) [] pos) (mCB f fs):=by
  obtain ⟨ps,D0⟩:=D0
  refine PE.imp (pe_callD D0 hr hj ha hg hdb he hpl) fun σ H Q h=>?_
  obtain ⟨B,θ,ρ,F,w⟩:=h
  refine tMA_mono (stepA F w) ?_
  rintro vs H1 ⟨B1,θ1,ds,E1,F1,rd,w1⟩
  rw [List.append_nil]
  exact call_sp F1.good rd w1
end
end L2.MM
set_option Elab.async false
set_option linter.all false
set_option maxRecDepth 100000
set_option maxHeartbeats 4000000
namespace L2.MM
open PySem PySem.Spec PyProof.Rows PySem.SeqAt
noncomputable section
def spLaw (K:PySem.W.Frag):Sp:=fun vs H Q _=>∃(a:Addr) (ns:List Int),vs=[.ref a]∧Only H∧SqL K H a (ns.map V.int)∧ns.length≤63∧∀H',Q (.bl true) H'
theorem law_imp {P:Program} {w:World} {K:PySem.W.Frag} {mg:Str→Option Value} {base:Heap} {k:Nat} {f:Addr} {fd:FuncData} {ps:List Str} {g:GM} (h:∀ns:List Int,ns.length≤63→∃θ',g [.scr ns] []=.ok (.bl true) θ')
    (F:FnOk P w K mg base CX0 k f fd ps (spM ⟨clOf mg,K⟩ g)):FnOk P w K mg base CX0 k f fd ps (spLaw K):=by
  refine F.imp ?_
  rintro vs H Q E ⟨a,ns,rfl,hO,hS,hl,q⟩
  obtain ⟨θ',e⟩:=h ns hl
  refine ⟨⟨0,fun _=>0,fun _=>False,[],KL K⟩,[],[.scr ns],rfl,⟨rfl,fun i j hi=>absurd hi (Nat.not_lt_zero _),fun i c h=>by simp at h,fun i hi=>absurd hi (Nat.not_lt_zero _),fun a h=>h.elim,fun a h=>(nomatch h),fun a h=>(nomatch h),fun a ns h=>h⟩,?_,?_⟩
  · refine ⟨.ref a,[],rfl,⟨a,rfl,?_⟩,rfl⟩
    rcases hS with (h1 | ⟨o,h1⟩) | h1
    · rcases hO a with z | ⟨o,xs,z⟩
      · rw [z] at h1; cases h1
      · rw [z] at h1; cases h1
    · exact .inl ⟨o,h1,fun i hi=>absurd hi (Nat.not_lt_zero _),fun z=>z,fun z=>(nomatch z)⟩
    · exact .inr h1
  · rw [e]
    intro B' H' v _ _ rv
    cases (show v=V.bl true from rv)
    exact q H'
end
end L2.MM
set_option Elab.async false
set_option linter.all false
set_option maxRecDepth 100000
set_option maxHeartbeats 4000000
namespace L2.MM
open PySem PySem.Spec PyProof.Rows PySem.SeqAt
noncomputable section
section
variable {i j k:Nat} {ρ:List Sl} {θ:Sto} {f g h:EM} {fs:AM} {t u:TMr}
@[simp] theorem x_var:mVar i ρ θ=match ρ[i]? with | some (Sl.val d)=>.ok d θ | _=>.bad:=nr rfl
@[simp] theorem x_c {d:D}:mC d ρ θ=.ok d θ:=nr rfl
@[simp] theorem x_op {o:OM}:mOp o f g ρ θ=(f ρ θ).bind fun x θ=>(g ρ θ).bind fun y θ=>o x y θ:=nr rfl
@[simp] theorem x_test:mTest f ρ θ=(f ρ θ).bind fun x θ=>match x with | .bl k=>.ok k θ | _=>.bad:=nr rfl
@[simp] theorem x_tru:mTru f ρ θ=(f ρ θ).bind fun x θ=>match truD θ x with | some k=>.ok k θ | none=>.bad:=nr rfl
@[simp] theorem x_and:mAnd t u ρ θ=(t ρ θ).bind fun k θ=>if k=true then u ρ θ else .ok false θ:=nr rfl
@[simp] theorem x_or:mOr t u ρ θ=(t ρ θ).bind fun k θ=>if k=true then .ok true θ else u ρ θ:=nr rfl
@[simp] theorem x_not:mNot t ρ θ=(t ρ θ).bind fun k θ=>.ok (!k) θ:=nr rfl
def andK (g:Sto→R D):D→Sto→R D
  | .bl true,θ=>g θ
  | .bl false,θ=>.ok (.bl false) θ
  | _,_=>.bad
def orK (g:Sto→R D):D→Sto→R D
  | .bl true,θ=>.ok (.bl true) θ
  | .bl false,θ=>g θ
  | _,_=>.bad
@[simp] theorem andK_bl {g:Sto→R D} {k:Bool}:andK g (.bl k) θ=if k=true then g θ else .ok (.bl false) θ:=by cases k<;>rfl
@[simp] theorem orK_bl {g:Sto→R D} {k:Bool}:orK g (.bl k) θ=if k=true then .ok (.bl true) θ else g θ:=by cases k<;>rfl
@[simp] theorem x_andV:mAndV f g ρ θ=(f ρ θ).bind (andK (g ρ)):=by
  show (f ρ θ).bind _=_
  congr 1
  funext x θ
  cases x<;>first | rfl | (rename_i b; cases b<;>rfl)
@[simp] theorem x_orV:mOrV f g ρ θ=(f ρ θ).bind (orK (g ρ)):=by
  show (f ρ θ).bind _=_
  congr 1
  funext x θ
  cases x<;>first | rfl | (rename_i b; cases b<;>rfl)
@[simp] theorem ite_andP {p:Prop} [Decidable p] {m:Bool}:(if p then R.ok (D.bl m) θ else R.ok (D.bl false) θ)=R.ok (D.bl (decide p && m)) θ:=by by_cases h:p<;>simp [h]
@[simp] theorem ite_orP {p:Prop} [Decidable p] {m:Bool}:(if p then R.ok (D.bl true) θ else R.ok (D.bl m) θ)=R.ok (D.bl (decide p || m)) θ:=by by_cases h:p<;>simp [h]
@[simp] theorem ite_andTP {p:Prop} [Decidable p] {m:Bool}:(if p then R.ok m θ else R.ok false θ)=R.ok (decide p && m) θ:=by by_cases h:p<;>simp [h]
@[simp] theorem ite_orTP {p:Prop} [Decidable p] {m:Bool}:(if p then R.ok true θ else R.ok m θ)=R.ok (decide p || m) θ:=by by_cases h:p<;>simp [h]
@[simp] theorem x_notV:mNotV f ρ θ=(f ρ θ).bind fun x θ=>match truD θ x with | some k=>.ok (.bl (!k)) θ | none=>.bad:=nr rfl
@[simp] theorem x_neg:mNeg f ρ θ=(f ρ θ).bind fun x θ=>match x with | .int i=>.ok (.int (-i)) θ | _=>.bad:=nr rfl
@[simp] theorem x_ite:mIte t f g ρ θ=(t ρ θ).bind fun k θ=>if k=true then f ρ θ else g ρ θ:=nr rfl
@[simp] theorem x_chain {o o':OM}:mChain o o' f g h ρ θ=(f ρ θ).bind fun x θ=>(g ρ θ).bind fun y θ=>(o x y θ).bind (andK fun θ=>(h ρ θ).bind fun w θ=>o' y w θ):=by
  show (f ρ θ).bind _=_
  congr 1
  funext x θ
  congr 1
  funext y θ
  congr 1
  funext z θ
  cases z<;>first | rfl | (rename_i b; cases b<;>rfl)
@[simp] theorem x_nil:mNil ρ θ=.ok [] θ:=nr rfl
@[simp] theorem x_cons:mCons f fs ρ θ=(f ρ θ).bind fun x θ=>(fs ρ θ).bind fun xs θ=>.ok (x::xs) θ:=nr rfl
@[simp] theorem x_tup:mTup fs ρ θ=(fs ρ θ).bind fun xs θ=>if xs.length≤BIG then .ok (.tup xs) θ else .bad:=nr rfl
@[simp] theorem x_lst:mLst fs ρ θ=(fs ρ θ).bind fun xs θ=>if xs.length≤BIG then .ok (.lst xs) θ else .bad:=nr rfl
@[simp] theorem x_CB {o:GM}:mCB o fs ρ θ=(fs ρ θ).bind fun xs θ=>o xs θ:=nr rfl
@[simp] theorem x_noPart:mNoPart ρ θ=.ok none θ:=nr rfl
@[simp] theorem x_part:mPart f ρ θ=(f ρ θ).bind fun x θ=>match x with | .int i=>.ok (some i) θ | _=>.bad:=nr rfl
@[simp] theorem x_sl {lo hi:PM}:mSl f lo hi ρ θ=(f ρ θ).bind fun x θ=>(lo ρ θ).bind fun l θ=>(hi ρ θ).bind fun h θ=>match sliceD θ x l h with
  | some d=>.ok d θ
  | none=>.bad:=nr rfl
@[simp] theorem x_sl3 {lo hi st:PM}:mSl3 f lo hi st ρ θ=(f ρ θ).bind fun x θ=>(lo ρ θ).bind fun l θ=>(hi ρ θ).bind fun h θ=>(st ρ θ).bind fun s θ=>match lstOf θ x with
  | some xs=>if s≠some 0∧(pickL xs l h s).length≤BIG then .ok (.lst (pickL xs l h s)) θ else .bad
  | none=>.bad:=nr rfl
@[simp] theorem x_in:mIn f ρ θ=(f ρ θ).bind fun d θ=>match seqOf θ d with | some _=>.ok (.seq d) θ | none=>.bad:=nr rfl
@[simp] theorem x_rng1:mRng1 fs ρ θ=(fs ρ θ).bind fun ds θ=>match ds with
  | [.int j]=>if -1000000≤j∧j≤1000000 then .ok (.rng 0 j.toNat) θ else .bad
  | _=>.bad:=by
  unfold mRng1; exact nr rfl
variable {a b:SM} {Fl':Fl×List Sl}
@[simp] theorem x_skip:mSkip ρ θ=.ok (.nx,ρ) θ:=nr rfl
@[simp] theorem x_bad:mBad ρ θ=.bad:=nr rfl
@[simp] theorem x_then_nx {ρ':List Sl}:thenS (.ok (.nx,ρ') θ) a=a ρ' θ:=nr rfl
@[simp] theorem x_then_rt {ρ':List Sl} {d:D}:thenS (.ok (.rt d,ρ') θ) a=.ok (.rt d,ρ') θ:=nr rfl
@[simp] theorem x_seq:mSeq a b ρ θ=thenS (a ρ θ) b:=nr rfl
@[simp] theorem x_expr:mExpr f ρ θ=(f ρ θ).bind fun _ θ=>.ok (.nx,ρ) θ:=nr rfl
@[simp] theorem x_ret:mRet f ρ θ=(f ρ θ).bind fun d θ=>.ok (.rt d,ρ) θ:=nr rfl
@[simp] theorem x_retN:mRetN ρ θ=.ok (.rt .non,ρ) θ:=nr rfl
@[simp] theorem x_if:mIf t a b ρ θ=(t ρ θ).bind fun k θ=>if k=true then a ρ θ else b ρ θ:=nr rfl
@[simp] theorem x_set:mSet i f ρ θ=(f ρ θ).bind fun d θ=>.ok (.nx,ρ.set i (.val d)) θ:=nr rfl
@[simp] theorem x_setOwn:mSetOwn i fs ρ θ=(fs ρ θ).bind fun xs θ=>if xs.length≤BIG then .ok (.nx,ρ.set i (.own xs)) θ else .bad:=nr rfl
@[simp] theorem x_append:mAppend i f ρ θ=(f ρ θ).bind fun d θ=>match ρ[i]? with
  | some (Sl.own xs)=>if xs.length<BIG then .ok (.nx,ρ.set i (.own (xs++[d]))) θ else .bad
  | _=>.bad:=nr rfl
@[simp] theorem x_freeze:mFreeze i a ρ θ=match ρ[i]? with | some (Sl.own xs)=>a (ρ.set i (.val (.lst xs))) θ | _=>a ρ θ:=nr rfl
@[simp] theorem x_loop_nx {ρ':List Sl}:loopK a (.nx,ρ') θ=a ρ' θ:=nr rfl
@[simp] theorem x_gNm {d:D}:gNm i d ρ=some (ρ.set i (.val d)):=nr rfl
@[simp] theorem x_def {np nn:Nat} {ds:List D}:mDef np nn a ds θ=if ds.length=np then (a (startS nn ds) θ).bind fun p θ=>match p.1 with | .nx=>.ok .non θ | .rt d=>.ok d θ | _=>.bad else .bad:=nr rfl
@[simp] theorem x_start {n:Nat} {ds:List D}:startS n ds=ds.map Sl.val++List.replicate (n-ds.length) Sl.no:=nr rfl
@[simp] theorem x_seqOf_tup {xs:List D}:seqOf θ (.tup xs)=some xs:=nr rfl
@[simp] theorem x_truD_bl {b:Bool}:truD θ (.bl b)=some b:=nr rfl
@[simp] theorem x_truD_scr {ns:List Int}:truD θ (.scr ns)=some (!(ns.map D.int).isEmpty):=nr rfl
@[simp] theorem x_look_lst {xs:List D}:look θ (.lst xs)=.lst xs:=nr rfl
@[simp] theorem x_look_int {n:Int}:look θ (.int n)=.int n:=nr rfl
@[simp] theorem x_look_str {n:Str}:look θ (.str n)=.str n:=nr rfl
@[simp] theorem x_ix_lst {xs:List D} {n:Int}:ixM (.lst xs) (.int n) θ=match atI xs n with | some d=>.ok d θ | none=>.bad:=nr rfl
@[simp] theorem x_ix_tup {xs:List D} {n:Int}:ixM (.tup xs) (.int n) θ=match atI xs n with | some d=>.ok d θ | none=>.bad:=nr rfl
@[simp] theorem x_ix_scr {xs:List Int} {n:Int}:ixM (.scr xs) (.int n) θ=match atI (xs.map D.int) n with | some d=>.ok d θ | none=>.bad:=nr rfl
@[simp] theorem x_len {xs:List D}:lenG [.lst xs] θ=.ok (.int xs.length) θ:=nr rfl
@[simp] theorem x_len_tup {xs:List D}:lenG [.tup xs] θ=.ok (.int xs.length) θ:=nr rfl
@[simp] theorem x_len_scr {xs:List Int}:lenG [.scr xs] θ=.ok (.int (xs.map D.int).length) θ:=nr rfl
@[simp] theorem x_sum {xs:List D}:sumG [.lst xs] θ=match intsD xs with | some ns=>.ok (.int ns.sum) θ | none=>.bad:=nr rfl
@[simp] theorem x_min {m n:Int}:minG [.int m,.int n] θ=.ok (.int (if n<m then n else m)) θ:=nr rfl
@[simp] theorem x_min3 {m n k:Int}:minG [.int m,.int n,.int k] θ=.ok (.int (if n<m then (if k<n then k else n) else (if k<m then k else m))) θ:=nr rfl
@[simp] theorem x_max {m n:Int}:maxG [.int m,.int n] θ=.ok (.int (if n > m then n else m)) θ:=nr rfl
@[simp] theorem x_intb {k:Bool}:intG [.bl k] θ=.ok (.int (if k then 1 else 0)) θ:=nr rfl
@[simp] theorem x_sl_lst {xs:List D} {lo hi:Option Int}:sliceD θ (.lst xs) lo hi=some (.lst (cutL xs lo hi)):=nr rfl
@[simp] theorem x_is {x:D}:isM x .non θ=.ok (.bl (isNon x)) θ:=nr rfl
@[simp] theorem x_isnot {x:D}:isNotM x .non θ=.ok (.bl (!isNon x)) θ:=nr rfl
@[simp] theorem x_isnotb {x y:Bool}:isNotM (.bl x) (.bl y) θ=.ok (.bl (!(x == y))) θ:=nr rfl
end
mutual
def pl:Nat→D→Bool
  | _,.non=>true
  | _,.bl _=>true
  | _,.int _=>true
  | _,.str x=>PyData.strOk x
  | k+1,.tup xs=>pls k xs
  | k+1,.lst xs=>pls k xs
  | _,_=>false
def pls:Nat→List D→Bool
  | _,[]=>true
  | k,d::r=>pl k d && pls k r
end
mutual
def noB:D→Bool
  | .bl _=>false
  | .tup xs=>noBs xs
  | .lst xs=>noBs xs
  | _=>true
def noBs:List D→Bool
  | []=>true
  | d::r=>noB d && noBs r
end
mutual
theorem pl_ok:∀(k:Nat) (d:D),pl k d=true→plain d=true∧(dat d).canLay0=true∧(dat d).depth≤k
  | _,.non,_=>⟨rfl,rfl,Nat.zero_le _⟩
  | _,.bl _,_=>⟨rfl,rfl,Nat.zero_le _⟩
  | _,.int _,_=>⟨rfl,rfl,Nat.zero_le _⟩
  | k,.str x,h=>⟨rfl,by cases k<;>simpa [pl,dat,PyData.canLay0] using h,Nat.zero_le _⟩
  | k+1,.tup xs,h=>by
    obtain ⟨a,b,c⟩:=pls_ok k xs (by simpa [pl] using h)
    exact ⟨a,b,by simp only [dat,PyData.depth]; omega⟩
  | k+1,.lst xs,h=>by
    obtain ⟨a,b,c⟩:=pls_ok k xs (by simpa [pl] using h)
    exact ⟨a,b,by simp only [dat,PyData.depth]; omega⟩
  | 0,.tup xs,h=>by simp [pl] at h
  | 0,.lst xs,h=>by simp [pl] at h
  | 0,.ty _,h=>by simp [pl] at h
  | 0,.scr _,h=>by simp [pl] at h
  | 0,.ref _,h=>by simp [pl] at h
  | _+1,.ty _,h=>by simp [pl] at h
  | _+1,.scr _,h=>by simp [pl] at h
  | _+1,.ref _,h=>by simp [pl] at h
theorem pls_ok:∀(k:Nat) (ds:List D),pls k ds=true→plains ds=true∧PyData.canLayAll0 (dats ds)=true∧PyData.depthAll (dats ds)≤k
  | _,[],_=>⟨rfl,rfl,Nat.zero_le _⟩
  | k,d::r,h=>by
    have h':pl k d=true∧pls k r=true:=by simpa [pls] using h
    obtain ⟨a,b,c⟩:=pl_ok k d h'.1
    obtain ⟨a',b',c'⟩:=pls_ok k r h'.2
    exact ⟨by simp [plains,a,a'],by simp [dats,PyData.canLayAll0,b,b'],by simp only [dats,PyData.depthAll]; omega⟩
end
mutual
theorem noB_mix:∀(d e:D),noB d=true→noB e=true→noMix (dat d) (dat e)=true:=fun d e p q=>by
  cases d with
  | bl _=>simp [noB] at p
  | tup xs=>
    cases e with
    | bl _=>simp [noB] at q
    | tup ys=>simp only [dat,noMix]; exact noBs_mix xs ys p q
    | _=>simp [dat,noMix]
  | lst xs=>
    cases e with
    | bl _=>simp [noB] at q
    | lst ys=>simp only [dat,noMix]; exact noBs_mix xs ys p q
    | _=>simp [dat,noMix]
  | _=>cases e<;>simp_all [noB,dat,noMix]
theorem noBs_mix:∀(ds es:List D),noBs ds=true→noBs es=true→noMixAll (dats ds) (dats es)=true
  | [],[],_,_=>rfl
  | [],_::_,_,_=>rfl
  | _::_,[],_,_=>rfl
  | d::ds,e::es,p,q=>by
    have p':noB d=true∧noBs ds=true:=by simpa [noBs] using p
    have q':noB e=true∧noBs es=true:=by simpa [noBs] using q
    simp only [dats,noMixAll,Bool.and_eq_true]
    exact ⟨noB_mix d e p'.1 q'.1,noBs_mix ds es p'.2 q'.2⟩
end
theorem shaped_pl {k:Nat} {d:D} (h:pl k d=true) (hk:k≤64):shaped (dat d)=true:=by
  obtain ⟨_,b,c⟩:=pl_ok k d h
  unfold shaped
  rw [b,decide_eq_true (by omega)]
  rfl
theorem cmp_ok {x y:D} (h1:pl 9 x=true) (h2:pl 9 y=true) (h3:noB x=true) (h4:noB y=true):CmpOk x y:=
  ⟨(pl_ok _ _ h1).1,(pl_ok _ _ h2).1,shaped_pl h1 (by decide),shaped_pl h2 (by decide),noB_mix x y h3 h4⟩
section
open Classical
theorem eqM_of {x y:D} {θ:Sto} (h:CmpOk (look θ x) (look θ y)):eqM x y θ=.ok (.bl (decide (look θ x=look θ y))) θ:=if_pos h
theorem neM_of {x y:D} {θ:Sto} (h:CmpOk (look θ x) (look θ y)):neM x y θ=.ok (.bl (!decide (look θ x=look θ y))) θ:=if_pos h
end
@[simp] theorem pls_ints (k:Nat) (ns:List Int):pls k (ns.map D.int)=true:=by
  induction ns with
  | nil=>rfl
  | cons n r ih=>simp only [List.map_cons,pls,ih,Bool.and_true]; cases k<;>rfl
@[simp] theorem noBs_ints (ns:List Int):noBs (ns.map D.int)=true:=by
  induction ns with
  | nil=>rfl
  | cons n r ih=>simp only [List.map_cons,noBs,ih,Bool.and_true]; rfl
@[simp] theorem map_int_inj (ns ms:List Int):(ns.map D.int=ms.map D.int)↔ns=ms:=by
  constructor
  · intro h
    have:∀(ns ms:List Int),ns.map D.int=ms.map D.int→ns=ms:=fun ns=>by
      induction ns with
      | nil=>intro ms h; cases ms with
        | nil=>rfl
        | cons _ _=>cases h
      | cons n r ih=>intro ms h; cases ms with
        | nil=>cases h
        | cons m s=>simp at h; rw [h.1,ih s h.2]
    exact this ns ms h
  · intro h; rw [h]
@[simp] theorem eq_int (a b:Int) (θ:Sto):eqM (.int a) (.int b) θ=.ok (.bl (decide (a=b))) θ:=by
  rw [eqM_of (cmp_ok rfl rfl rfl rfl)]
  simp
@[simp] theorem ne_int (a b:Int) (θ:Sto):neM (.int a) (.int b) θ=.ok (.bl (!decide (a=b))) θ:=by
  rw [neM_of (cmp_ok rfl rfl rfl rfl)]
  simp
@[simp] theorem eq_ints (a b:List Int) (θ:Sto):eqM (.lst (a.map D.int)) (.lst (b.map D.int)) θ=.ok (.bl (decide (a=b))) θ:=by
  rw [eqM_of (cmp_ok (by simp [pl]) (by simp [pl]) (by simp [noB]) (by simp [noB]))]
  simp
@[simp] theorem ne_ints (a b:List Int) (θ:Sto):neM (.lst (a.map D.int)) (.lst (b.map D.int)) θ=.ok (.bl (!decide (a=b))) θ:=by
  rw [neM_of (cmp_ok (by simp [pl]) (by simp [pl]) (by simp [noB]) (by simp [noB]))]
  simp
end
end L2.MM
set_option Elab.async false
set_option linter.all false
set_option maxRecDepth 100000
set_option maxHeartbeats 4000000
namespace L2.MM
open PySem PySem.Spec PyProof.Rows PySem.SeqAt My
noncomputable section
@[simp] theorem BIG_eq:BIG=100000:=nr rfl
def il (ns:List Int):D:=.lst (ns.map D.int)
def itp (ns:List Int):D:=.tup (ns.map D.int)
section
variable {θ:Sto} {a b ns ms:List Int} {i j:Int}
@[simp] theorem f_il0:D.lst (ns.map D.int)=il ns:=nr rfl
theorem il_nil:D.lst []=il []:=rfl
@[simp] theorem f_il2 (x y:Int):D.lst [.int x,.int y]=il [x,y]:=nr rfl
@[simp] theorem f_il4 (x y z w:Int):D.lst [.int x,.int y,.int z,.int w]=il [x,y,z,w]:=nr rfl
@[simp] theorem f_il5 (x y z w v:Int):D.lst [.int x,.int y,.int z,.int w,.int v]=il [x,y,z,w,v]:=nr rfl
@[simp] theorem il_lstOf:lstOf θ (il a)=some (a.map D.int):=nr rfl
@[simp] theorem il_add:addM (il a) (il b) θ=if a.length+b.length≤BIG then .ok (il (a++b)) θ else .bad:=by
  unfold il
  rw [addM_lst]
  simp [il]
theorem il_addc (h:a.length+b.length≤100000):addM (il a) (il b) θ=.ok (il (a++b)) θ:=by
  rw [il_add,if_pos h]
@[simp] theorem il_len:lenG [il a] θ=.ok (.int a.length) θ:=by
  unfold il; rw [x_len]; simp
@[simp] theorem it_len:lenG [itp a] θ=.ok (.int a.length) θ:=by
  unfold itp; rw [x_len_tup]; simp
theorem atI_map {α β:Type} (f:α→β) (xs:List α) (n:Int):atI (xs.map f) n=(atI xs n).map f:=by
  unfold L2.atI
  rw [List.length_map]
  cases ixN xs.length n with
  | none=>rfl
  | some k=>simp
theorem il_ix:ixM (il a) (.int i) θ=match atI a i with | some z=>.ok (.int z) θ | none=>.bad:=by
  unfold il
  rw [x_ix_lst,atI_map]
  cases atI a i<;>rfl
theorem atI_dflt {xs:List Int} {i:Int} (h0:0≤i) (h:i<xs.length):atI xs i=some (xs.getD i.toNat 0):=by
  have c:i=((i.toNat:Nat):Int):=by omega
  rw [c]
  refine atI_nat ?_
  have d:i.toNat<xs.length:=by omega
  rw [List.getD_eq_getElem?_getD,Int.toNat_natCast,List.getElem?_eq_getElem d]
  rfl
def gt (a:List Int) (i:Nat):Int:=a.getD i 0
theorem il_get (h0:0≤i) (h:i<a.length):ixM (il a) (.int i) θ=.ok (.int (gt a i.toNat)) θ:=by rw [il_ix,atI_dflt h0 h]; rfl
@[simp] theorem il_ix0 {x:Int} {r:List Int}:ixM (il (x::r)) (.int 0) θ=.ok (.int x) θ:=il_get (a:=x::r) (i:=0) (by decide) (by rw [List.length_cons]; omega)
@[simp] theorem il_ix1 {x y:Int} {r:List Int}:ixM (il (x::y::r)) (.int 1) θ=.ok (.int y) θ:=il_get (a:=x::y::r) (i:=1) (by decide) (by rw [List.length_cons,List.length_cons]; omega)
@[simp high] theorem tix0 {x:D} {r:List D}:ixM (.tup (x::r)) (.int 0) θ=.ok x θ:=by
  rw [x_ix_tup,show (0:Int)=((0:Nat):Int) from rfl,atI_nat (j:=0) (v:=x) rfl]
@[simp high] theorem tix1 {x y:D} {r:List D}:ixM (.tup (x::y::r)) (.int 1) θ=.ok y θ:=by
  rw [x_ix_tup,show (1:Int)=((1:Nat):Int) from rfl,atI_nat (j:=1) (v:=y) rfl]
theorem cutL_map {α β:Type} (f:α→β) (xs:List α) (lo hi:Option Int):cutL (xs.map f) lo hi=(cutL xs lo hi).map f:=by
  unfold cutL
  rw [List.length_map,List.map_take,List.map_drop]
@[simp] theorem il_sl {lo hi:Option Int}:sliceD θ (il a) lo hi=some (il (cutL a lo hi)):=by
  unfold il; rw [x_sl_lst,cutL_map]
@[simp] theorem it_list:listG [itp a] θ=.ok (il a) θ:=nr rfl
@[simp] theorem il_tuple:tupleG [il a] θ=.ok (itp a) θ:=nr rfl
@[simp] theorem il_sum:sumG [il a] θ=.ok (.int a.sum) θ:=by unfold il; rw [x_sum,ints_map]
@[simp] theorem il_eq:eqM (il a) (il b) θ=.ok (.bl (decide (a=b))) θ:=eq_ints a b θ
@[simp] theorem il_ne:neM (il a) (il b) θ=.ok (.bl (!decide (a=b))) θ:=ne_ints a b θ
theorem pickL_map {α β:Type} (f:α→β) (xs:List α) (lo hi st:Option Int):pickL (xs.map f) lo hi st=(pickL xs lo hi st).map f:=by
  unfold pickL
  rw [List.length_map,List.map_filterMap]
  congr
  funext k
  simp
theorem mapV_inj:∀{ns ms:List Int},ns.map V.int=ms.map V.int→ns=ms
  | [],[],_=>rfl
  | [],_::_,h=>by cases h
  | _::_,[],h=>by cases h
  | _::_,_::_,h=>by simp at h; rw [h.1,mapV_inj h.2]
@[simp] theorem pick_evens' (ns:List Int):pickL ns none none (some 2)=evens ns:=mapV_inj (by
  have:=cut_evens ns
  rw [show pickV (ns.map V.int) none none (some 2)=pickL (ns.map V.int) none none (some 2) from rfl,pickL_map] at this
  exact this)
@[simp] theorem pick_odds' (ns:List Int):pickL ns (some 1) none (some 2)=odds ns:=mapV_inj (by
  have:=cut_odds ns
  rw [show pickV (ns.map V.int) (some 1) none (some 2)=pickL (ns.map V.int) (some 1) none (some 2) from rfl,pickL_map] at this
  exact this)
end
theorem sIx_nn {n d:Nat} {k:Int} (h:0≤k):HT.sIx n d (some k)=min k.toNat n:=by
  have c:k=((k.toNat:Nat):Int):=by omega
  rw [c]
  exact HT.sIx_nat n d k.toNat
theorem cut_to {α:Type} (xs:List α) {k:Int} (h:0≤k):cutL xs none (some k)=xs.take k.toNat:=by
  unfold cutL
  rw [HT.sIx_none,sIx_nn h,List.drop_zero,Nat.sub_zero,←List.take_take,List.take_length]
theorem cut_from {α:Type} (xs:List α) {k:Int} (h:0≤k):cutL xs (some k) none=xs.drop k.toNat:=by
  unfold cutL
  rw [HT.sIx_none,sIx_nn h]
  by_cases q:k.toNat≤xs.length
  · rw [Nat.min_eq_left q,List.take_of_length_le]
    rw [List.length_drop]
    exact Nat.le_refl _
  · rw [Nat.min_eq_right (by omega),List.drop_length,List.drop_eq_nil_of_le (by omega)]
    simp
theorem cut_mid {α:Type} (xs:List α) {k l:Int} (h:0≤k) (h':0≤l):cutL xs (some k) (some l)=(xs.drop k.toNat).take (l.toNat-k.toNat):=by
  unfold cutL
  rw [sIx_nn h,sIx_nn h']
  by_cases q:k.toNat≤xs.length
  · rw [Nat.min_eq_left q]
    by_cases r:l.toNat≤xs.length
    · rw [Nat.min_eq_left r]
    · rw [Nat.min_eq_right (by omega),List.take_of_length_le (by rw [List.length_drop]; exact Nat.le_refl _),List.take_of_length_le (by rw [List.length_drop]; omega)]
  · rw [Nat.min_eq_right (a:=k.toNat) (by omega),List.drop_length,List.drop_eq_nil_of_le (i:=k.toNat) (by omega)]
    simp
section
variable {θ:Sto} {ρ:List Sl}
@[simp] theorem rng_items {lo:Int} {n:Nat}:(Src.rng lo n).items θ=some ((List.range n).map fun (i:Nat)=>D.int (lo+(i:Int))):=nr rfl
@[simp] theorem seq_items {d:D}:(Src.seq d).items θ=seqOf θ d:=nr rfl
open Classical in
theorem comp_pure {S:Src} {all:List D} {elt:D→Sto→R D} {θ:Sto} (f:D→D) (hS:S.items θ=some all):∀(xs acc:List D),(∀x∈xs,elt x θ=.ok (f x) θ)→(acc.length+xs.length≤BIG)→compL S all elt xs acc θ=.ok (.lst (acc++xs.map f)) θ
  | [],acc,_,hl=>by
    unfold compL
    rw [if_pos ⟨hS,by simpa using hl⟩]
    simp
  | x::r,acc,h,hl=>by
    unfold compL
    rw [if_pos hS,h x List.mem_cons_self]
    rw [R.bind_ok,comp_pure f hS r (acc++[f x]) (fun y hy=>h y (List.mem_cons_of_mem _ hy)) (by simp at hl ⊢; omega)]
    simp
theorem mComp_rng {fi:IM} {src:List Nat} {elt:EM} {lo:Int} {n:Nat} {θ':Sto} (f:Int→D) (hi:fi ρ θ=.ok (.rng lo n) θ') (hn:n≤BIG) (he:∀i:Nat,i<n→elt (inEnv src ρ (.int (lo+i))) θ'=.ok (f (lo+i)) θ') :
    mComp fi src elt ρ θ=.ok (.lst ((List.range n).map fun (i:Nat)=>f (lo+i))) θ':=by
  unfold mComp
  rw [hi,R.bind_ok]
  simp only [rng_items]
  rw [if_pos (by simpa using hn),comp_pure (fun d=>match d with | .int k=>f k | d=>d) rfl]
  · simp
  · intro x hx
    obtain ⟨i,hi,rfl⟩:=List.mem_map.mp hx
    exact he i (List.mem_range.mp hi)
  · simpa using hn
@[simp] theorem inEnv_eq {src:List Nat} {x:D}:inEnv src ρ x=Sl.val x::src.map fun (j:Nat)=>match ρ[j]? with | some (Sl.val d)=>Sl.val d | _=>Sl.no:=nr rfl
open Classical in
theorem for_rng {lo:Int} {n:Nat} {all:List D} {tg:TgM} {body:SM} (st:Nat→List Sl) (hs:∀i ρ1,i<n→tg (.int (lo+i)) (st i)=some ρ1→body ρ1 θ=.ok (.nx,st (i+1)) θ) (ht:∀i,i<n→∃ρ1,tg (.int (lo+i)) (st i)=some ρ1) (hall:all=(List.range n).map fun (i:Nat)=>D.int (lo+(i:Int))) :
    forL (.rng lo n) all tg body all (st 0) θ=.ok (.nx,st n) θ:=by
  subst hall
  have key:∀m,m≤n→forL (.rng lo n) ((List.range n).map fun (i:Nat)=>D.int (lo+(i:Int))) tg body (((List.range n).map fun (i:Nat)=>D.int (lo+(i:Int))).drop (n-m)) (st (n-m)) θ=.ok (.nx,st n) θ:=fun m=>by
    induction m with
    | zero=>
      intro _
      rw [Nat.sub_zero,List.drop_eq_nil_of_le (by simp)]
      simp [forL]
    | succ m ih=>
      intro hm
      have hlt:n-(m+1)<n:=by omega
      rw [List.drop_eq_getElem_cons (by simpa using hlt)]
      obtain ⟨ρ1,h1⟩:=ht (n-(m+1)) hlt
      have h2:=hs (n-(m+1)) ρ1 hlt h1
      have e:n-(m+1)+1=n-m:=by omega
      simp only [List.getElem_map,List.getElem_range,forL,rng_items,if_true,h1]
      rw [h2,R.bind_ok,x_loop_nx,e]
      exact ih (by omega)
  have:=key n (Nat.le_refl _)
  rw [Nat.sub_self,List.drop_zero] at this
  exact this
end
end
end L2.MM
set_option Elab.async false
set_option linter.all false
set_option maxRecDepth 100000
set_option maxHeartbeats 4000000
namespace L2.MM
open PySem PySem.Spec PyProof.Rows PySem.SeqAt
noncomputable section
variable {X:Cx}
def putFD (f:Str) (v:D):List (Str×D)→List (Str×D)
  | []=>[(f,v)]
  | (g,x)::r=>if g=f then (g,v)::r else (g,x)::putFD f v r
theorem RepKV.put {B:Bx} {H:Hp} {f:Str} {d:D} {v:V} (q:RepV B H d v):∀{fs:List (Str×D)} {vs:List (Str×V)},RepKV B H fs vs→RepKV B H (putFD f d fs) (putF f v vs)
  | _,_,.nil=>.cons ⟨rfl,q⟩ .nil
  | (g,x)::fs,(g',y)::vs,.cons h t=>by
    obtain ⟨h1,h2⟩:=h
    cases (show g=g' from h1)
    unfold putFD putF
    by_cases e:g=f
    · rw [if_pos e,if_pos e]; exact .cons ⟨rfl,q⟩ t
    · rw [if_neg e,if_neg e]; exact .cons ⟨rfl,h2⟩ (RepKV.put q t)
theorem RepKV.len {κ:Type} {B:Bx} {H:Hp}:∀{fs:List (κ×D)} {vs:List (κ×V)},RepKV B H fs vs→vs.length=fs.length
  | _,_,.nil=>rfl
  | _,_,.cons _ t=>by rw [List.length_cons,List.length_cons,RepKV.len t]
theorem RepKV.get {B:Bx} {H:Hp} {f:Str} {d:D}:∀{fs:List (Str×D)} {vs:List (Str×V)},RepKV B H fs vs→fs.lookup f=some d→∃v,vs.lookup f=some v∧RepV B H d v
  | _,_,.nil,h=>by cases h
  | (g,x)::fs,(g',y)::vs,.cons h t,e=>by
    obtain ⟨h1,h2⟩:=h
    cases (show g=g' from h1)
    rw [List.lookup_cons] at e ⊢
    cases q:f == g with
    | true=>rw [q] at e; cases e; exact ⟨y,rfl,h2⟩
    | false=>rw [q] at e; exact RepKV.get t e
theorem RepKV.none {B:Bx} {H:Hp} {f:Str}:∀{fs:List (Str×D)} {vs:List (Str×V)},RepKV B H fs vs→fs.lookup f=none→vs.lookup f=none
  | _,_,.nil,h=>rfl
  | (g,x)::fs,(g',y)::vs,.cons h t,e=>by
    obtain ⟨h1,h2⟩:=h
    cases (show g=g' from h1)
    rw [List.lookup_cons] at e ⊢
    cases q:f == g with
    | true=>rw [q] at e; cases e
    | false=>rw [q] at e; exact RepKV.none t e
def insOf (θ:Sto):D→Option (Nat×Str×List (Str×D))
  | .ref l=>match θ[l]? with
    | some (.ins C fs)=>some (l,C,fs)
    | _=>none
  | _=>none
theorem insOf_at {cl:Mo} {B:Bx} {θ:Sto} {H:Hp} (G:Good cl B θ H) {d:D} {v:V} {l:Nat} {C:Str} {fs:List (Str×D)} (r:RepV B H d v) (h:insOf θ d=some (l,C,fs)) :
    l<B.n∧v=.ref (B.m l)∧∃dx vs,H (B.m l)=some (.ins (cl.cl C) dx vs)∧RepKV B H fs vs:=by
  cases d with
  | ref k=>
    simp only [insOf] at h
    split at h
    · rename_i C' fs' e
      cases h
      obtain ⟨hl,rfl⟩:=r
      obtain ⟨dx,vs,h1,h2⟩:=G.cel _ _ e
      exact ⟨hl,rfl,dx,vs,h1,h2⟩
    · cases h
  | _=>cases h
def fldK (cs:List Str) (f:Str):D→Sto→R D:=fun d θ=>match insOf θ d with
  | some (_,C,fs)=>if cs.contains C=true then (match fs.lookup f with
    | some v=>.ok v θ
    | none=>.bad) else .bad
  | none=>.bad
def mFld (cs:List Str) (f:Str) (fe:EM):EM:=fun ρ θ=>(fe ρ θ).bind (fldK cs f)
def ClsOk (X:Cx) (f:Str) (C:Str):Prop:=Cls X.K (X.cl.cl C)∧NoAttr X.K (X.cl.cl C) f
theorem all1 {P:Str→Prop} {a:Str} (h:P a):∀C,[a].contains C=true→P C:=fun C hc=>by
  have:C=a:=by simpa using hc
  rw [this]; exact h
theorem me_fld {cs:List Str} {f:Str} {e:Expr} {fe:EM} {pos:Pos} (hc:∀C,cs.contains C=true→ClsOk X f C) (he:ME X e fe) (hb:attributeBase e f X.env (eval e X.env)=eval e X.env:=by rfl):ME X (.Attribute e f pos) (mFld cs f fe):=by
  refine PE.imp (pe_fld he hb) fun σ H Q h=>?_
  obtain ⟨B,θ,ρ,F,w⟩:=h
  refine tM_mono (step F w) ?_
  rintro v H1 ⟨B1,θ1,d,E1,F1,rd,w1⟩
  unfold fldK at w1
  split at w1
  · rename_i l C fs e1
    split at w1
    · rename_i hC
      split at w1
      · rename_i y ey
        obtain ⟨hl,rfl,dx,vs,h1,h2⟩:=insOf_at F1.good rd e1
        obtain ⟨u,h3,h4⟩:=h2.get ey
        exact ⟨_,_,dx,vs,u,rfl,h1,(hc C hC).1,(hc C hC).2,h3,wp_now F1.good h4 w1⟩
      · exact w1.elim
    · exact w1.elim
  · exact w1.elim
def setK (cs:List Str) (f:Str) (y d:D) (θ:Sto):Option Sto:=match insOf θ d with
  | some (l,C,fs)=>if cs.contains C=true∧fs.length<1000 then some (θ.set l (.ins C (putFD f y fs))) else none
  | none=>none
def mSetF (cs:List Str) (f:Str) (fe fv:EM):SM:=fun ρ θ=>(fv ρ θ).bind fun y θ=>(fe ρ θ).bind fun d θ=>match setK cs f y d θ with
  | some θ'=>.ok (.nx,ρ) θ'
  | none=>.bad
theorem ms_fld {cs:List Str} {f:Str} {o value:Expr} {fe fv:EM} {pos pos':Pos} (hc:∀C,cs.contains C=true→ClsOk X f C) (he:ME X o fe) (hv:ME X value fv) (hs:swapsWith value (some (.Attribute o f pos')) pos.line X.env=pure false:=by rfl) :
    MS X (.Assign [.Attribute o f pos'] value pos) (mSetF cs f fe fv):=
  PS.imp (ps_fld he hv hs) fun D σ H h=>by
  obtain ⟨B,θ,ρ,F,w⟩:=h
  refine tM_mono (stepS F w) ?_
  rintro y H1 ⟨B1,θ1,dy,E1,F1,ry,w1⟩
  refine tM_mono (stepS F1 w1) ?_
  rintro v H2 ⟨B2,θ2,d,E2,F2,rd,w2⟩
  unfold setK at w2
  cases e1:insOf θ2 d with
  | none=>rw [e1] at w2; exact w2.elim
  | some q=>
    obtain ⟨l,C,fs⟩:=q
    rw [e1] at w2
    simp only at w2
    by_cases hC:cs.contains C=true∧fs.length<1000
    · rw [if_pos hC] at w2
      obtain ⟨hl,rfl,dx,vs,h1,h2⟩:=insOf_at F2.good rd e1
      refine ⟨_,_,dx,vs,rfl,h1,(hc C hC.1).1,(hc C hC.1).2,by rw [h2.len]; exact hC.2,?_⟩
      have E3:=ext_set F2.good hl (.ins (X.cl.cl C) dx (putF f y vs))
      have G3:=good_set F2.good hl (o:=.ins (X.cl.cl C) dx (putF f y vs)) (c:=.ins C (putFD f dy fs)) ⟨dx,_,upd_same,(h2.put (ry.ext E2.toExtS)).ext E3.toExtS⟩
      exact w2 _ _ _ E3.toExtS (F2.ext E3 G3)
    · rw [if_neg hC] at w2
      exact w2.elim
structure MMk (P:Program) (w:World) (K:PySem.W.Frag) (mg:Str→Option Value) (base:Heap) (k:Nat) (C:Str) (f:GM):Prop where
  ex:∃(fI:Addr) (fd:FuncData) (ps:List Str),Mk K (clOf mg C) fI∧FnOk P w K mg base CX0 k fI fd ps (spM ⟨clOf mg,K⟩ f)∧Binds K fd ps []
  mg:mg C=some (.ref (clOf mg C))
def mkG (C:Str) (f:GM):GM:=fun vs θ=>(f (.ref θ.length::vs) (θ++[.ins C []])).bind fun v θ'=>match v with
  | .non=>.ok (.ref θ.length) θ'
  | _=>.bad
theorem wpR.made {σ:St} {B:Bx} {θ:Sto} {H:Hp} {C:Str} {f:GM} {ds:List D} {vs:List V} {Q:VK} {E:XK} (G:Good X.cl B θ H) (r:RepL B H ds vs) (w:wpR X σ RepV B H (mkG C f ds θ) Q) :
    ∀x dx,H x=none→H dx=none→dx≠x→spM X.cl f (.ref x::(vs++[])) (upd (upd H dx (.own x)) x (.ins (X.cl.cl C) dx [])) (fun v H2=>v=.non∧Q (.ref x) H2) E:=by
  intro x dx hx hdx ne
  have E1:=ext_new G hdx (.own x)
  have G1:=good_new G hdx (.own x)
  have hx1:upd H dx (.own x) x=none:=by rw [upd_ne (Ne.symm ne)]; exact hx
  have E2:=ext_cell G1 hx1 (.ins (X.cl.cl C) dx [])
  have G2:Good X.cl (B.push x) (θ++[.ins C []]) _:=good_cell G1 hx1 (o:=.ins (X.cl.cl C) dx []) (c:=.ins C []) ⟨dx,[],upd_same,.nil⟩
  have rx:RepV (B.push x) (upd (upd H dx (.own x)) x (.ins (X.cl.cl C) dx [])) (.ref θ.length) (.ref x):=⟨by rw [G.len]; exact Nat.lt_succ_self _,by rw [G.len]; show V.ref x=V.ref (if B.n=B.n then x else B.m B.n); rw [if_pos rfl]⟩
  rw [List.append_nil]
  refine call_sp (σ:=σ) G2 (show RepL _ _ (.ref θ.length::ds) (.ref x::vs) from ⟨_,_,rfl,rx,r.ext (E1.trans E2).toExtS⟩) ?_
  have w1:=wpR.trans w (E1.trans E2)
  refine (wpR.bind (Rel:=RepV) w1).mono ?_
  rintro v H3 ⟨B3,θ3,d,E3,G3,rd,w3⟩
  cases d with
  | non=>exact ⟨rd,wp_now G3 (rx.ext E3.toExtS) w3⟩
  | _=>exact w3.elim
theorem me_make {k j:Nat} {x:Str} {f:GM} {p pos:Pos} {e:Expr} {es:List Expr} {fs:AM} (M:MMk X.prog X.w X.K X.mg X.base k x f) (hr:Room j X.A) (hj:k+1≤j) (ha:MA X (e::es) fs) (hg:Gl X x:=by rfl) (hdb:(x == ("__debug__":Str))=false:=by decide)
    (he:starEach (e::es) X.env=(false,eval e X.env)::starEach es X.env:=by rfl) (hpl:(backTo pos (starEach es X.env)).any (·.1)=false:=by rfl):ME X (.Call (.Name x p) (e::es) [] pos) (mCB (mkG x f) fs):=by
  obtain ⟨fI,fd,ps,m,F0,b⟩:=M.ex
  refine PE.imp (pe_make m F0 (hr.mono hj) hg M.mg b .nil pass0 ha hdb he hpl) fun σ H Q h=>?_
  obtain ⟨B,θ,ρ,F,w⟩:=h
  refine tMA_mono (stepA F w) ?_
  rintro vs H1 ⟨B1,θ1,ds,E1,F1,rd,w1⟩
  exact wpR.made F1.good rd w1
theorem me_make0 {k j:Nat} {x:Str} {f:GM} {p pos:Pos} (M:MMk X.prog X.w X.K X.mg X.base k x f) (hr:Room j X.A) (hj:k+1≤j) (hg:Gl X x:=by rfl) (hdb:(x == ("__debug__":Str))=false:=by decide):ME X (.Call (.Name x p) [] [] pos) (mCB (mkG x f) mNil):=by
  obtain ⟨fI,fd,ps,m,F0,b⟩:=M.ex
  refine PE.imp (pe_make0 m F0 (hr.mono hj) hg M.mg b .nil pass0 hdb) fun σ H Q h=>?_
  obtain ⟨B,θ,ρ,F,w⟩:=h
  exact wpR.made (ds:=[]) (vs:=[]) F.good (show RepL B H [] [] from rfl) w
structure MMeth (P:Program) (w:World) (K:PySem.W.Frag) (mg:Str→Option Value) (base:Heap) (k:Nat) (C m:Str) (f:GM):Prop where
  ex:∃(fa:Addr) (fd:FuncData) (ps:List Str),Meth K (clOf mg C) m fa∧FnOk P w K mg base CX0 k fa fd ps (spM ⟨clOf mg,K⟩ f)∧Binds K fd ps []
  cl:Cls K (clOf mg C)
instance {C C':Str} {gs:List (Str×D)} {m:Str}:Decidable (C'=C∧gs.lookup m=none):=by
  cases h:gs.lookup m with
  | none=>exact if e:C'=C then isTrue ⟨e,rfl⟩ else isFalse fun z=>e z.1
  | some _=>exact isFalse fun z=>nomatch z.2
theorem mmk {P:Program} {w:World} {K:PySem.W.Frag} {mg:Str→Option Value} {base:Heap} {x qual:Str} {st:Stmt} {N ps:List Str} {k:Nat} {fb:SM} {f:Addr} {fd:FuncData} {C:Str} (F:Fun K x qual st f fd) (S:FnScope N ps (defScope st)) (np nn:Nat) (hp:ps.length=np) (hn:N.length=nn) (b:Binds K fd ps []) (M:Mk K (clOf mg C) f) (hm:mg C=some (.ref (clOf mg C)))
    (hbody:∀(cdv:Value) (A:Around) (outer:List Env) (s:Shared) (H:Hp) (E:XK),Room k (A.deeper (envOfC qual (defScope st) s.heap.objs.size f cdv))→MSs (cxOf CX0 P w K mg base N qual (defScope st) f cdv A outer s H E).nox (defBody st) fb):MMk P w K mg base (k+1) C (mDef np nn fb):=
  ⟨⟨f,fd,ps,M,mfn F S np nn hp hn hbody,b⟩,hm⟩
def mDict0:EM:=fun _ θ=>.ok (.ref θ.length) (θ++[.dK []])
theorem me_dict0 {pos:Pos}:ME X (.Dict [] [] pos) mDict0:=by
  refine PE.imp pe_dnewK fun σ H Q h=>?_
  obtain ⟨B,θ,ρ,F,w⟩:=h
  intro p hp
  have G:=F.good
  exact w (B.push p) _ _ (ext_cell G hp _) (good_cell G hp ⟨[],upd_same,.nil⟩) ⟨by rw [G.len]; exact Nat.lt_succ_self _,by rw [G.len]; show V.ref p=V.ref (if B.n=B.n then p else B.m B.n); rw [if_pos rfl]⟩
section
variable {ρ:List Sl} {θ:Sto} {fe fv fo:EM} {cs:List Str} {f:Str}
@[simp] theorem x_fld:mFld cs f fe ρ θ=(fe ρ θ).bind (fldK cs f):=nr rfl
@[simp] theorem x_setF:mSetF cs f fe fv ρ θ=(fv ρ θ).bind fun y θ=>(fe ρ θ).bind fun d θ=>match setK cs f y d θ with
  | some θ'=>.ok (.nx,ρ) θ'
  | none=>.bad:=nr rfl
@[simp] theorem x_dict0:mDict0 ρ θ=.ok (.ref θ.length) (θ++[.dK []]):=nr rfl
end
end
end L2.MM
namespace L2.MM
open PySem PySem.Spec PyProof.Rows PySem.SeqAt
def Mk0 (K:PySem.W.Frag) (mg:Str→Option Value) (C qual:Str) (st:Stmt) (ps:List Str):Prop:=
  ∃(f:Addr) (fd:FuncData),Fun K "__init__" qual st f fd∧Binds K fd ps []∧Mk K (clOf mg C) f∧mg C=some (.ref (clOf mg C))
theorem clOf_eq {mg:Str→Option Value} {x:Str} {a:Addr} (h:mg x=some (.ref a)):clOf mg x=a:=by unfold clOf; rw [h]
theorem mk0 {P:Program} {w:World} {K:PySem.W.Frag} {mg:Str→Option Value} {base:Heap} {qual:Str} {st:Stmt} {N ps:List Str} {k:Nat} {fb:SM} {C:Str} (D:Mk0 K mg C qual st ps) (S:FnScope N ps (defScope st)) (np nn:Nat) (hp:ps.length=np) (hn:N.length=nn)
    (hbody:∀(f:Addr) (cdv:Value) (A:Around) (outer:List Env) (s:Shared) (H:Hp) (E:XK),Room k (A.deeper (envOfC qual (defScope st) s.heap.objs.size f cdv))→MSs (cxOf CX0 P w K mg base N qual (defScope st) f cdv A outer s H E).nox (defBody st) fb):MMk P w K mg base (k+1) C (mDef np nn fb):=by
  obtain ⟨f,fd,F,b,M,hm⟩:=D
  exact mmk F S np nn hp hn b M hm (hbody f)
end L2.MM
set_option Elab.async false
set_option linter.all false
set_option maxRecDepth 100000
set_option maxHeartbeats 4000000
namespace L2
open PySem PySem.Spec PyProof.Rows
open AutoSeq1 (wpAny_loadPart')
theorem enT_new (tp:Addr) (its:Array Value) (k:Nat) (dct:Option Addr) (sl:Array (Option Value)) :
    Meets (Builtin.«enumerate.__new__» ⟨[.type "enumerate",.ref tp],[]⟩) (fun _ R s=>s.heap.get? tp=some { cls:=.type "tuple",dict:=dct,data:=.seq its k,slots:=sl }∧
      R (.ok (.ret (.ref (s.heap.push { cls:=.type "tuple_iterator",data:=.fields #[.ref tp,.int 0 0] }).objs.size)))
        { s with heap:=(s.heap.push { cls:=.type "tuple_iterator",data:=.fields #[.ref tp,.int 0 0] }).push { cls:=.type "enumerate",data:=.fields #[.none,.bool false,.ref s.heap.objs.size,rawInt 0,.none,.none] } }):=by
  refine .of_wp fun prog w A R s h=>?_
  obtain ⟨hp,g,d,tk,os⟩:=s
  obtain ⟨ht,h⟩:=h
  have hsub:=sub_enumerate
  have hT:Heap.IsTuple (Shared.heap ⟨hp,g,d,tk,os⟩) tp its:=⟨_,ht,rfl,k,rfl⟩
  wp_walk using wpAny_loadPart' ht
  refine wpAny_stack_any fun st=>?_
  refine wpAny_pure ?_
  split
  · rename_i c _ _ _ _ _
    cases (c == Value.type "enumerate")<;>(wp_walk using wpAny_loadPart' ht,wpAny_pyIter_tuple hT; exact ⟨_,rfl,h⟩)
  · wp_walk using wpAny_loadPart' ht,wpAny_pyIter_tuple hT; exact ⟨_,rfl,h⟩
section
variable {prog:Program} {w:World} {A:Around} {E:Value→Shared→Prop} {s:Shared}
theorem call_enT {tp:Addr} {its:Array Value} {Q:Value→Shared→Prop} (hT:s.heap.IsTuple tp its)
    (h:∀h',IsEnum h' (s.heap.objs.size+1) s.heap.objs.size 0 .none→h'.IsTupleIter s.heap.objs.size tp 0→h'.objs.size=s.heap.objs.size+2→(∀b o,s.heap.get? b=some o→h'.get? b=some o)→Q (.ref (s.heap.objs.size+1)) { s with heap:=h' }) :
    wpAny (model prog w) A (call (.type "enumerate") [.ref tp]) Q E s:=by
  obtain ⟨⟨c,dct,dt,sl⟩,ht,hc,k,hd⟩:=hT
  cases (show c=.type "tuple" from hc)
  cases (show dt=.seq its k from hd)
  refine callType_new F.called_enumerate (by decide) (F.typeCall_enumerate_1 _) (F.newCall_enumerate_1 _) (fun obj=>F.args_object_init_2 obj _) F.entry_enumerate_new (enT_new tp its k dct sl) ⟨ht,?_⟩
  have hz:(s.heap.push { cls:=.type "tuple_iterator",data:=.fields #[.ref tp,.int 0 0] }).objs.size=s.heap.objs.size+1:=Heap.size_push ..
  show _∧_
  rw [hz]
  have he:IsEnum ((s.heap.push { cls:=.type "tuple_iterator",data:=.fields #[.ref tp,.int 0 0] }).push { cls:=.type "enumerate",data:=.fields #[.none,.bool false,.ref s.heap.objs.size,rawInt 0,.none,.none] }) (s.heap.objs.size+1) s.heap.objs.size 0 .none:=by
    have q:=Heap.get?_push_size (s.heap.push { cls:=.type "tuple_iterator",data:=.fields #[.ref tp,.int 0 0] }) (o:={ cls:=.type "enumerate",data:=.fields #[.none,.bool false,.ref s.heap.objs.size,rawInt 0,.none,.none] }) rfl
    rw [hz] at q
    exact q
  exact ⟨⟨_,he,rfl⟩,h _ he ⟨_,Heap.get?_push_of_some _ (Heap.get?_push_size _ rfl),rfl,rfl⟩ (by rw [Heap.size_push,hz]) fun b o x=>Heap.get?_push_of_some _ (Heap.get?_push_of_some _ x)⟩
theorem nextT_item {it tp:Addr} {i:Nat} {its} {x:Value} {Q:Value→Shared→Prop} (hit:s.heap.IsTupleIter it tp i) (ht:s.heap.IsTuple tp its) (hx:its[i]?=some x)
    (hQ:∀h',h'.IsTupleIter it tp (i+1)→Heap.SameBut it s.heap h'→Q x { s with heap:=h' }):wpAny (model prog w) A (Builtin.SmallTypes.nextOf (.ref it)) Q E s:=by
  obtain ⟨o,ho,hc,hd⟩:=id hit
  obtain ⟨ol,hol,_,nl,hdl⟩:=ht
  unfold Builtin.SmallTypes.nextOf
  refine wpAny_bind (wpAny_callSpecial?_slot (name:=Str.ofString "__next__") hit.typeIs F.slot_tuple_iterator_next (wpAny_call_entry F.slot_tuple_iterator_next hit.typeIs F.entry_tuple_iterator_next ?_ (F.args_tuple_iterator_next_1 _)))
  show wpAny _ _ (field (.ref it) 0 >>= _) _ _ s
  refine wpAny_bind (wpAny_field ho hd (x:=.ref tp) rfl ?_)
  rw [if_neg (show ¬((Value.ref tp == Value.none)=true) from Bool.false_ne_true)]
  refine wpAny_bind (wpAny_field ho hd (x:=.int i 0) rfl (wpAny_bind (wpAny_seqItems hol hdl ?_)))
  simp only [Int.toNat_natCast,hx]
  refine wpAny_bind (wpAny_setField ho hd (by simp) (wpAny_pure ⟨x,rfl,wpAny_pure (hQ _ ⟨_,Heap.get?_update_self _ ho (Obj.isFreed_of_fields (Obj.data_mapFields hd _)),(Obj.cls_mapFields ..).trans hc,?_⟩ (Heap.SameBut.update ..))⟩))
  rw [Obj.data_mapFields hd]
  simp [rawInt]
theorem nextT_end {it tp:Addr} {i:Nat} {its} {Q:Value→Shared→Prop} (hh:A.handled=none) (hit:s.heap.IsTupleIter it tp i) (ht:s.heap.IsTuple tp its) (hx:its[i]?=none)
    (hE:∀h' e,Heap.ExtBut it s.heap h'→(∃o,h'.get? e=some o∧o.cls=.type "StopIteration")→E (.ref e) { s with heap:=h' }):wpAny (model prog w) A (Builtin.SmallTypes.nextOf (.ref it)) Q E s:=by
  obtain ⟨o,ho,hc,hd⟩:=id hit
  obtain ⟨ol,hol,_,nl,hdl⟩:=ht
  unfold Builtin.SmallTypes.nextOf
  refine wpAny_bind (wpAny_callSpecial?_slot (name:=Str.ofString "__next__") hit.typeIs F.slot_tuple_iterator_next (wpAny_call_entry F.slot_tuple_iterator_next hit.typeIs F.entry_tuple_iterator_next ?_ (F.args_tuple_iterator_next_1 _)))
  show wpAny _ _ (field (.ref it) 0 >>= _) _ _ s
  refine wpAny_bind (wpAny_field ho hd (x:=.ref tp) rfl ?_)
  rw [if_neg (show ¬((Value.ref tp == Value.none)=true) from Bool.false_ne_true)]
  refine wpAny_bind (wpAny_field ho hd (x:=.int i 0) rfl (wpAny_bind (wpAny_seqItems hol hdl ?_)))
  simp only [Int.toNat_natCast,hx]
  refine wpAny_bind (wpAny_rule (wpAny_bind (wpAny_setField ho hd (by simp) ?_)))
  refine wpAny_bind (m:=newExc (.type "StopIteration") []) ?_
  simp only [newExc,newTuple]
  refine wpAny_bind (wpAny_newObj_type (wpAny_bind (m:=firstArgMember _ _) (wpAny_of_eq (a:=Value.none) (by first | rfl | (simp only [firstArgMember]; rfl)) (wpAny_newObj_type ?_ (by size_fits)))) (by size_fits))
  simp only [raiseNew]
  refine wpAny_bind (wpAny_handled ?_)
  rw [show A.in1.handled=none from hh]
  exact wpAny_bind (wpAny_pure (wpAny_throw (hE _ _ (((Heap.SameBut.update ..).extBut.push _).push _) ⟨_,Heap.get?_push_size _ rfl,rfl⟩)))
theorem enT_step {e it tp:Addr} {i:Nat} {its:Array Value} {x old:Value} {Q:Value→Shared→Prop} (he:IsEnum s.heap e it i old) (hit:s.heap.IsTupleIter it tp i) (ht:s.heap.IsTuple tp its) (hx:its[i]?=some x) (hne:e≠it)
    (hQ:∀h',IsEnumOut h' e it ((i:Int)+1) x s.heap.objs.size→h'.IsTupleIter it tp (i+1)→h'.get? s.heap.objs.size=some { cls:=.type "tuple",data:=.seq #[.int i s.toks,x] }→h'.objs.size=s.heap.objs.size+1→(∀b o,b≠e→b≠it→s.heap.get? b=some o→h'.get? b=some o)→Q (.ref s.heap.objs.size) { s with heap:=h',toks:=s.toks+1 }) :
    wpAny (model prog w) A (Builtin.«enumerate.__next__» ⟨[.ref e],[]⟩) (fun fin s'=>∃v,fin=.done (.ret v)∧Q v s') E s:=by
  obtain ⟨hp,g,d,tk,os⟩:=s
  show wpAny _ _ (field (.ref e) 2 >>= _) _ _ _
  refine wpAny_bind (wpAny_field he rfl (x:=.ref it) rfl (wpAny_bind (nextT_item hit ht hx fun h1 hit1 hs1=>?_)))
  replace hs1:Heap.SameBut it hp h1:=hs1
  have he1:IsEnum h1 e it i old:=(hs1.2 e hne).trans he
  refine wpAny_bind (wpAny_field (s:=⟨h1,g,d,tk,os⟩) he1 rfl (x:=rawInt i) rfl ?_)
  refine wpAny_bind (wpAny_field (s:=⟨h1,g,d,tk,os⟩) he1 rfl (x:=.none) rfl ?_)
  show wpAny _ _ (mkInt i >>= _) _ _ ⟨h1,g,d,tk,os⟩
  refine wpAny_bind (wpAny_mkInt ?_)
  show wpAny _ _ (setField (.ref e) 3 (rawInt ((i:Int)+1)) >>= _) _ _ ⟨h1,g,d,tk+1,os⟩
  refine wpAny_bind (wpAny_setField_rec he1 (by simp) fun h2 he2 hs2=>?_)
  replace hs2:Heap.SameBut e h1 h2:=hs2
  replace he2:IsEnum h2 e it ((i:Int)+1) old:=he2
  show wpAny _ _ (setField (.ref e) 4 .none >>= _) _ _ ⟨h2,g,d,tk+1,os⟩
  refine wpAny_bind (wpAny_setField_rec he2 (by simp) fun h3 he3 hs3=>?_)
  replace hs3:Heap.SameBut e h2 h3:=hs3
  replace he3:IsEnum h3 e it ((i:Int)+1) old:=he3
  show wpAny _ _ (newTuple [.int i tk,x] >>= _) _ _ ⟨h3,g,d,tk+1,os⟩
  refine wpAny_bind (wpAny_newTuple ?_)
  have he4:IsEnum (h3.push { cls:=.type "tuple",data:=.seq #[.int i tk,x] }) e it ((i:Int)+1) old:=Heap.get?_push_of_some _ he3
  obtain ⟨h4,hh4⟩:∃z,z=h3.push { cls:=.type "tuple",data:=.seq #[.int i tk,x] }:=⟨_,rfl⟩
  rw [←hh4] at he4
  have hsz:h3.objs.size=hp.objs.size:=by rw [hs3.1,hs2.1,hs1.1]
  have hel:hp.objs.size≠e:=Nat.ne_of_gt (Heap.lt_size he)
  have ht4:h4.get? hp.objs.size=some { cls:=.type "tuple",data:=.seq #[.int i tk,x] }:=by rw [hh4,←hsz]; exact Heap.get?_push_size _ rfl
  have hz4:h4.objs.size=hp.objs.size+1:=by rw [hh4,Heap.size_push,hsz]
  have hk4:∀b o,b≠e→b≠it→hp.get? b=some o→h4.get? b=some o:=fun b o q1 q2 q3=>by
    rw [hh4]
    exact Heap.get?_push_of_some _ (hs3.extBut b o q1 (hs2.extBut b o q1 (hs1.extBut b o q2 q3)))
  have hit4:h4.IsTupleIter it tp (i+1):=by
    obtain ⟨o,ho,r⟩:=(hit1.extBut hs2.extBut (Ne.symm hne)).extBut hs3.extBut (Ne.symm hne)
    exact ⟨o,by rw [hh4]; exact Heap.get?_push_of_some _ ho,r⟩
  show wpAny _ _ (Builtin.SmallTypes.ownedTupleIsFree (.ref e) >>= _) _ _ ⟨h3.push { cls:=.type "tuple",data:=.seq #[.int i tk,x] },g,d,tk+1,os⟩
  rw [←hh4,hsz]
  refine wpAny_bind ?_
  unfold Builtin.SmallTypes.ownedTupleIsFree
  refine wpAny_bind (wpAny_field he4 rfl (x:=.none) rfl (wpAny_pure ?_))
  simp only [if_true]
  refine wpAny_bind (wpAny_rule (wpAny_bind (wpAny_field he4 rfl (x:=old) rfl (wpAny_bind (wpAny_setField_rec he4 (by simp) fun h5 he5 hs5=>?_)))))
  replace hs5:Heap.SameBut e h4 h5:=hs5
  replace he5:IsEnum h5 e it ((i:Int)+1) x:=he5
  refine wpAny_bind (m:=Builtin.SmallTypes.ownedTupleHandOut (.ref e) (.ref hp.objs.size)) ?_
  unfold Builtin.SmallTypes.ownedTupleHandOut
  refine wpAny_bind (wpAny_setField_rec he5 (by simp) fun h6 he6 hs6=>?_)
  replace hs6:Heap.SameBut e h5 h6:=hs6
  replace he6:IsEnumOut h6 e it ((i:Int)+1) x hp.objs.size:=he6
  refine wpAny_setField_rec he6 (by simp) fun h7 he7 hs7=>?_
  replace hs7:Heap.SameBut e h6 h7:=hs7
  replace he7:IsEnumOut h7 e it ((i:Int)+1) x hp.objs.size:=he7
  have up:∀b o,b≠e→h4.get? b=some o→h7.get? b=some o:=fun b o q1 q2=>hs7.extBut b o q1 (hs6.extBut b o q1 (hs5.extBut b o q1 q2))
  refine wpAny_bind (wpAny_letGo (wpAny_pure ⟨_,rfl,hQ h7 he7 ?_ (up _ _ hel ht4) (by rw [hs7.1,hs6.1,hs5.1,hz4]) fun b o q1 q2 q3=>up b o q1 (hk4 b o q1 q2 q3)⟩))
  obtain ⟨o,ho,r⟩:=hit4
  exact ⟨o,up _ _ (Ne.symm hne) ho,r⟩
theorem enT_item {e it tp:Addr} {i:Nat} {its:Array Value} {x old:Value} {Q:Option Value→Shared→Prop} (he:IsEnum s.heap e it i old) (hit:s.heap.IsTupleIter it tp i) (ht:s.heap.IsTuple tp its) (hx:its[i]?=some x) (hne:e≠it)
    (hQ:∀h',IsEnumOut h' e it ((i:Int)+1) x s.heap.objs.size→h'.IsTupleIter it tp (i+1)→h'.get? s.heap.objs.size=some { cls:=.type "tuple",data:=.seq #[.int i s.toks,x] }→h'.objs.size=s.heap.objs.size+1→(∀b o,b≠e→b≠it→s.heap.get? b=some o→h'.get? b=some o)→Q (some (.ref s.heap.objs.size)) { s with heap:=h',toks:=s.toks+1 }) :
    wpAny (model prog w) A (pyNext (.ref e)) Q E s:=by
  have hT:s.TypeIs (.ref e) "enumerate":=⟨_,he,rfl⟩
  unfold pyNext
  exact wpAny_bind (wpAny_attempt (wpAny_callSpecial?_slot (name:=Str.ofString "__next__") hT F.slot_enumerate_next (wpAny_call_entry F.slot_enumerate_next hT F.entry_enumerate_next (enT_step he hit ht hx hne fun h' a b c d k=>wpAny_pure (hQ h' a b c d k)) (F.args_enumerate_next_1 _))))
theorem enT_end {e it tp:Addr} {i:Nat} {its:Array Value} {old:Value} {Q:Option Value→Shared→Prop} (hh:A.handled=none) (he:IsEnum s.heap e it i old) (hit:s.heap.IsTupleIter it tp i) (ht:s.heap.IsTuple tp its) (hx:its[i]?=none)
    (hQ:∀h',Heap.ExtBut it s.heap h'→Q none { s with heap:=h' }):wpAny (model prog w) A (pyNext (.ref e)) Q E s:=by
  have hT:s.TypeIs (.ref e) "enumerate":=⟨_,he,rfl⟩
  unfold pyNext
  refine wpAny_bind (wpAny_attempt (wpAny_callSpecial?_slot (name:=Str.ofString "__next__") hT F.slot_enumerate_next (wpAny_call_entry F.slot_enumerate_next hT F.entry_enumerate_next ?_ (F.args_enumerate_next_1 _))))
  show wpAny _ _ (field (.ref e) 2 >>= _) _ _ _
  refine wpAny_bind (wpAny_field he rfl (x:=.ref it) rfl (wpAny_bind (nextT_end hh hit ht hx fun h' x he' hx'=>?_)))
  obtain ⟨o,ho,hc⟩:=hx'
  exact wpAny_bind (wpAny_isInstance (T:="StopIteration") (b:=true) ⟨o,ho,hc⟩ isSubtype_stop (wpAny_pure (hQ _ he')))
def Ite (K:PySem.W.Frag) (a:Addr):It:=
  ⟨fun i H=>∃xs x,SqT K H a xs∧xs[i]?=some x,fun i H x H'=>∃p v,x=.ref p∧H p=none∧H'=upd H p (.tup [.int i,v])∧∀xs,SqT K H a xs→xs[i]?=some v,fun i H=>∃xs,SqT K H a xs∧xs.length≤i⟩
theorem turn_enT {P:Program} {w:World} {K:PySem.W.Frag} {es:List Expr} {x1} {pos:Pos} (a e it:Addr) (hne:e≠it) (ha:a≠e) (hb:a≠it):Turn P w K (.Tuple es x1 pos) (Ite K a) [e,it] e (fun i h=>(∃old,IsEnum h e it i old)∧h.IsTupleIter it a i) where
  mem:=by simp
  obj:=fun i h st b hb=>by
    obtain ⟨⟨old,st1⟩,o,e1,c,d⟩:=st
    have q:b=e∨b=it:=by simpa using hb
    rcases q with rfl | rfl
    · exact ⟨_,st1,fun v z=>by
        have z':Data.fields _=Data.cell v:=z
        cases z'⟩
    · exact ⟨o,e1,fun v z=>by rw [d] at z; cases z⟩
  keep:=fun i h h' st k=>by
    obtain ⟨⟨old,st1⟩,o,e1,r⟩:=st
    exact ⟨⟨old,k e (by simp) _ st1⟩,o,k it (by simp) o e1,r⟩
  item:=by
    intro X hP hw hK hc i pins s σ H E I hf st hg
    subst hP hw hK
    obtain ⟨⟨old,st1⟩,st2⟩:=st
    obtain ⟨xs,x,hq,hx⟩:=hg
    obtain ⟨its,rv,p,hz⟩:=I.tuple hq
    obtain ⟨u,hu,ru⟩:=rv.get hx
    obtain ⟨f0,f1,f2,f3,f4,f5⟩:=hf e (by simp)
    obtain ⟨g0,g1,g2,g3,g4,g5⟩:=hf it (by simp)
    refine enT_item st1 st2 (show s.heap.IsTuple a its.toArray from p) (x:=u) (by simpa using hu) hne fun h' out it' tp' sz' kk=>?_
    have hes:e<s.heap.objs.size:=Heap.lt_size st1
    have his:it<s.heap.objs.size:=by obtain ⟨o,q,_⟩:=st2; exact Heap.lt_size q
    refine ⟨_,rfl,wpAny_letOwnedTupleGo_enum out fun h2 e2 s2=>?_⟩
    replace s2:Heap.SameBut e h' h2:=s2
    have tp2:h2.get? s.heap.objs.size=some { cls:=.type "tuple",data:=.seq #[.int i s.toks,u] }:=s2.extBut _ _ (Nat.ne_of_gt hes) tp'
    have k2:∀b o,b≠e→b≠it→s.heap.get? b=some o→h2.get? b=some o:=fun b o q1 q2 q3=>s2.extBut b o q1 (kk b o q1 q2 q3)
    have hn:H s.heap.objs.size=none:=I.hok.fresh (Nat.le_refl _)
    have nn:∀{b:Addr} {o:HO},H b=some o→b≠s.heap.objs.size:=fun q=>ne_of_none q hn
    have nch:∀{b:Addr},b∉[e,it]→b≠e∧b≠it:=fun hb=>⟨fun z=>hb (by simp [z]),fun z=>hb (by simp [z])⟩
    have new:ObjOk X.prog X.w (upd H s.heap.objs.size (.tup [.int i,x])) h2 s.heap.objs.size (.tup [.int i,x]):=⟨by show 2≤sizeLine; decide,[.int i s.toks,u],.cons ⟨_,rfl⟩ (.cons ru .nil),⟨_,tp2,rfl,_,rfl⟩⟩
    have I1:Inv X pins σ (upd H s.heap.objs.size (.tup [.int i,x])) { s with heap:=h2,toks:=s.toks+1 }:=by
      refine I.step (g':=s.gens) (d':=s.drawn) (ch:=[e,it]) (fun b hb=>?_) (fun b o _ _ hc e' _=>k2 b o (nch hc).1 (nch hc).2 e') (fun b o _ _ hc e' _=>⟨o.slots,k2 b o (nch hc).1 (nch hc).2 e'⟩) (fun b o _ e' n=>by rw [upd_ne (Nat.ne_of_lt (Heap.lt_size e'))]; exact n)
        (fun b o hc e'=>⟨o,k2 b o (nch hc).1 (nch hc).2 e'⟩) (fun b _ q=>by rw [upd_ne (nn q)]; exact q) (fun b _ _ q=>by rw [upd_ne (nn q)]; exact q) (fun b ps q=>⟨#[],by rw [upd_ne (nn q),q]; simp⟩) (fun m hm=>?_) (fun b v q=>?_) I.bare
      · have z:b=e∨b=it:=by simpa using hb
        rcases z with rfl | rfl
        · exact ⟨f3,f1,f4,f5⟩
        · exact ⟨g3,g1,g4,g5⟩
      · obtain ⟨o,es,ep,ho,r⟩:=hm
        exact ⟨o,es,ep,k2 _ o (Ne.symm f1) (Ne.symm g1) ho,r⟩
      · by_cases hb:b=s.heap.objs.size
        · subst hb; rw [upd_same] at q; cases q; exact new
        · rw [upd_ne hb] at q
          refine (I.hok b v q).stay (fun c o hc z=>k2 c o ?_ ?_ z) (fun c z=>by rw [upd_ne (nn z)]; exact z) fun c _ z=>by rw [upd_ne (nn z)]; exact z
          · rcases hc with z | z
            · rw [z]; exact fun y=>by rw [y,f0] at q; cases q
            · exact fun y=>by rw [y,f0] at z; cases z
          · rcases hc with z | z
            · rw [z]; exact fun y=>by rw [y,g0] at q; cases q
            · exact fun y=>by rw [y,g0] at z; cases z
    refine ⟨.ref s.heap.objs.size,_,I1,rfl,⟨_,x,rfl,hn,rfl,fun ys hy=>by rw [I.tuple_inj hy hq]; exact hx⟩,⟨⟨_,by simpa using e2⟩,?_⟩,fun b hb=>?_⟩
    · obtain ⟨o,q,r⟩:=it'
      exact ⟨o,s2.extBut _ _ (Ne.symm hne) q,r⟩
    · have z:b=e∨b=it:=by simpa using hb
      rcases z with rfl | rfl
      · rw [upd_ne (Nat.ne_of_lt hes)]; exact f0
      · rw [upd_ne (Nat.ne_of_lt his)]; exact g0
  done:=by
    intro X hP hw hK hc i pins s σ H E I hf st hg
    subst hP hw hK
    obtain ⟨⟨old,st1⟩,st2⟩:=st
    obtain ⟨xs,hq,hx⟩:=hg
    obtain ⟨its,rv,p,hz⟩:=I.tuple hq
    obtain ⟨f0,f1,f2,f3,f4,f5⟩:=hf it (by simp)
    have hl:=rv.length
    exact enT_end (I.ok.hd hc) st1 st2 (show s.heap.IsTuple a its.toArray from p) (by simp; omega) fun h' eb=>⟨rfl,I.turned (t':=s.toks) (fun b o hb e=>eb b o hb e) f0 f1 f3 f4 f5⟩
  self:=fun _ _ _ _ _ st h=>by
    obtain ⟨⟨old,st1⟩,_⟩:=st
    exact wpAny_pyIter_enum st1 h
end
end L2
namespace L2
open PySem PySem.Spec PyProof.Rows
section
variable {X:Cx}
def iEnT (K:PySem.W.Frag) (ta:TA):TI:=fun σ H R=>ta σ H fun vs H1=>∃a,vs=[.ref a]∧(∃xs,SqT K H1 a xs)∧R (Ite K a) H1
theorem pi_enT {l:Expr} {ta:TA} {es:List Expr} {x1} {p pos tp:Pos} (hg:Gl X "enumerate") (hm:X.mg "enumerate"=none) (ha:PA X [l] ta) (hs:starEach [l] X.env=[(false,eval l X.env)]:=by rfl):PI X (.Tuple es x1 tp) (.Call (.Name "enumerate" p) [l] [] pos) (iEnT X.K ta):=by
  intro pins s σ H R I h
  refine Call_ (ld_blt I hg hm boot_enumerate (PyProof.Rows.callWith_type1 (thn (ha pos pins s σ H _ I h) fun us s1 ⟨vs,H1,I1,r1,q1⟩=>?_) hs rfl))
  obtain ⟨a,e,⟨xs,hq⟩,q⟩:=q1
  subst e
  obtain ⟨u,rfl,ru⟩:=vals1 r1
  cases ru
  obtain ⟨its,rv,t1,hz⟩:=I1.tuple hq
  have T1:s1.heap.IsTuple a its.toArray:=t1
  have al:a<s1.heap.objs.size:=by obtain ⟨o,z,_⟩:=T1; exact Heap.lt_size z
  refine call_enT T1 fun h' e' i' z' k'=>wpAny_pyIter_enum (s:={ s1 with heap:=h' }) e' ?_
  have I2:Inv X pins σ H1 { s1 with heap:=h' }:=I1.kept (t':=s1.toks) k'
  refine ⟨s1.heap.objs.size+1,[s1.heap.objs.size+1,s1.heap.objs.size],_,_,H1,rfl,I2,turn_enT a _ _ (Nat.succ_ne_self _) (Nat.ne_of_lt (Nat.lt_succ_of_lt al)) (Nat.ne_of_lt al),⟨⟨_,e'⟩,i'⟩,fun b hb=>?_,q⟩
  have z:b=s1.heap.objs.size+1∨b=s1.heap.objs.size:=by simpa using hb
  have hb':s1.heap.objs.size≤b:=z.elim (fun y=>by rw [y]; exact Nat.le_succ _) fun y=>by rw [y]; exact Nat.le_refl _
  exact I1.fpOk hb' (I1.hok.fresh hb')
end
end L2
namespace L2.MM
open PySem PySem.Spec PyProof.Rows
section
variable {X:Cx}
def forE (i j:Nat) (body:SM):Nat→List D→SM
  | _,[]=>fun ρ θ=>.ok (.nx,ρ) θ
  | k,x::r=>fun ρ θ=>(body ((ρ.set i (.val (.int (k:Nat)))).set j (.val x)) θ).bind (loopK (forE i j body (k+1) r))
def mForE (fa:AM) (i j:Nat) (body:SM):SM:=fun ρ θ=>(fa ρ θ).bind fun ds θ=>match ds with
  | [.tup xs]=>forE i j body 0 xs ρ θ
  | _=>.bad
theorem ms_forE {l:Expr} {body:List Stmt} {fa:AM} {fb:SM} {x y:Str} {x1} {p p1 p2 tp cp pos:Pos} (i j:Nat) (hN:X.N.Nodup) (hp:PassesOwn (model X.prog X.w) X.A X.env X.xe) (hm:X.mg "enumerate"=none) (ha:MA X [l] fa) (hb:MSs X body fb) (hc:X.calm=true:=by rfl)
    (hg:Gl X "enumerate":=by rfl) (hs:starEach [l] X.env=[(false,eval l X.env)]:=by rfl)
    (hi:X.N[i]?=some x:=by rfl) (hx:Loc X.env.scope x:=by first | exact Or.inl rfl | exact Or.inr rfl) (hf:X.fn x=true∨X.env.scope.names.lookup x=some .local:=by first | exact .inl rfl | exact .inr rfl)
    (hj:X.N[j]?=some y:=by rfl) (hy:Loc X.env.scope y:=by first | exact Or.inl rfl | exact Or.inr rfl) (hf':X.fn y=true∨X.env.scope.names.lookup y=some .local:=by first | exact .inl rfl | exact .inr rfl)
    (hse:∀z,foldedSetIterable (.Call (.Name "enumerate" p) [l] [] cp) X.env z=pure z:=by intro _; rfl)
    (ha1:(assignEach [.Name x p1,.Name y p2] X.env).map (·.2)=assign (.Name x p1) X.env::(assignEach [.Name y p2] X.env).map (·.2):=by rfl) (ha2:(assignEach [.Name y p2] X.env).map (·.2)=assign (.Name y p2) X.env::(assignEach [] X.env).map (·.2):=by rfl)
    (hn:(assignEach [.Name x p1,.Name y p2] X.env).length=2:=by rfl) (hst:(assignEach [.Name x p1,.Name y p2] X.env).findIdx? (·.1)=none:=by rfl) :
    MS X (.For (.Tuple [.Name x p1,.Name y p2] x1 tp) (.Call (.Name "enumerate" p) [l] [] cp) body [] pos) (mForE fa i j fb):=
  PS.imp (ps_for hp hc (pi_enT hg hm ha hs) (pg_tup hc (pgs_cons (pg_name hN hi hx hf) (pgs_cons (pg_name hN hj hy hf') pgs_nil ha2) ha1) hn hst) hb hse) fun Dn σ H h=>by
  obtain ⟨B,θ,ρ,F,w⟩:=h
  refine tMA_mono (stepSA F w) ?_
  rintro vs H1 ⟨B1,θ1,ds,E1,F1,rd,w1⟩
  split at w1
  · rename_i xs
    obtain ⟨v,rfl,rv⟩:=rd.one
    obtain ⟨a,us,rfl,g1,okA,ru⟩:=rv
    refine ⟨a,rfl,⟨us,SqT.of g1⟩,fun k m σ H=>∃B θ ρ,Frm X.cl B θ ρ σ H∧RepV B H (.tup xs) (.ref a)∧m=xs.length-k∧k≤xs.length∧wpS X σ B H (forE i j fb k (xs.drop k) ρ θ) Dn,⟨xs.length,B1,θ1,ρ,F1,⟨a,us,rfl,g1,okA,ru⟩,rfl,Nat.zero_le _,w1⟩,?_⟩
    rintro k m σ2 H2 ⟨B2,θ2,ρ2,F2,rv2,rfl,hk,w2⟩
    obtain ⟨a',us2,e2,g2,ok2,ru2⟩:=id rv2
    cases e2
    by_cases hlt:k<xs.length
    · rw [List.drop_eq_getElem_cons hlt] at w2
      unfold forE at w2
      obtain ⟨v,q1,q2⟩:=ru2.get (List.getElem?_eq_getElem hlt)
      refine .inr ⟨⟨us2,v,SqT.of g2,q1⟩,fun σ' H'=>∃B' θ' ρ',ExtS B2 B' H2 H'∧Frm X.cl B' θ' ρ' σ' H'∧wpS X σ' B' H' (forE i j fb (k+1) (xs.drop (k+1)) ρ' θ') Dn,?_,fun z H' hz=>?_⟩
      · rintro σ' H' ⟨B',θ',ρ',E',F',w'⟩
        exact ⟨xs.length-(k+1),by omega,B',θ',ρ',F',rv2.ext E',rfl,hlt,w'⟩
      · obtain ⟨t,v',rfl,ht,rfl,hv⟩:=hz
        have:=hv us2 (SqT.of g2)
        rw [q1] at this
        cases this
        have E3:=ext_new F2.good ht (.tup [.int k,v])
        have F3:=F2.ext E3 (good_new F2.good ht (.tup [.int k,v]))
        refine ⟨t,[.int k,v],rfl,SqT.of upd_same,rfl,.int k,[v],rfl,v,[],rfl,rfl,?_⟩
        have F4:=(F3.set i (d:=.int (k:Nat)) (v:=.int k) rfl).set j (q2.ext E3.toExtS)
        refine ⟨B2,θ2,_,F4,?_⟩
        exact wpS.trans (wpS.loop w2) E3.toExtS
    · have e:k=xs.length:=by omega
      subst e
      rw [List.drop_length] at w2
      unfold forE at w2
      exact .inl ⟨⟨us2,SqT.of g2,by rw [ru2.len]; exact Nat.le_refl _⟩,wpS_now F2 w2⟩
  · exact w1.elim
end
end L2.MM
set_option Elab.async false
set_option linter.all false
set_option maxRecDepth 100000
set_option maxHeartbeats 4000000
namespace L2
open PySem PySem.Spec PyProof.Rows
section
variable {X:Cx} {pins:List (Addr×Obj)} {σ:St} {H:Hp} {s:Shared} {a:Addr} {kvs:List (Key×V)} {k:Key} {z:V} {u r:Value} {A:Around} {E:Value→Shared→Prop}
theorem d_setD {Q:Value→Shared→Prop} (I:Inv X pins σ H s) (e:H a=some (.dK kvs)) (ry:RelV (kV k) u) (rz:RelV z r) (hl:kvs.length<sizeLine)
    (h1:∀v w' s',valV kvs k=some v→Inv X pins σ H s'→RelV v w'→Q w' s') (h2:valV kvs k=none→∀s',Inv X pins σ (upd H a (.dK (putK kvs k z))) s'→Q r s'):wpAny (model X.prog X.w) A (call (.builtin "dict.setdefault") [.ref a,u,r]) Q E s:=by
  obtain ⟨z1,hd,vs,rel,dd⟩:=dk_of I.hok e
  have hv:vs.length≤sizeLine:=by rw [←rel.length]; exact z1
  refine call_meetsIn PySem.F.slot_dict_setdefault dd.typeIs PySem.F.entry_dict_setdefault (PySem.F.args_dict_setdefault_3 _ _ _) (kt_meets_setdefault (mixKind X.prog X.w) a (kV_is ry) hd r) ⟨vs,dd,hv,fun v q=>?_,fun q h' dd' hs=>?_⟩
  · cases l:valV kvs k with
    | none=>
      have:valueAt vs k=none:=RelO.none_of (by rw [←l]; exact rel.val k)
      rw [this] at q
      cases q
    | some v0=>
      obtain ⟨w1,hw,r1⟩:=RelO.some_of (v:=v0) (o:=valueAt vs k) (by rw [←l]; exact rel.val k)
      have z2:w1=v:=by rw [hw] at q; injection q
      subst z2
      exact h1 v0 w1 _ l (I.tok _) r1
  · have l:valV kvs k=none:=by
      cases l:valV kvs k with
      | none=>rfl
      | some v0=>
        obtain ⟨w',hw,rw'⟩:=RelO.some_of (v:=v0) (o:=valueAt vs k) (by rw [←l]; exact rel.val k)
        rw [hw] at q
        cases q
    have hl2:(putK kvs k z).length≤sizeLine:=by have:=length_putK kvs k z; omega
    have he:∃q,h'.get? a=some q:=let ⟨q,_,_,hq,_⟩:=dd'; ⟨q,hq⟩
    exact h2 l _ (d_write I (by rw [e]; exact True.intro) hs he (dk_new hl2 hd (rel.put k rz) dd'))
end
def tDSetD (td ty tx:TE):TE:=fun σ H Q=>td σ H fun x H1=>∃a,x=.ref a∧IsD H1 a∧ty σ H1 fun y H2=>tx σ H2 fun z H3=>∃kvs k,H3 a=some (.dK kvs)∧y=kV k∧kvs.length<sizeLine∧
  (∀v,valV kvs k=some v→Q v H3)∧(valV kvs k=none→Q z (upd H3 a (.dK (putK kvs k z))))
theorem pe_dsetd {X:Cx} {o e f:Expr} {apos cpos:Pos} {td ty tx:TE} (ho:PE X o td) (he:PE X e ty) (hf:PE X f tx) (m:M2 X o "setdefault" apos e f cpos):PE X (.Call (.Attribute o "setdefault" apos) [e,f] [] cpos) (tDSetD td ty tx):=by
  intro pins s σ H Q I h
  refine wpAny_Call_method m.base m.few m.line PySem.F.plainAttrs_dict PySem.F.slot_dict_setdefault PySem.F.type_dict_setdefault (thn (ho pins s σ H _ I h) fun u s1 ⟨x,H1,I1,rx,a,ex,d,q1⟩=>?_)
  subst ex
  cases (show u=Value.ref a from rx)
  obtain ⟨t1,t2,_⟩:=isD_at I1 d
  refine ⟨t1,t2,?_⟩
  rw [m.trees]
  refine Calls.callWith_builtin rfl (Calls.evalArgs_plain (Calls.spliced_cons (thn (he pins s1 σ H1 _ I1 q1) fun iv s2 ⟨y,H2,I2,ry,q2⟩=>Calls.spliced_cons (thn (hf pins s2 σ H2 _ I2 q2) fun fv s3 ⟨z,H3,I3,rz,kvs,k,ea,ey,hl,q3,q4⟩=>Calls.spliced_nil ?_))))
  subst ey
  exact d_setD I3 ea ry rz hl (fun v w' s4 l I4 rw'=>⟨v,H3,I4,rw',q3 v l⟩) fun l s4 I4=>⟨z,_,I4,rz,q4 l⟩
end L2
namespace L2.MM
open PySem PySem.Spec PyProof.Rows
def valD (kvs:List (Key×D)) (k:Key):Option D:=(kvs.find? fun kv=>decide (kv.1=k)).map (·.2)
def putD (kvs:List (Key×D)) (k:Key) (v:D):List (Key×D):=
  if (kvs.any fun kv=>decide (kv.1=k))=true then kvs.map (fun kv=>if kv.1=k then (kv.1,v) else kv) else kvs++[(k,v)]
def dropD (kvs:List (Key×D)) (k:Key):List (Key×D):=kvs.filter fun kv=>decide (kv.1≠k)
def keyD:D→Option Key
  | .int n=>some (.inl n)
  | .str x=>some (.inr x)
  | _=>none
def dkOf (θ:Sto):D→Option (Nat×List (Key×D))
  | .ref l=>match θ[l]? with
    | some (.dK kvs)=>some (l,kvs)
    | _=>none
  | _=>none
section
variable {B:Bx} {H:Hp}
theorem RepKV.valD (k:Key):∀{ks:List (Key×D)} {vs:List (Key×V)},RepKV B H ks vs→(L2.MM.valD ks k=Option.none∧valV vs k=Option.none)∨∃d v,L2.MM.valD ks k=some d∧valV vs k=some v∧RepV B H d v
  | _,_,.nil=>.inl ⟨rfl,rfl⟩
  | (k1,d1)::ks,(k2,v2)::vs,.cons ⟨h1,h2⟩ t=>by
    cases (show k1=k2 from h1)
    by_cases e:k1=k
    · refine .inr ⟨d1,v2,?_,?_,h2⟩<;>simp [L2.MM.valD,valV,List.find?_cons,e]
    · have:=RepKV.valD k t
      simpa [L2.MM.valD,valV,List.find?_cons,e] using this
theorem RepKV.any (k:Key):∀{ks:List (Key×D)} {vs:List (Key×V)},RepKV B H ks vs→(ks.any fun kv=>decide (kv.1=k))=(vs.any fun kv=>decide (kv.1=k))
  | _,_,.nil=>rfl
  | (k1,d1)::ks,(k2,v2)::vs,.cons ⟨h1,h2⟩ t=>by
    cases (show k1=k2 from h1)
    rw [List.any_cons,List.any_cons,RepKV.any k t]
theorem RepKV.snoc {k:Key} {d:D} {v:V} (r:RepV B H d v):∀{ks:List (Key×D)} {vs:List (Key×V)},RepKV B H ks vs→RepKV B H (ks++[(k,d)]) (vs++[(k,v)])
  | _,_,.nil=>.cons ⟨rfl,r⟩ .nil
  | _,_,.cons h t=>.cons h (RepKV.snoc r t)
theorem RepKV.over {k:Key} {d:D} {v:V} (r:RepV B H d v):∀{ks:List (Key×D)} {vs:List (Key×V)},RepKV B H ks vs→RepKV B H (ks.map fun kv=>if kv.1=k then (kv.1,d) else kv) (vs.map fun kv=>if kv.1=k then (kv.1,v) else kv)
  | _,_,.nil=>.nil
  | (k1,d1)::ks,(k2,v2)::vs,.cons ⟨h1,h2⟩ t=>by
    cases (show k1=k2 from h1)
    rw [List.map_cons,List.map_cons]
    refine .cons ?_ (RepKV.over r t)
    by_cases e:k1=k
    · rw [if_pos (show (k1,d1).1=k from e),if_pos (show (k1,v2).1=k from e)]; exact ⟨rfl,r⟩
    · rw [if_neg (show ¬(k1,d1).1=k from e),if_neg (show ¬(k1,v2).1=k from e)]; exact ⟨rfl,h2⟩
theorem RepKV.putD {k:Key} {d:D} {v:V} (r:RepV B H d v) {ks:List (Key×D)} {vs:List (Key×V)} (h:RepKV B H ks vs):RepKV B H (L2.MM.putD ks k d) (putK vs k v):=by
  unfold L2.MM.putD putK
  rw [h.any k]
  split
  · exact h.over r
  · exact h.snoc r
theorem RepKV.dropD (k:Key):∀{ks:List (Key×D)} {vs:List (Key×V)},RepKV B H ks vs→RepKV B H (L2.MM.dropD ks k) (dropK vs k)
  | _,_,.nil=>.nil
  | (k1,d1)::ks,(k2,v2)::vs,.cons ⟨h1,h2⟩ t=>by
    cases (show k1=k2 from h1)
    have ih:=RepKV.dropD k t
    unfold L2.MM.dropD dropK at ih ⊢
    by_cases e:k1=k
    · rw [List.filter_cons_of_neg (by simpa using e),List.filter_cons_of_neg (by simpa using e)]; exact ih
    · rw [List.filter_cons_of_pos (by simpa using e),List.filter_cons_of_pos (by simpa using e)]; exact .cons ⟨rfl,h2⟩ ih
theorem keyD_rep {d:D} {v:V} {k:Key} (r:RepV B H d v) (h:keyD d=some k):v=kV k:=by
  cases d with
  | int n=>cases h; exact r
  | str x=>cases h; exact r
  | _=>cases h
theorem dkOf_at {cl:Mo} {θ:Sto} (G:Good cl B θ H) {d:D} {v:V} {l:Nat} {kvs:List (Key×D)} (r:RepV B H d v) (h:dkOf θ d=some (l,kvs)):l<B.n∧v=.ref (B.m l)∧∃vs,H (B.m l)=some (.dK vs)∧RepKV B H kvs vs:=by
  cases d with
  | ref k=>
    simp only [dkOf] at h
    split at h
    · rename_i kvs' e
      cases h
      obtain ⟨hl,rfl⟩:=r
      obtain ⟨vs,h1,h2⟩:=G.cel _ _ e
      exact ⟨hl,rfl,vs,h1,h2⟩
    · cases h
  | _=>cases h
end
section
variable {X:Cx}
theorem units1 {k:Nat} {A:Around} (hr:Room k A):A.units+1<cLine:=by have:=hr.un; omega
def mDIn (fi fo:EM):EM:=fun ρ θ=>(fi ρ θ).bind fun y θ=>(fo ρ θ).bind fun d θ=>match keyD y,dkOf θ d with
  | some k,some (_,kvs)=>.ok (.bl (valD kvs k).isSome) θ
  | _,_=>.bad
theorem din_imp {fi fo:EM} (σ:St) (H:Hp) (Q:VK) (h:tM X (mDIn fi fo) σ H Q):tDIn (tM X fi) (tM X fo) σ H Q:=by
  obtain ⟨B,θ,ρ,F,w⟩:=h
  refine tM_mono (step F w) ?_
  rintro y H1 ⟨B1,θ1,dy,E1,F1,ry,w1⟩
  refine tM_mono (step F1 w1) ?_
  rintro v H2 ⟨B2,θ2,d,E2,F2,rd,w2⟩
  split at w2
  · rename_i k l kvs ek ed
    obtain ⟨hl,rfl,vs,h1,h2⟩:=dkOf_at F2.good rd ed
    cases keyD_rep ry ek
    refine ⟨_,valV vs k,rfl,DGet.k h1,?_⟩
    have e:(valD kvs k).isSome=(valV vs k).isSome:=by
      rcases h2.valD k with ⟨q1,q2⟩ | ⟨d,v,q1,q2,_⟩<;>(rw [q1,q2]; rfl)
    rw [←e]
    exact wp_now (Rel:=RepV) F2.good (show RepV B2 H2 (.bl (valD kvs k).isSome) (.bl (valD kvs k).isSome) from rfl) w2
  · exact w2.elim
theorem mt_din {i o:Expr} {fi fo:EM} {pos:Pos} {k:Nat} (hr:Room k X.A) (hi:ME X i fi) (ho:ME X o fo) (hm:behindInMarks .In o=false:=by rfl):MT X (.Compare i [.In] [o] pos) (mTest (mDIn fi fo)):=by
  refine PT.imp (pt_cmp (pc_din (units1 hr) hi ho) hm) fun σ H Q h=>?_
  exact din_imp σ H _ (tMT_test σ H Q h)
def mDPop (fo fe:EM):EM:=fun ρ θ=>(fo ρ θ).bind fun d θ=>match dkOf θ d with
  | none=>.bad
  | some _=>(fe ρ θ).bind fun y θ=>match keyD y,dkOf θ d with
    | some k,some (l,kvs)=>match valD kvs k with
      | some v=>.ok v (θ.set l (.dK (dropD kvs k)))
      | none=>.bad
    | _,_=>.bad
theorem me_dpop {o e:Expr} {fo fe:EM} {apos cpos:Pos} (ho:ME X o fo) (he:ME X e fe) (m:M1 X o "pop" apos e cpos):ME X (.Call (.Attribute o "pop" apos) [e] [] cpos) (mDPop fo fe):=by
  refine PE.imp (pe_dpop1 ho he m) fun σ H Q h=>?_
  obtain ⟨B,θ,ρ,F,w⟩:=h
  refine tM_mono (step F w) ?_
  rintro v H1 ⟨B1,θ1,d,E1,F1,rd,w1⟩
  split at w1
  · exact w1.elim
  · rename_i q ed
    obtain ⟨l,kvs⟩:=q
    obtain ⟨hl,rfl,vs,h1,h2⟩:=dkOf_at F1.good rd ed
    refine ⟨_,rfl,.inl ⟨vs,.inl h1⟩,?_⟩
    refine tM_mono (step F1 w1) ?_
    rintro y H2 ⟨B2,θ2,dy,E2,F2,ry,w2⟩
    split at w2
    · rename_i k l2 kvs2 ek ed2
      obtain ⟨hl2,e2,vs2,h3,h4⟩:=dkOf_at F2.good (rd.ext E2.toExtS) ed2
      cases keyD_rep ry ek
      have e3:B1.m l=B2.m l2:=by injection e2
      rw [e3]
      rcases h4.valD k with ⟨q1,q2⟩ | ⟨dv,v,q1,q2,rv⟩
      · rw [q1] at w2; exact w2.elim
      · rw [q1] at w2
        refine ⟨vs2,k,v,h3,rfl,q2,?_⟩
        have E3:=ext_set F2.good hl2 (.dK (dropK vs2 k))
        have G3:=good_set F2.good hl2 (o:=.dK (dropK vs2 k)) (c:=.dK (dropD kvs2 k)) ⟨_,upd_same,(h4.dropD k).ext E3.toExtS⟩
        exact w2 _ _ _ E3 G3 (rv.ext E3.toExtS)
    · exact w2.elim
def mDSetD (fo fe ff:EM):EM:=fun ρ θ=>(fo ρ θ).bind fun d θ=>match dkOf θ d with
  | none=>.bad
  | some _=>(fe ρ θ).bind fun y θ=>(ff ρ θ).bind fun z θ=>match keyD y,dkOf θ d with
    | some k,some (l,kvs)=>if kvs.length<BIG then (match valD kvs k with
      | some v=>.ok v θ
      | none=>.ok z (θ.set l (.dK (putD kvs k z)))) else .bad
    | _,_=>.bad
theorem me_dsetd {o e f:Expr} {fo fe ff:EM} {apos cpos:Pos} (ho:ME X o fo) (he:ME X e fe) (hf:ME X f ff) (m:M2 X o "setdefault" apos e f cpos):ME X (.Call (.Attribute o "setdefault" apos) [e,f] [] cpos) (mDSetD fo fe ff):=by
  refine PE.imp (pe_dsetd ho he hf m) fun σ H Q h=>?_
  obtain ⟨B,θ,ρ,F,w⟩:=h
  refine tM_mono (step F w) ?_
  rintro v H1 ⟨B1,θ1,d,E1,F1,rd,w1⟩
  split at w1
  · exact w1.elim
  · rename_i q ed
    obtain ⟨l,kvs⟩:=q
    obtain ⟨hl,rfl,vs,h1,h2⟩:=dkOf_at F1.good rd ed
    refine ⟨_,rfl,.inl ⟨vs,.inl h1⟩,?_⟩
    refine tM_mono (step F1 w1) ?_
    rintro y H2 ⟨B2,θ2,dy,E2,F2,ry,w2⟩
    refine tM_mono (step F2 w2) ?_
    rintro z H3 ⟨B3,θ3,dz,E3,F3,rz,w3⟩
    split at w3
    · rename_i k l2 kvs2 ek ed2
      obtain ⟨hl2,e2,vs2,h3,h4⟩:=dkOf_at F3.good ((rd.ext E2.toExtS).ext E3.toExtS) ed2
      cases keyD_rep ry ek
      have e3:B1.m l=B3.m l2:=by injection e2
      rw [e3]
      split at w3
      · rename_i hb
        refine ⟨vs2,k,h3,rfl,?_,fun v hv=>?_,fun hn=>?_⟩
        · have:=big_size (n:=kvs2.length+1) hb
          rw [RepKV.len h4]; omega
        · rcases h4.valD k with ⟨q1,q2⟩ | ⟨dv,v',q1,q2,rv⟩
          · rw [q2] at hv; cases hv
          · rw [q2] at hv; cases hv
            rw [q1] at w3
            exact wp_now (Rel:=RepV) F3.good rv w3
        · rcases h4.valD k with ⟨q1,q2⟩ | ⟨dv,v',q1,q2,rv⟩
          · rw [q1] at w3
            have E4:=ext_set F3.good hl2 (.dK (putK vs2 k z))
            have G4:=good_set F3.good hl2 (o:=.dK (putK vs2 k z)) (c:=.dK (putD kvs2 k dz)) ⟨_,upd_same,(h4.putD rz).ext E4.toExtS⟩
            exact w3 _ _ _ E4 G4 (rz.ext E4.toExtS)
          · rw [q2] at hn; cases hn
      · exact w3.elim
    · exact w3.elim
end
end L2.MM
set_option Elab.async false
set_option linter.all false
set_option maxRecDepth 100000
set_option maxHeartbeats 4000000
namespace My
open PySem L2 L2.MM
noncomputable section
def b_p_folded_1:SM:=(whileL (mTest (mOp gtM (mVar 1) (mC (.int 65535)))) (mSet 1 (mOp addM (mOp modM (mVar 1) (mC (.int 65536))) (mOp divM (mVar 1) (mC (.int 65536))))) 200)
def b_p_folded:SM:=(mSeq (mSet 1 (mOp addM (mOp mulM (mC (.int 256)) (mCB sumG (mCons (mSl3 (mVar 0) mNoPart mNoPart (mPart (mC (.int 2)))) mNil))) (mCB sumG (mCons (mSl3 (mVar 0) (mPart (mC (.int 1))) mNoPart (mPart (mC (.int 2)))) mNil))))
  (mSeq b_p_folded_1
  (mRet (mVar 1))))
def p_folded:GM:=mDef 1 2 b_p_folded
def b_p_sum_of:SM:=(mRet (mOp subM (mC (.int 65535)) (mCB p_folded (mCons (mVar 0) mNil))))
def p_sum_of:GM:=mDef 1 1 b_p_sum_of
def b_p_has:SM:=(mRet (mIte (mTest (mOp neM (mOp andM (mVar 0) (mVar 1)) (mC (.int 0)))) (mC (.int 1)) (mC (.int 0))))
def p_has:GM:=mDef 2 2 b_p_has
def b_p_length:SM:=(mSeq (mSet 1 (mOp ixM (mVar 0) (mC (.int 4))))
  (mRet (mOp addM (mOp addM (mCB lenG (mCons (mOp ixM (mVar 0) (mC (.int 7))) mNil)) (mCB p_has (mCons (mVar 1) (mCons (mC (.int 2)) mNil)))) (mCB p_has (mCons (mVar 1) (mCons (mC (.int 1)) mNil))))))
def p_length:GM:=mDef 1 2 b_p_length
def b_p_byte_of_head:SM:=(mRet (mOp mulM (mC (.int 16)) (mOp divM (mVar 0) (mC (.int 4)))))
def p_byte_of_head:GM:=mDef 1 1 b_p_byte_of_head
def b_p_two_bytes:SM:=(mRet (mLst (mCons (mOp modM (mOp divM (mVar 0) (mC (.int 256))) (mC (.int 256))) (mCons (mOp modM (mVar 0) (mC (.int 256))) mNil))))
def p_two_bytes:GM:=mDef 1 1 b_p_two_bytes
def b_p_four_bytes:SM:=(mRet (mOp addM (mCB p_two_bytes (mCons (mOp divM (mVar 0) (mC (.int 65536))) mNil)) (mCB p_two_bytes (mCons (mVar 0) mNil))))
def p_four_bytes:GM:=mDef 1 1 b_p_four_bytes
def b_p_bytes_ahead_of_sum:SM:=(mSeq (mSet 1 (mOp addM (mCB p_two_bytes (mCons (mOp ixM (mVar 0) (mC (.int 0))) mNil)) (mCB p_two_bytes (mCons (mOp ixM (mVar 0) (mC (.int 1))) mNil))))
  (mSeq (mSet 2 (mOp addM (mCB p_four_bytes (mCons (mOp ixM (mVar 0) (mC (.int 2))) mNil)) (mCB p_four_bytes (mCons (mOp ixM (mVar 0) (mC (.int 3))) mNil))))
  (mSeq (mSet 3 (mIte (mTest (mOp eqM (mOp ixM (mVar 0) (mC (.int 6))) (mC (.int 0)))) (mC (.int 20)) (mC (.int 24))))
  (mRet (mOp addM (mOp addM (mOp addM (mVar 1) (mVar 2)) (mLst (mCons (mCB p_byte_of_head (mCons (mVar 3) mNil)) (mCons (mOp ixM (mVar 0) (mC (.int 4))) mNil)))) (mCB p_two_bytes (mCons (mOp ixM (mVar 0) (mC (.int 5))) mNil)))))))
def p_bytes_ahead_of_sum:GM:=mDef 1 4 b_p_bytes_ahead_of_sum
def b_p_bytes_of_most:SM:=(mRet (mIte (mTest (mOp eqM (mVar 0) (mC (.int 0)))) (mLst mNil) (mOp addM (mLst (mCons (mC (.int 2)) (mCons (mC (.int 4)) mNil))) (mCB p_two_bytes (mCons (mVar 0) mNil)))))
def p_bytes_of_most:GM:=mDef 1 1 b_p_bytes_of_most
def b_p_put:SM:=(mSeq (mSet 1 (mCB p_bytes_ahead_of_sum (mCons (mVar 0) mNil)))
  (mSeq (mSet 2 (mOp addM (mOp addM (mLst (mCons (mC (.int 0)) (mCons (mC (.int 0)) mNil))) (mCB p_bytes_of_most (mCons (mOp ixM (mVar 0) (mC (.int 6))) mNil))) (mCB listG (mCons (mOp ixM (mVar 0) (mC (.int 7))) mNil))))
  (mRet (mOp addM (mOp addM (mVar 1) (mCB p_two_bytes (mCons (mCB p_sum_of (mCons (mOp addM (mOp addM (mVar 1) (mLst (mCons (mC (.int 0)) (mCons (mC (.int 0)) mNil)))) (mVar 2)) mNil)) mNil))) (mVar 2)))))
def p_put:GM:=mDef 1 3 b_p_put
def b_p_head_of:SM:=(mRet (mOp mulM (mOp divM (mOp ixM (mVar 0) (mC (.int 12))) (mC (.int 16))) (mC (.int 4))))
def p_head_of:GM:=mDef 1 1 b_p_head_of
def b_p_two_at:SM:=(mRet (mOp addM (mOp mulM (mC (.int 256)) (mOp ixM (mVar 0) (mVar 1))) (mOp ixM (mVar 0) (mOp addM (mVar 1) (mC (.int 1))))))
def p_two_at:GM:=mDef 2 2 b_p_two_at
def b_p_is_right_long_head:SM:=(mRet (mAndV (mOp eqM (mCB p_has (mCons (mOp ixM (mVar 0) (mC (.int 13))) (mCons (mC (.int 2)) mNil))) (mC (.int 1))) (mAndV (mOp eqM (mOp ixM (mVar 0) (mC (.int 20))) (mC (.int 2))) (mAndV (mOp eqM (mOp ixM (mVar 0) (mC (.int 21))) (mC (.int 4))) (mOp geM (mCB p_two_at (mCons (mVar 0) (mCons (mC (.int 22)) mNil))) (mC (.int 4)))))))
def p_is_right_long_head:GM:=mDef 1 1 b_p_is_right_long_head
def b_p_is_right:SM:=(mRet (mAndV (mOp geM (mCB lenG (mCons (mVar 0) mNil)) (mC (.int 20))) (mAndV (mOp inM (mOp ixM (mVar 0) (mC (.int 12))) (mTup (mCons (mCB p_byte_of_head (mCons (mC (.int 20)) mNil)) (mCons (mCB p_byte_of_head (mCons (mC (.int 24)) mNil)) mNil)))) (mAndV (mOp leM (mOp ixM (mVar 0) (mC (.int 13))) (mC (.int 31))) (mAndV (mChain leM leM (mC (.int 0)) (mOp subM (mCB lenG (mCons (mVar 0) mNil)) (mCB p_head_of (mCons (mVar 0) mNil))) (mC (.int 16))) (mAndV (mOp eqM (mCB p_two_at (mCons (mVar 0) (mCons (mC (.int 18)) mNil))) (mC (.int 0))) (mAndV (mOrV (mOp eqM (mCB p_head_of (mCons (mVar 0) mNil)) (mC (.int 20))) (mCB p_is_right_long_head (mCons (mVar 0) mNil))) (mOp eqM (mCB p_folded (mCons (mVar 0) mNil)) (mC (.int 65535))))))))))
def p_is_right:GM:=mDef 1 1 b_p_is_right
def b_p_four_at:SM:=(mRet (mOp addM (mOp mulM (mC (.int 65536)) (mCB p_two_at (mCons (mVar 0) (mCons (mVar 1) mNil)))) (mCB p_two_at (mCons (mVar 0) (mCons (mOp addM (mVar 1) (mC (.int 2))) mNil)))))
def p_four_at:GM:=mDef 2 2 b_p_four_at
def b_p_get_1:SM:=(mIf (mNot (mTru (mCB p_is_right (mCons (mVar 0) mNil)))) mBad mSkip)
def b_p_get:SM:=(mSeq b_p_get_1
  (mSeq (mSet 1 (mCB p_head_of (mCons (mVar 0) mNil)))
  (mSeq (mSet 2 (mIte (mTest (mOp eqM (mVar 1) (mC (.int 24)))) (mCB p_two_at (mCons (mVar 0) (mCons (mC (.int 22)) mNil))) (mC (.int 0))))
  (mSeq (mSet 3 (mTup (mCons (mCB p_two_at (mCons (mVar 0) (mCons (mC (.int 0)) mNil))) (mCons (mCB p_two_at (mCons (mVar 0) (mCons (mC (.int 2)) mNil))) mNil))))
  (mSeq (mSet 4 (mTup (mCons (mCB p_four_at (mCons (mVar 0) (mCons (mC (.int 4)) mNil))) (mCons (mCB p_four_at (mCons (mVar 0) (mCons (mC (.int 8)) mNil))) mNil))))
  (mRet (mOp addM (mOp addM (mVar 3) (mVar 4)) (mTup (mCons (mOp ixM (mVar 0) (mC (.int 13))) (mCons (mCB p_two_at (mCons (mVar 0) (mCons (mC (.int 14)) mNil))) (mCons (mVar 2) (mCons (mCB tupleG (mCons (mSl (mVar 0) (mPart (mVar 1)) mNoPart) mNil)) mNil))))))))))))
def p_get:GM:=mDef 1 5 b_p_get
def b_l_cell_1:SM:=(mIf (mTru (mVar 0)) (mRet (mOp ixM (mVar 0) (mOp modM (mVar 1) (mCB lenG (mCons (mVar 0) mNil))))) mSkip)
def b_l_cell:SM:=(mSeq b_l_cell_1
  (mRet (mC (.int 0))))
def l_cell:GM:=mDef 2 2 b_l_cell
def b_l_mix:SM:=(mSeq (mSet 2 (mOp modM (mOp addM (mCB l_cell (mCons (mVar 0) (mCons (mVar 1) mNil))) (mOp mulM (mC (.int 104729)) (mOp addM (mVar 1) (mC (.int 1))))) (mC (.int 4294967291))))
  (mSeq (mSet 2 (mOp modM (mOp mulM (mVar 2) (mC (.int 48271))) (mC (.int 4294967279))))
  (mRet (mOp modM (mOp addM (mOp mulM (mOp divM (mVar 2) (mC (.int 64))) (mC (.int 69621))) (mVar 2)) (mC (.int 4294967231))))))
def l_mix:GM:=mDef 2 3 b_l_mix
def b_l_two:SM:=(mRet (mLst (mCons (mOp divM (mVar 0) (mC (.int 256))) (mCons (mOp modM (mVar 0) (mC (.int 256))) mNil))))
def l_two:GM:=mDef 1 1 b_l_two
def b_l_folded_1:SM:=(mFor (mRng1 (mCons (mCB lenG (mCons (mVar 0) mNil)) mNil)) (gNm 2) (mSet 1 (mOp addM (mVar 1) (mOp mulM (mOp ixM (mVar 0) (mVar 2)) (mOp ixM (mLst (mCons (mC (.int 256)) (mCons (mC (.int 1)) mNil))) (mOp modM (mVar 2) (mC (.int 2))))))))
def b_l_folded_2:SM:=(whileL (mTest (mOp gtM (mVar 1) (mC (.int 65535)))) (mSet 1 (mOp addM (mOp modM (mVar 1) (mC (.int 65536))) (mOp divM (mVar 1) (mC (.int 65536))))) 200)
def b_l_folded:SM:=(mSeq (mSet 1 (mC (.int 0)))
  (mSeq b_l_folded_1
  (mSeq b_l_folded_2
  (mRet (mVar 1)))))
def l_folded:GM:=mDef 1 3 b_l_folded
def b_l_bytes_1:SM:=(mFor (mIn (mSl (mVar 0) (mPart (mC (.int 2))) (mPart (mC (.int 4))))) (gNm 2) (mSet 1 (mOp addM (mOp addM (mVar 1) (mCB l_two (mCons (mOp divM (mVar 2) (mC (.int 65536))) mNil))) (mCB l_two (mCons (mOp modM (mVar 2) (mC (.int 65536))) mNil)))))
def b_l_bytes_2:SM:=(mIf (mTest (mOp gtM (mOp ixM (mVar 0) (mC (.int 6))) (mC (.int 0)))) (mSet 1 (mOp addM (mOp addM (mVar 1) (mLst (mCons (mC (.int 2)) (mCons (mC (.int 4)) mNil)))) (mCB l_two (mCons (mOp ixM (mVar 0) (mC (.int 6))) mNil)))) mSkip)
def b_l_bytes:SM:=(mSeq (mSet 1 (mOp addM (mCB l_two (mCons (mOp ixM (mVar 0) (mC (.int 0))) mNil)) (mCB l_two (mCons (mOp ixM (mVar 0) (mC (.int 1))) mNil))))
  (mSeq b_l_bytes_1
  (mSeq (mSet 1 (mOp addM (mOp addM (mOp addM (mVar 1) (mLst (mCons (mOp ixM (mLst (mCons (mC (.int 80)) (mCons (mC (.int 96)) mNil))) (mCB intG (mCons (mOp gtM (mOp ixM (mVar 0) (mC (.int 6))) (mC (.int 0))) mNil))) (mCons (mOp ixM (mVar 0) (mC (.int 4))) mNil)))) (mCB l_two (mCons (mOp ixM (mVar 0) (mC (.int 5))) mNil))) (mLst (mCons (mC (.int 0)) (mCons (mC (.int 0)) (mCons (mC (.int 0)) (mCons (mC (.int 0)) mNil)))))))
  (mSeq b_l_bytes_2
  (mSeq (mSet 1 (mOp addM (mVar 1) (mCB listG (mCons (mOp ixM (mVar 0) (mC (.int 7))) mNil))))
  (mRet (mOp addM (mOp addM (mSl (mVar 1) mNoPart (mPart (mC (.int 16)))) (mCB l_two (mCons (mOp subM (mC (.int 65535)) (mCB l_folded (mCons (mVar 1) mNil))) mNil))) (mSl (mVar 1) (mPart (mC (.int 18))) mNoPart))))))))
def l_bytes:GM:=mDef 1 3 b_l_bytes
end
end My
set_option Elab.async false
set_option linter.all false
set_option maxRecDepth 100000
set_option maxHeartbeats 4000000
namespace My
open PySem L2 L2.MM
noncomputable section
def cell (ns:List Int) (k:Int):Int:=if ns.length=0 then 0 else ns.getD (k % (ns.length:Int)).toNat 0
def mix (ns:List Int) (k:Int):Int:=
  ((cell ns k+104729*(k+1)) % 4294967291*48271 % 4294967279/64*69621+(cell ns k+104729*(k+1)) % 4294967291*48271 % 4294967279) % 4294967231
theorem mix_in (ns:List Int) (k:Int):0≤mix ns k∧mix ns k<4294967231:=by
  unfold mix; omega
theorem atI_mod {ns:List Int} {k:Int} (h:0<ns.length):atI (ns.map D.int) (k % (ns.length:Int))=some (.int (cell ns k)):=by
  have a:=Int.emod_nonneg k (show (ns.length:Int)≠0 by omega)
  have b:=Int.emod_lt_of_pos k (show (0:Int)<ns.length by omega)
  have c:(k % (ns.length:Int))=(((k % (ns.length:Int)).toNat:Nat):Int):=by omega
  rw [c]
  refine atI_nat ?_
  have d:(k % (ns.length:Int)).toNat<ns.length:=by omega
  rw [List.getElem?_map,List.getElem?_eq_getElem d]
  unfold cell
  rw [if_neg (by omega),List.getD_eq_getElem?_getD,List.getElem?_eq_getElem d]
  rfl
@[simp] theorem t_cell (ns:List Int) (k:Int) (θ:Sto):l_cell [.scr ns,.int k] θ=.ok (.int (cell ns k)) θ:=by
  by_cases h:ns.length=0
  · have:ns=[]:=List.eq_nil_of_length_eq_zero h
    subst this
    simp [l_cell,b_l_cell,b_l_cell_1,cell]
  · have h1:ns.isEmpty=false:=by cases ns with
      | nil=>exact absurd rfl h
      | cons _ _=>rfl
    have h2:0<ns.length:=by omega
    simp [l_cell,b_l_cell,b_l_cell_1,h1,h2,atI_mod (k:=k) h2]
@[simp] theorem t_mix (ns:List Int) (k:Int) (θ:Sto):l_mix [.scr ns,.int k] θ=.ok (.int (mix ns k)) θ:=by
  simp [l_mix,b_l_mix,MulB,mix]
@[simp] theorem t_two (k:Int) (θ:Sto):l_two [.int k] θ=.ok (il [k/256,k % 256]) θ:=by
  simp [l_two,b_l_two]
theorem wh_step {t:TMr} {body:SM} {n:Nat} {ρ:List Sl} {θ:Sto}:whileL t body (n+1) ρ θ=(t ρ θ).bind fun k θ=>if k=true then (body ρ θ).bind (loopK (whileL t body n)) else .ok (.nx,ρ) θ:=rfl
abbrev foldT:TMr:=mTest (mOp gtM (mVar 1) (mC (.int 65535)))
abbrev foldB:SM:=mSet 1 (mOp addM (mOp modM (mVar 1) (mC (.int 65536))) (mOp divM (mVar 1) (mC (.int 65536))))
theorem foldT_ (t:Int) (x:Sl) (r:List Sl) (θ:Sto):foldT (x::.val (.int t)::r) θ=.ok (decide (65535<t)) θ:=by simp
theorem foldB_ (t:Int) (x:Sl) (r:List Sl) (θ:Sto):foldB (x::.val (.int t)::r) θ=.ok (.nx,x::.val (.int (t % 65536+t/65536))::r) θ:=by simp
theorem t_foldN {t:Int} (n:Nat) (h0:0≤t) (h1:t<4294967296) (x:Sl) (r:List Sl) (θ:Sto):whileL foldT foldB (n+3) (x::.val (.int t)::r) θ=.ok (.nx,x::.val (.int (fold t))::r) θ:=by
  rw [wh_step,foldT_,R.bind_ok]
  by_cases c1:65535<t
  · have s1:=fold_step c1
    rw [if_pos (by simpa using c1),foldB_,R.bind_ok,x_loop_nx]
    have hu:t % 65536+t/65536≤131070:=by omega
    generalize t % 65536+t/65536=u at s1 hu
    rw [wh_step,foldT_,R.bind_ok]
    by_cases c2:65535<u
    · have s2:=fold_step c2
      rw [if_pos (by simpa using c2),foldB_,R.bind_ok,x_loop_nx]
      have hv:u % 65536+u/65536≤65535:=by omega
      generalize u % 65536+u/65536=v at s2 hv
      rw [wh_step,foldT_,R.bind_ok,if_neg (by simp; omega),←s1.1,←s2.1,fold_small s2.2.1 hv]
    · rw [if_neg (by simpa using c2),←s1.1,fold_small s1.2.1 (by omega)]
  · rw [if_neg (by simpa using c1),fold_small h0 (by omega)]
theorem t_fold200 {t:Int} (h0:0≤t) (h1:t<4294967296) (x:Sl) (r:List Sl) (θ:Sto):whileL (mTest (mOp gtM (mVar 1) (mC (.int 65535)))) (mSet 1 (mOp addM (mOp modM (mVar 1) (mC (.int 65536))) (mOp divM (mVar 1) (mC (.int 65536))))) 200 (x::.val (.int t)::r) θ=.ok (.nx,x::.val (.int (fold t))::r) θ:=t_foldN 197 h0 h1 x r θ
def Byt (ns:List Int):Prop:=(∀z∈ns,0≤z∧z≤255)∧ns.length≤1000
theorem wsum_lt:∀{ns:List Int} {m:Nat},(∀z∈ns,0≤z∧z≤255)→ns.length≤2*m→wsum ns≤65535*m
  | [],m,_,_=>by simp [wsum]; omega
  | [a],m,h,hl=>by
    have:=h a (by simp)
    simp [wsum] at hl ⊢
    omega
  | a::b::r,m,h,hl=>by
    have h1:=h a (by simp)
    have h2:=h b (by simp)
    obtain ⟨m,rfl⟩:∃k,m=k+1:=⟨m-1,by simp at hl; omega⟩
    have:=wsum_lt (ns:=r) (m:=m) (fun z hz=>h z (by simp [hz])) (by simp at hl; omega)
    simp [wsum]
    omega
theorem Byt.sum {ns:List Int} (h:Byt ns):0≤wsum ns∧wsum ns<4294967296:=by
  refine ⟨wsum_nn fun z hz=>(h.1 z hz).1,?_⟩
  have:=wsum_lt (m:=500) h.1 (by have:=h.2; omega)
  omega
theorem t_folded {ns:List Int} (h:Byt ns) (θ:Sto):p_folded [il ns] θ=.ok (.int (fold (wsum ns))) θ:=by
  have l1:=evens_len ns
  have l2:=odds_len ns
  have l3:=h.2
  have hs:=h.sum
  have e:=wsum_eq ns
  simp [p_folded,b_p_folded,b_p_folded_1,pickL_map,MulB,show (evens ns).length≤100000 by omega,show (odds ns).length≤100000 by omega,e]
  rw [t_fold200 hs.1 hs.2]
  simp
theorem t_sum_of {ns:List Int} (h:Byt ns) (θ:Sto):p_sum_of [il ns] θ=.ok (.int (65535-fold (wsum ns))) θ:=by
  simp [p_sum_of,b_p_sum_of,t_folded h]
theorem t_lfolded {ns:List Int} (h:Byt ns) (θ:Sto):l_folded [il ns] θ=.ok (.int (fold (wsum ns))) θ:=by
  have hs:=h.sum
  have l3:=h.2
  let st:Nat→List Sl:=fun i=>[.val (il ns),.val (.int (wpre ns i)),if i=0 then .no else .val (.int ((i:Int)-1))]
  have loop:=for_rng (θ:=θ) (lo:=0) (n:=ns.length) (tg:=gNm 2) (body:=mSet 1 (mOp addM (mVar 1) (mOp mulM (mOp ixM (mVar 0) (mVar 2)) (mOp ixM (mLst (mCons (mC (.int 256)) (mCons (mC (.int 1)) mNil))) (mOp modM (mVar 2) (mC (.int 2))))))) st ?_ (fun i hi=>⟨_,rfl⟩) rfl
  · have b1:(ns.length:Int)≤1000000:=by omega
    have b2 : -1000000≤(ns.length:Int):=by omega
    have b3:ns.length≤1000000:=by omega
    have l0:st 0=[.val (il ns),.val (.int 0),.no]:=rfl
    rw [l0] at loop
    simp [l_folded,b_l_folded,b_l_folded_1,b_l_folded_2,mFor,b1,b2,b3]
    simp at loop
    rw [loop]
    simp [st]
    rw [wpre_all,t_fold200 hs.1 hs.2]
    simp
  · intro i ρ1 hi e
    have e':ρ1=[.val (il ns),.val (.int (wpre ns i)),.val (.int (0+(i:Int)))]:=by
      simp [st] at e
      simp [←e]
    subst e'
    have g1:ixM (il ns) (.int (0+(i:Int))) θ=.ok (.int (ns.getD i 0)) θ:=by
      rw [il_get (by omega) (by omega)]
      simp [gt]
    have g2:ixM (il [256,1]) (.int ((0+(i:Int)) % 2)) θ=.ok (.int (if i % 2=0 then 256 else 1)) θ:=by
      rw [il_get (by omega) (by simp; omega)]
      by_cases q:i % 2=0
      · rw [show ((0+(i:Int)) % 2).toNat=0 by omega,if_pos q]; rfl
      · rw [show ((0+(i:Int)) % 2).toNat=1 by omega,if_neg q]; rfl
    have cm:MulB (ns.getD i 0) (if i % 2=0 then 256 else 1):=.inr (by split<;>decide)
    simp only [x_set,x_op,x_var,x_lst,x_cons,x_c,x_nil,List.getElem?_cons_succ,List.getElem?_cons_zero,R.bind_ok,g1]
    simp only [List.length_cons,List.length_nil,f_il2,BIG_eq,opI_int,if_pos (show (0:Int)<2 by decide),R.bind_ok,g2,mulM_int,if_pos cm,addM_int,if_pos (show 0+1+1≤100000 by decide)]
    simp [st,wpre]
end
end My
set_option Elab.async false
set_option linter.all false
set_option maxRecDepth 100000
set_option maxHeartbeats 4000000
namespace My
open PySem L2 L2.MM
noncomputable section
structure Seg where
  src:Int
  goal:Int
  num:Int
  ans:Int
  flags:Int
  win:Int
  most:Int
  data:List Int
def Seg.d (s:Seg):D:=.tup [.int s.src,.int s.goal,.int s.num,.int s.ans,.int s.flags,.int s.win,.int s.most,itp s.data]
structure Seg.Ok (s:Seg):Prop where
  src:0≤s.src∧s.src≤65535
  goal:0≤s.goal∧s.goal≤65535
  num:0≤s.num∧s.num≤4294967295
  ans:0≤s.ans∧s.ans≤4294967295
  flags:0≤s.flags∧s.flags≤31
  win:0≤s.win∧s.win≤65535
  most:s.most=0∨(4≤s.most∧s.most≤65535∧s.flags/2 % 2=1)
  data:(∀z∈s.data,0≤z∧z≤255)∧s.data.length≤16
section
variable {s:Seg} {θ:Sto}
@[simp] theorem d0:ixM s.d (.int 0) θ=.ok (.int s.src) θ:=nr rfl
@[simp] theorem d1:ixM s.d (.int 1) θ=.ok (.int s.goal) θ:=nr rfl
@[simp] theorem d2:ixM s.d (.int 2) θ=.ok (.int s.num) θ:=nr rfl
@[simp] theorem d3:ixM s.d (.int 3) θ=.ok (.int s.ans) θ:=nr rfl
@[simp] theorem d4:ixM s.d (.int 4) θ=.ok (.int s.flags) θ:=nr rfl
@[simp] theorem d5:ixM s.d (.int 5) θ=.ok (.int s.win) θ:=nr rfl
@[simp] theorem d6:ixM s.d (.int 6) θ=.ok (.int s.most) θ:=nr rfl
@[simp] theorem d7:ixM s.d (.int 7) θ=.ok (itp s.data) θ:=nr rfl
end
def two (k:Int):List Int:=[k/256 % 256,k % 256]
def four (k:Int):List Int:=two (k/65536)++two k
def hd (s:Seg):Int:=if s.most=0 then 80 else 96
def ahead (s:Seg):List Int:=two s.src++two s.goal++(four s.num++four s.ans)++[hd s,s.flags]++two s.win
def most2 (m:Int):List Int:=if m=0 then [] else [2,4]++two m
def behind (s:Seg):List Int:=[0,0]++most2 s.most++s.data
def putL (s:Seg):List Int:=ahead s++two (65535-fold (wsum (ahead s++[0,0]++behind s)))++behind s
@[simp] theorem t_two_bytes (k:Int) (θ:Sto):p_two_bytes [.int k] θ=.ok (il (two k)) θ:=by
  simp [p_two_bytes,b_p_two_bytes,two]
@[simp] theorem two_len (k:Int):(two k).length=2:=rfl
@[simp] theorem four_len (k:Int):(four k).length=4:=rfl
@[simp] theorem ahead_len (s:Seg):(ahead s).length=16:=rfl
@[simp] theorem t_four_bytes (k:Int) (θ:Sto):p_four_bytes [.int k] θ=.ok (il (four k)) θ:=by
  simp [p_four_bytes,b_p_four_bytes,four]
@[simp] theorem t_byte_of_head (k:Int) (θ:Sto):p_byte_of_head [.int k] θ=.ok (.int (16*(k/4))) θ:=by
  simp [p_byte_of_head,b_p_byte_of_head,MulB]
@[simp] theorem t_bytes_of_most (k:Int) (θ:Sto):p_bytes_of_most [.int k] θ=.ok (il (most2 k)) θ:=by
  by_cases h:k=0<;>simp [p_bytes_of_most,b_p_bytes_of_most,most2,h,il_nil]
@[simp] theorem t_ahead (s:Seg) (θ:Sto):p_bytes_ahead_of_sum [s.d] θ=.ok (il (ahead s)) θ:=by
  by_cases h:s.most=0<;>simp [p_bytes_ahead_of_sum,b_p_bytes_ahead_of_sum,ahead,hd,h]
theorem most2_len (m:Int):(most2 m).length≤4:=by unfold most2; split<;>simp
theorem byt_two (k:Int):∀z∈two k,0≤z∧z≤255:=by
  intro z hz
  simp [two] at hz
  rcases hz with rfl | rfl<;>omega
theorem byt_four (k:Int):∀z∈four k,0≤z∧z≤255:=by
  intro z hz
  rcases List.mem_append.mp hz with h | h
  · exact byt_two _ z h
  · exact byt_two _ z h
theorem byt_app {a b:List Int} (h1:∀z∈a,0≤z∧z≤255) (h2:∀z∈b,0≤z∧z≤255):∀z∈a++b,0≤z∧z≤255:=fun z hz=>(List.mem_append.mp hz).elim (h1 z) (h2 z)
theorem byt_ahead {s:Seg} (h:0≤s.flags∧s.flags≤255):∀z∈ahead s,0≤z∧z≤255:=by
  refine byt_app (byt_app (byt_app (byt_app (byt_two _) (byt_two _)) (byt_app (byt_four _) (byt_four _))) ?_) (byt_two _)
  intro z hz
  simp at hz
  rcases hz with rfl | rfl
  · unfold hd; split<;>omega
  · exact h
theorem byt_most (m:Int):∀z∈most2 m,0≤z∧z≤255:=by
  unfold most2
  split
  · intro z hz; simp at hz
  · refine byt_app ?_ (byt_two _)
    intro z hz
    simp at hz
    omega
theorem byt_behind {s:Seg} (h:∀z∈s.data,0≤z∧z≤255):∀z∈behind s,0≤z∧z≤255:=by
  refine byt_app (byt_app ?_ (byt_most _)) h
  intro z hz
  simp at hz
  omega
theorem behind_len (s:Seg):(behind s).length≤6+s.data.length:=by
  have:=most2_len s.most
  simp [behind]
  omega
structure Seg.Put (s:Seg):Prop where
  flags:0≤s.flags∧s.flags≤255
  data:(∀z∈s.data,0≤z∧z≤255)∧s.data.length≤100
theorem Seg.Ok.put {s:Seg} (h:s.Ok):s.Put:=⟨⟨h.flags.1,by have:=h.flags.2; omega⟩,h.data.1,by have:=h.data.2; omega⟩
theorem Seg.Put.byt {s:Seg} (h:s.Put):Byt (ahead s++[0,0]++behind s):=by
  refine ⟨byt_app (byt_app (byt_ahead h.flags) ?_) (byt_behind h.data.1),?_⟩
  · intro z hz
    simp at hz
    omega
  · have:=behind_len s
    have:=h.data.2
    simp
    omega
theorem t_put {s:Seg} (h:s.Put) (θ:Sto):p_put [s.d] θ=.ok (il (putL s)) θ:=by
  have b:=h.byt
  have l1:=most2_len s.most
  have l2:=h.data.2
  have l3:=behind_len s
  have e1:0::0::(most2 s.most++s.data)=behind s:=rfl
  have e2:=t_sum_of b θ
  simp only [List.append_assoc,List.cons_append,List.nil_append] at e2
  simp (disch:=first | done | (simp; done) | omega | (simp; omega)) [p_put,b_p_put,il_addc,-il_add,e1,e2]
  simp [putL,show 18+(behind s).length≤100000 by omega]
theorem wsum_split {a b c:List Int} (ha:a.length % 2=0) (hb:b.length % 2=0):wsum (a++b++c)=wsum a+wsum b+wsum c:=by
  rw [wsum_app (by rw [List.length_append]; omega),wsum_app ha]
theorem put_fold {s:Seg} (h:s.Put):fold (wsum (putL s))=65535:=by
  have b:=h.byt
  have w0:=b.sum
  have e1:wsum (putL s)=wsum (ahead s)+wsum (two (65535-fold (wsum (ahead s++[0,0]++behind s))))+wsum (behind s):=wsum_split (by simp) (by simp)
  have e2:wsum (ahead s++[0,0]++behind s)=wsum (ahead s)+wsum [0,0]+wsum (behind s):=wsum_split (by simp) (by simp)
  have e3:wsum [0,0]=0:=by simp [wsum]
  have f:=fold_in w0.1
  have e4:wsum (two (65535-fold (wsum (ahead s++[0,0]++behind s))))=256*((65535-fold (wsum (ahead s++[0,0]++behind s)))/256)+(65535-fold (wsum (ahead s++[0,0]++behind s))) % 256:=by
    have:=f.2.1
    have:=f.1
    simp only [wsum,two]
    omega
  have c:=fold_close w0.1
  rw [e1,e4]
  rw [e3] at e2
  have:wsum (ahead s)+(256*((65535-fold (wsum (ahead s++[0,0]++behind s)))/256)+(65535-fold (wsum (ahead s++[0,0]++behind s))) % 256)+wsum (behind s)=wsum (ahead s++[0,0]++behind s)+(256*((65535-fold (wsum (ahead s++[0,0]++behind s)))/256)+(65535-fold (wsum (ahead s++[0,0]++behind s))) % 256):=by omega
  rw [this]
  exact c
theorem put_byt {s:Seg} (h:s.Put):Byt (putL s):=by
  refine ⟨byt_app (byt_app (byt_ahead h.flags) (byt_two _)) (byt_behind h.data.1),?_⟩
  have:=behind_len s
  have:=h.data.2
  simp [putL]
  omega
theorem put_len {s:Seg}:(putL s).length=(if s.most=0 then 20 else 24)+s.data.length:=by
  unfold putL behind most2
  by_cases h:s.most=0<;>simp [h]<;>omega
theorem put_at (s:Seg):∃x y,putL s=[s.src/256 % 256,s.src % 256,s.goal/256 % 256,s.goal % 256,s.num/65536/256 % 256,s.num/65536 % 256,s.num/256 % 256,s.num % 256,
    s.ans/65536/256 % 256,s.ans/65536 % 256,s.ans/256 % 256,s.ans % 256,hd s,s.flags,s.win/256 % 256,s.win % 256,x,y,0,0]++(most2 s.most++s.data):=⟨_,_,rfl⟩
@[simp] theorem t_two_at {a:List Int} {i:Int} (h0:0≤i) (h:i+1<a.length) (θ:Sto):p_two_at [il a,.int i] θ=.ok (.int (256*gt a i.toNat+gt a (i+1).toNat)) θ:=by
  simp [p_two_at,b_p_two_at,il_get (θ:=θ) h0 (show i<a.length by omega),il_get (θ:=θ) (show 0≤i+1 by omega) h,MulB]
@[simp] theorem t_four_at {a:List Int} {i:Int} (h0:0≤i) (h:i+3<a.length) (θ:Sto):p_four_at [il a,.int i] θ=.ok (.int (65536*(256*gt a i.toNat+gt a (i+1).toNat)+(256*gt a (i+2).toNat+gt a (i+2+1).toNat))) θ:=by
  simp [p_four_at,b_p_four_at,t_two_at (θ:=θ) h0 (show i+1<a.length by omega),t_two_at (θ:=θ) (show 0≤i+2 by omega) (show i+2+1<a.length by omega),MulB]
@[simp] theorem t_head_of {a:List Int} (h:12<a.length) (θ:Sto):p_head_of [il a] θ=.ok (.int (gt a 12/16*4)) θ:=by
  have:=il_get (a:=a) (θ:=θ) (i:=12) (by decide) (by omega)
  simp [p_head_of,b_p_head_of,this,MulB]
def bit (f k:Int):Int:=if Builtin.bitAnd f k=0 then 0 else 1
@[simp] theorem t_has (f k:Int) (θ:Sto):p_has [.int f,.int k] θ=.ok (.int (bit f k)) θ:=by
  by_cases h:Builtin.bitAnd f k=0<;>simp [p_has,b_p_has,bit,h]
theorem bit_all:∀n:Fin 32,bit (n.val:Int) 1=(n.val:Int) % 2∧bit (n.val:Int) 2=(n.val:Int)/2 % 2∧bit (n.val:Int) 4=(n.val:Int)/4 % 2∧bit (n.val:Int) 8=(n.val:Int)/8 % 2∧bit (n.val:Int) 16=(n.val:Int)/16 % 2:=by decide
theorem bits {f:Int} (h:0≤f∧f≤31):bit f 1=f % 2∧bit f 2=f/2 % 2∧bit f 4=f/4 % 2∧bit f 8=f/8 % 2∧bit f 16=f/16 % 2:=by
  have:=bit_all ⟨f.toNat,by omega⟩
  simp only at this
  rw [show ((f.toNat:Nat):Int)=f by omega] at this
  exact this
theorem t_length (s:Seg) (θ:Sto):p_length [s.d] θ=.ok (.int (s.data.length+bit s.flags 2+bit s.flags 1)) θ:=by
  simp [p_length,b_p_length]
def at2 (a:List Int) (i:Nat):Int:=256*gt a i+gt a (i+1)
def at4 (a:List Int) (i:Nat):Int:=65536*at2 a i+at2 a (i+2)
def longOk (a:List Int):Bool:=decide (bit (gt a 13) 2=1) && (decide (gt a 20=2) && (decide (gt a 21=4) && decide (4≤at2 a 22)))
def headL (a:List Int):Int:=gt a 12/16*4
def isRight (a:List Int):Bool:=decide (20≤a.length) && (decide (gt a 12=80∨gt a 12=96) && (decide (gt a 13≤31) && (decide (0≤(a.length:Int)-headL a∧(a.length:Int)-headL a≤16) &&
  (decide (at2 a 18=0) && ((decide (headL a=20) || longOk a) && decide (fold (wsum a)=65535))))))
theorem t_long {a:List Int} (h:24≤a.length) (θ:Sto):p_is_right_long_head [il a] θ=.ok (.bl (longOk a)) θ:=by
  have g:=fun (i:Int) (h0:0≤i) (h1:i<a.length)=>il_get (a:=a) (θ:=θ) (i:=i) h0 h1
  have g13:=g 13 (by decide) (by omega)
  have g20:=g 20 (by decide) (by omega)
  have g21:=g 21 (by decide) (by omega)
  have g22:=t_two_at (a:=a) (i:=22) (by decide) (by omega) θ
  simp only [show (13:Int).toNat=13 from rfl,show (20:Int).toNat=20 from rfl,show (21:Int).toNat=21 from rfl,show (22:Int).toNat=22 from rfl,show (22+1:Int).toNat=23 from rfl] at g13 g20 g21 g22
  unfold longOk at2
  simp [p_is_right_long_head,b_p_is_right_long_head,g13,g20,g21,g22]
theorem inM2 (x y z:Int) (θ:Sto):inM (.int x) (.tup [.int y,.int z]) θ=.ok (.bl (decide (x=y∨x=z))) θ:=by
  have e:inD θ (.int x) (.tup [.int y,.int z])=some (decide (y=x) || (decide (z=x) || false)):=rfl
  have e2:(decide (y=x) || (decide (z=x) || false))=decide (x=y∨x=z):=by
    rw [Bool.eq_iff_iff]
    simp only [Bool.or_eq_true,decide_eq_true_eq,Bool.false_eq_true,or_false]
    constructor
    · rintro (h | h)
      · exact .inl h.symm
      · exact .inr h.symm
    · rintro (h | h)
      · exact .inl h.symm
      · exact .inr h.symm
  unfold inM
  rw [e,e2]
theorem t_is_right {a:List Int} (h:Byt a) (θ:Sto):p_is_right [il a] θ=.ok (.bl (isRight a)) θ:=by
  by_cases c1:20≤a.length
  · have g:=fun (i:Int) (h0:0≤i) (h1:i<a.length)=>il_get (a:=a) (θ:=θ) (i:=i) h0 h1
    have g12:=g 12 (by decide) (by omega)
    have g13:=g 13 (by decide) (by omega)
    have g18:=t_two_at (a:=a) (i:=18) (by decide) (by omega) θ
    have gh:=t_head_of (a:=a) (by omega) θ
    have gf:=t_folded h θ
    have c1':(20:Int)≤a.length:=by omega
    simp only [show (12:Int).toNat=12 from rfl,show (13:Int).toNat=13 from rfl,show (18:Int).toNat=18 from rfl,show (18+1:Int).toNat=19 from rfl] at g12 g13 g18
    by_cases c2:gt a 12=80
    · rw [c2] at g12 gh
      simp [p_is_right,b_p_is_right,isRight,headL,at2,c1,c1',g12,g13,g18,gh,gf,inM2,c2]<;>rfl
    · by_cases c3:gt a 12=96
      · rw [c3] at g12 gh
        by_cases c4:24≤a.length
        · have gl:=t_long c4 θ
          simp [p_is_right,b_p_is_right,isRight,headL,at2,c1,c1',g12,g13,g18,gh,gf,inM2,c3,gl]<;>rfl
        · have c5:¬(24:Int)≤(a.length:Int):=by omega
          simp [p_is_right,b_p_is_right,isRight,headL,at2,c1,c1',g12,g13,g18,gh,gf,inM2,c3,c5]<;>rfl
      · simp [p_is_right,b_p_is_right,isRight,headL,at2,c1,c1',g12,g13,g18,gh,gf,inM2,c2,c3]
  · have c1':¬(20:Int)≤a.length:=by omega
    simp [p_is_right,b_p_is_right,isRight,c1,c1']
def getSeg (a:List Int):Seg:=⟨at2 a 0,at2 a 2,at4 a 4,at4 a 8,gt a 13,at2 a 14,if headL a=24 then at2 a 22 else 0,a.drop (headL a).toNat⟩
theorem isRight_len {a:List Int} (h:isRight a=true):20≤a.length∧((headL a=20)∨(headL a=24∧24≤a.length∧longOk a=true))∧(a.length:Int)-headL a≤16∧gt a 13≤31:=by
  unfold isRight at h
  simp only [Bool.and_eq_true,decide_eq_true_eq,Bool.or_eq_true] at h
  obtain ⟨h1,h2,h3,h4,h5,h6,h7⟩:=h
  refine ⟨h1,?_,h4.2,h3⟩
  rcases h2 with h2 | h2
  · left; unfold headL; rw [h2]; rfl
  · right
    have e:headL a=24:=by unfold headL; rw [h2]; rfl
    refine ⟨e,by have:=h4.1; rw [e] at this; omega,?_⟩
    rcases h6 with h6 | h6
    · rw [e] at h6; cases h6
    · exact h6
theorem t_get {a:List Int} (h:Byt a) (hr:isRight a=true) (θ:Sto):p_get [il a] θ=.ok (getSeg a).d θ:=by
  obtain ⟨l1,l2,l3,l4⟩:=isRight_len hr
  have ir:=t_is_right h θ
  rw [hr] at ir
  have gh:=t_head_of (a:=a) (by omega) θ
  have g13:=il_get (a:=a) (θ:=θ) (i:=13) (by decide) (by omega)
  have q0:=t_two_at (a:=a) (i:=0) (by decide) (by omega) θ
  have q2:=t_two_at (a:=a) (i:=2) (by decide) (by omega) θ
  have q14:=t_two_at (a:=a) (i:=14) (by decide) (by omega) θ
  have q4:=t_four_at (a:=a) (i:=4) (by decide) (by omega) θ
  have q8:=t_four_at (a:=a) (i:=8) (by decide) (by omega) θ
  simp only [show (13:Int).toNat=13 from rfl,show (0:Int).toNat=0 from rfl,show (0+1:Int).toNat=1 from rfl,show (2:Int).toNat=2 from rfl,show (2+1:Int).toNat=3 from rfl,show (14:Int).toNat=14 from rfl,show (14+1:Int).toNat=15 from rfl,
    show (4:Int).toNat=4 from rfl,show (4+1:Int).toNat=5 from rfl,show (4+2:Int).toNat=6 from rfl,show (4+2+1:Int).toNat=7 from rfl,show (8:Int).toNat=8 from rfl,show (8+1:Int).toNat=9 from rfl,show (8+2:Int).toNat=10 from rfl,show (8+2+1:Int).toNat=11 from rfl] at g13 q0 q2 q14 q4 q8
  have gh':p_head_of [il a] θ=.ok (.int (headL a)) θ:=gh
  have ps:∀x:Int,0≤x→cutL a (some x) none=a.drop x.toNat:=fun x hx=>cut_from a hx
  rcases l2 with e | ⟨e,l5,_⟩
  · simp [p_get,b_p_get,b_p_get_1,ir,gh',e,g13,q0,q2,q4,q8,q14,ps,getSeg,Seg.d,at2,at4]
  · have q22:=t_two_at (a:=a) (i:=22) (by decide) (by omega) θ
    simp only [show (22:Int).toNat=22 from rfl,show (22+1:Int).toNat=23 from rfl] at q22
    simp [p_get,b_p_get,b_p_get_1,ir,gh',e,g13,q0,q2,q4,q8,q14,q22,ps,getSeg,Seg.d,at2,at4]
end
end My
set_option Elab.async false
set_option linter.all false
set_option maxRecDepth 100000
set_option maxHeartbeats 4000000
namespace My
open PySem L2 L2.MM
noncomputable section
theorem put_gt (s:Seg):gt (putL s) 12=hd s∧gt (putL s) 13=s.flags∧at2 (putL s) 18=0∧at2 (putL s) 0=256*(s.src/256 % 256)+s.src % 256∧at2 (putL s) 2=256*(s.goal/256 % 256)+s.goal % 256∧
    at4 (putL s) 4=65536*(256*(s.num/65536/256 % 256)+s.num/65536 % 256)+(256*(s.num/256 % 256)+s.num % 256)∧at4 (putL s) 8=65536*(256*(s.ans/65536/256 % 256)+s.ans/65536 % 256)+(256*(s.ans/256 % 256)+s.ans % 256)∧
    at2 (putL s) 14=256*(s.win/256 % 256)+s.win % 256:=by
  obtain ⟨x,y,e⟩:=put_at s
  rw [e]
  unfold at4 at2
  refine ⟨rfl,rfl,?_,rfl,rfl,rfl,rfl,rfl⟩
  show 256*(0:Int)+0=0
  rfl
theorem put_most (s:Seg) (h:s.most≠0):gt (putL s) 20=2∧gt (putL s) 21=4∧at2 (putL s) 22=256*(s.most/256 % 256)+s.most % 256:=by
  obtain ⟨x,y,e⟩:=put_at s
  have e2:most2 s.most=[2,4,s.most/256 % 256,s.most % 256]:=by unfold most2; rw [if_neg h]; rfl
  rw [e,e2]
  unfold at2
  exact ⟨rfl,rfl,rfl⟩
theorem put_right {s:Seg} (h:s.Ok):isRight (putL s)=true:=by
  obtain ⟨g12,g13,g18,_⟩:=put_gt s
  have hl:=put_len (s:=s)
  have hd':=h.data.2
  have hf:=put_fold h.put
  have hw:=h.flags
  unfold isRight longOk headL
  simp only [Bool.and_eq_true,decide_eq_true_eq,Bool.or_eq_true]
  rw [g12,g13,g18,hf,hl]
  by_cases m:s.most=0
  · have e:hd s=80:=if_pos m
    rw [e,if_pos m]
    simp
    omega
  · have e:hd s=96:=if_neg m
    obtain ⟨p1,p2,p3⟩:=put_most s m
    have hm:4≤s.most∧s.most≤65535∧s.flags/2 % 2=1:=h.most.resolve_left m
    have hb:=(bits h.flags).2.1
    rw [e,if_neg m,p1,p2,p3,hb]
    simp
    omega
theorem drop_put (s:Seg):(putL s).drop (if s.most=0 then 20 else 24)=s.data:=by
  obtain ⟨x,y,e⟩:=put_at s
  rw [e]
  by_cases m:s.most=0
  · rw [if_pos m]
    simp [most2,m]
  · rw [if_neg m]
    simp [most2,m,two]
theorem get_put {s:Seg} (h:s.Ok):getSeg (putL s)=s:=by
  obtain ⟨g12,g13,g18,g0,g2,g4,g8,g14⟩:=put_gt s
  have e0:=drop_put s
  obtain ⟨⟨a1,a2⟩,⟨b1,b2⟩,⟨c1,c2⟩,⟨d1,d2⟩,_,⟨f1,f2⟩,hm,_⟩:=h
  unfold getSeg headL
  rw [g12,g13,g0,g2,g4,g8,g14]
  obtain ⟨src,goal,num,ans,flags,win,most,data⟩:=s
  simp only at *
  by_cases m:most=0
  · subst m
    have e:hd ⟨src,goal,num,ans,flags,win,0,data⟩=80:=rfl
    rw [e]
    simp only [if_true] at e0
    simp [e0]
    omega
  · have e:hd ⟨src,goal,num,ans,flags,win,most,data⟩=96:=if_neg m
    obtain ⟨_,_,p3⟩:=put_most ⟨src,goal,num,ans,flags,win,most,data⟩ m
    simp only at p3
    rw [e,p3]
    rw [if_neg m] at e0
    simp [e0]
    have:=hm.resolve_left m
    omega
@[simp] theorem d_sl24 {s:Seg} {θ:Sto}:sliceD θ s.d (some 2) (some 4)=some (.tup [.int s.num,.int s.ans]):=nr rfl
theorem two_small {k:Int} (h0:0≤k) (h:k≤65535):[k/256,k % 256]=two k:=by
  unfold two
  rw [show k/256 % 256=k/256 by omega]
theorem four_small {k:Int} (h0:0≤k) (h:k≤4294967295):[k/65536/256,k/65536 % 256,k % 65536/256,k % 256]=four k:=by
  unfold four two
  rw [show k/65536/256 % 256=k/65536/256 by omega,show k % 65536/256=k/256 % 256 by omega]
  rfl
def preL (s:Seg):List Int:=[s.src/256,s.src % 256,s.goal/256,s.goal % 256,s.num/65536/256,s.num/65536 % 256,s.num % 65536/256,s.num % 256,s.ans/65536/256,s.ans/65536 % 256,s.ans % 65536/256,s.ans % 256,
  hd s,s.flags,s.win/256,s.win % 256,0,0,0,0]++((if s.most=0 then [] else [2,4,s.most/256,s.most % 256])++s.data)
theorem pre_eq {s:Seg} (h:s.Ok):preL s=ahead s++[0,0]++behind s:=by
  obtain ⟨⟨a1,a2⟩,⟨b1,b2⟩,⟨c1,c2⟩,⟨d1,d2⟩,⟨f1,f2⟩,⟨w1,w2⟩,hm,hd1,hd2⟩:=id h
  have e1:=two_small a1 a2
  have e2:=two_small b1 b2
  have e3:=four_small c1 c2
  have e4:=four_small d1 d2
  have e5:=two_small w1 w2
  have e6:(if s.most=0 then [] else [2,4,s.most/256,s.most % 256])=most2 s.most:=by
    unfold most2
    by_cases m:s.most=0
    · rw [if_pos m,if_pos m]
    · rw [if_neg m,if_neg m]
      have:=hm.resolve_left m
      rw [←two_small (k:=s.most) (by omega) (by omega)]
      rfl
  unfold preL ahead behind
  rw [e6,←e1,←e2,←e3,←e4,←e5]
  rfl
theorem pre_fin {s:Seg} (h:s.Ok):(preL s).take 16++two (65535-fold (wsum (preL s)))++(preL s).drop 18=putL s:=by
  rw [pre_eq h]
  have e1:(ahead s++[0,0]++behind s).take 16=ahead s:=by
    rw [List.append_assoc,List.take_append_of_le_length (by simp),List.take_of_length_le (by simp)]
  have e2:(ahead s++[0,0]++behind s).drop 18=behind s:=by
    have:(ahead s++[0,0]).length=18:=by simp
    rw [←this,List.drop_left]
  rw [e1,e2]
  rfl
theorem t_lbytes_tail {s:Seg} (h:s.Ok) (θ:Sto) (x y:Sl):mRet (mOp addM (mOp addM (mSl (mVar 1) mNoPart (mPart (mC (.int 16)))) (mCB l_two (mCons (mOp subM (mC (.int 65535)) (mCB l_folded (mCons (mVar 1) mNil))) mNil))) (mSl (mVar 1) (mPart (mC (.int 18))) mNoPart)) [x,.val (il (preL s)),y] θ
    = .ok (.rt (il (putL s)),[x,.val (il (preL s)),y]) θ:=by
  have pe:=pre_eq h
  have bp:=h.put.byt
  rw [←pe] at bp
  have lf:=t_lfolded bp θ
  have hs:=fold_in bp.sum.1
  have hl:(preL s).length≤100:=by
    have:=behind_len s
    have:=h.data.2
    rw [pe]
    simp
    omega
  have fin:=pre_fin h
  have tw:[(65535-fold (wsum (preL s)))/256,(65535-fold (wsum (preL s))) % 256]=two (65535-fold (wsum (preL s))):=two_small (by omega) (by omega)
  have k1:cutL (preL s) none (some 16)=(preL s).take 16:=cut_to _ (by decide)
  have k2:cutL (preL s) (some 18) none=(preL s).drop 18:=cut_from _ (by decide)
  have fs:addM (il ((preL s).take 16)) (il (two (65535-fold (wsum (preL s))))) θ=.ok (il ((preL s).take 16++two (65535-fold (wsum (preL s))))) θ:=il_addc (by simp; omega)
  have fs2:addM (il ((preL s).take 16++two (65535-fold (wsum (preL s))))) (il ((preL s).drop 18)) θ=.ok (il (putL s)) θ:=by
    rw [il_addc (by simp; omega),fin]
  simp only [x_ret,x_op,x_sl,x_var,x_CB,x_cons,x_nil,x_noPart,x_part,x_c,R.bind_ok,List.getElem?_cons_succ,List.getElem?_cons_zero,il_sl,k1,k2,lf,opI_int,if_true,t_two,tw,fs,fs2]
theorem t_lbytes {s:Seg} (h:s.Ok) (θ:Sto):l_bytes [s.d] θ=.ok (il (putL s)) θ:=by
  have tail:=t_lbytes_tail h θ
  have dl:=h.data.2
  by_cases m:s.most=0
  · have g:ixM (il [80,96]) (.int 0) θ=.ok (.int 80) θ:=rfl
    have e0:hd s=80:=if_pos m
    have pl:[s.src/256,s.src % 256,s.goal/256,s.goal % 256,s.num/65536/256,s.num/65536 % 256,s.num % 65536/256,s.num % 256,s.ans/65536/256,s.ans/65536 % 256,s.ans % 65536/256,s.ans % 256,
      80,s.flags,s.win/256,s.win % 256,0,0,0,0]++s.data=preL s:=by unfold preL; rw [if_pos m,e0]; rfl
    simp only [List.cons_append,List.nil_append] at pl
    simp [l_bytes,b_l_bytes,b_l_bytes_1,b_l_bytes_2,mFor,forL,m,g,pl,-x_ret,tail,show s.data.length+20≤100000 by omega,show 20+s.data.length≤100000 by omega]
  · have g:ixM (il [80,96]) (.int 1) θ=.ok (.int 96) θ:=rfl
    have e0:hd s=96:=if_neg m
    have mg:(0:Int)<s.most:=by have:=h.most.resolve_left m; omega
    have pl:[s.src/256,s.src % 256,s.goal/256,s.goal % 256,s.num/65536/256,s.num/65536 % 256,s.num % 65536/256,s.num % 256,s.ans/65536/256,s.ans/65536 % 256,s.ans % 65536/256,s.ans % 256,
      96,s.flags,s.win/256,s.win % 256,0,0,0,0,2,4,s.most/256,s.most % 256]++s.data=preL s:=by unfold preL; rw [if_neg m,e0]; rfl
    simp only [List.cons_append,List.nil_append] at pl
    simp [l_bytes,b_l_bytes,b_l_bytes_1,b_l_bytes_2,mFor,forL,mg,g,pl,-x_ret,tail,show s.data.length+24≤100000 by omega,show 24+s.data.length≤100000 by omega]
theorem lt_cases5 {P:Nat→Prop} {n:Nat} (h:n<5) (h0:P 0) (h1:P 1) (h2:P 2) (h3:P 3) (h4:P 4):P n:=by
  match n,h with
  | 0,_=>exact h0
  | 1,_=>exact h1
  | 2,_=>exact h2
  | 3,_=>exact h3
  | 4,_=>exact h4
end
end My
set_option Elab.async false
set_option linter.all false
set_option maxRecDepth 100000
set_option maxHeartbeats 4000000
namespace My
open PySem L2 L2.MM
noncomputable section
def b_p_Pile_init:SM:=(mSetF ["Pile"] "row" (mVar 0) (mLst mNil))
def p_Pile_init:GM:=mDef 1 1 b_p_Pile_init
def b_p_room:SM:=(mRet (mOp subM (mC (.int 64)) (mCB lenG (mCons (mFld ["Pile"] "row" (mVar 0)) mNil))))
def p_room:GM:=mDef 1 1 b_p_room
def b_p_plus:SM:=(mRet (mOp modM (mOp addM (mVar 0) (mVar 1)) (mC (.int 4294967296))))
def p_plus:GM:=mDef 2 2 b_p_plus
def b_p_offset:SM:=(mRet (mOp subM (mOp modM (mOp addM (mOp subM (mVar 0) (mVar 1)) (mC (.int 2147483648))) (mC (.int 4294967296))) (mC (.int 2147483648))))
def p_offset:GM:=mDef 2 2 b_p_offset
def b_p_End_init:SM:=(mSeq (mSetF ["End"] "ours" (mVar 0) (mVar 1))
  (mSeq (mSetF ["End"] "theirs" (mVar 0) (mVar 2))
  (mSeq (mSetF ["End"] "state" (mVar 0) (mIte (mTru (mVar 4)) (mC (.str "syn sent")) (mC (.str "listen"))))
  (mSeq (mSetF ["End"] "error" (mVar 0) (mC (.str "")))
  (mSeq (mSetF ["End"] "first" (mVar 0) (mVar 3))
  (mSeq (mSetF ["End"] "una" (mVar 0) (mVar 3))
  (mSeq (mSetF ["End"] "nxt" (mVar 0) (mVar 3))
  (mSeq (mSetF ["End"] "rcv" (mVar 0) (mC (.int 0)))
  (mSeq (mSetF ["End"] "wnd" (mVar 0) (mC (.int 0)))
  (mSeq (mSetF ["End"] "told" (mVar 0) (mC (.int 0)))
  (mSeq (mSetF ["End"] "told_by" (mVar 0) (mC (.int 0)))
  (mSeq (mSetF ["End"] "most" (mVar 0) (mC (.int 12)))
  (mSeq (mSetF ["End"] "written" (mVar 0) (mCB (mkG "Pile" p_Pile_init) mNil))
  (mSeq (mSetF ["End"] "come" (mVar 0) (mCB (mkG "Pile" p_Pile_init) mNil))
  (mSeq (mSetF ["End"] "early" (mVar 0) mDict0)
  (mSeq (mSetF ["End"] "early_fin" (mVar 0) (mC .non))
  (mSeq (mSetF ["End"] "has_closed" (mVar 0) (mC (.bl false)))
  (mSeq (mSetF ["End"] "behind" (mVar 0) (mCB p_plus (mCons (mVar 3) (mCons (mC (.int 1)) mNil))))
  (mSeq (mSetF ["End"] "owed_reset" (mVar 0) (mC .non))
  (mSeq (mSetF ["End"] "owes_syn" (mVar 0) (mC (.bl false)))
  (mSeq (mSetF ["End"] "owes_answer" (mVar 0) (mC (.bl false)))
  (mSeq (mSetF ["End"] "probes" (mVar 0) (mC (.bl false)))
  (mSeq (mSetF ["End"] "since" (mVar 0) (mC (.int 0)))
  (mSeq (mSetF ["End"] "wait" (mVar 0) (mC (.int 1000)))
  (mSetF ["End"] "tries" (mVar 0) (mC (.int 0)))))))))))))))))))))))))))
def p_End_init:GM:=mDef 5 5 b_p_End_init
def b_p_start_timer:SM:=(mSeq (mSetF ["End"] "since" (mVar 0) (mVar 1))
  (mSeq (mSetF ["End"] "wait" (mVar 0) (mC (.int 1000)))
  (mSetF ["End"] "tries" (mVar 0) (mC (.int 0)))))
def p_start_timer:GM:=mDef 2 2 b_p_start_timer
def b_p_state:SM:=(mRet (mFld ["End"] "state" (mVar 0)))
def p_state:GM:=mDef 1 1 b_p_state
def b_p_our_window:SM:=(mRet (mCB p_room (mCons (mFld ["End"] "come" (mVar 0)) mNil)))
def p_our_window:GM:=mDef 1 1 b_p_our_window
def b_p_most_at_once:SM:=(mRet (mCB minG (mCons (mFld ["End"] "most" (mVar 0)) (mCons (mC (.int 16)) mNil))))
def p_most_at_once:GM:=mDef 1 1 b_p_most_at_once
def b_p_paid_syn_1:SM:=(mIf (mTest (mOp eqM (mFld ["End"] "state" (mVar 0)) (mC (.str "syn sent")))) (mRet (mTup (mCons (mFld ["End"] "ours" (mVar 0)) (mCons (mFld ["End"] "theirs" (mVar 0)) (mCons (mFld ["End"] "first" (mVar 0)) (mCons (mC (.int 0)) (mCons (mC (.int 2)) (mCons (mC (.int 64)) (mCons (mC (.int 16)) (mCons (mTup mNil) mNil)))))))))) mSkip)
def b_p_paid_syn:SM:=(mSeq (mSetF ["End"] "owes_syn" (mVar 0) (mC (.bl false)))
  (mSeq b_p_paid_syn_1
  (mRet (mTup (mCons (mFld ["End"] "ours" (mVar 0)) (mCons (mFld ["End"] "theirs" (mVar 0)) (mCons (mFld ["End"] "first" (mVar 0)) (mCons (mFld ["End"] "rcv" (mVar 0)) (mCons (mOp addM (mC (.int 2)) (mC (.int 16))) (mCons (mC (.int 64)) (mCons (mC (.int 16)) (mCons (mTup mNil) mNil))))))))))))
def p_paid_syn:GM:=mDef 1 1 b_p_paid_syn
def b_p_segment_of:SM:=(mRet (mTup (mCons (mFld ["End"] "ours" (mVar 0)) (mCons (mFld ["End"] "theirs" (mVar 0)) (mCons (mVar 1) (mCons (mFld ["End"] "rcv" (mVar 0)) (mCons (mOp addM (mVar 2) (mC (.int 16))) (mCons (mCB p_our_window (mCons (mVar 0) mNil)) (mCons (mC (.int 0)) (mCons (mCB tupleG (mCons (mVar 3) mNil)) mNil))))))))))
def p_segment_of:GM:=mDef 4 4 b_p_segment_of
def b_p_again_1:SM:=(mIf (mTest (mOp eqM (mFld ["End"] "tries" (mVar 0)) (mC (.int 6)))) (mSeq (mSetF ["End"] "state" (mVar 0) (mC (.str "closed")))
    (mSeq (mSetF ["End"] "error" (mVar 0) (mC (.str "time")))
    (mRet (mC .non)))) mSkip)
def b_p_again_2:SM:=(mIf (mTest (mOp inM (mFld ["End"] "state" (mVar 0)) (mTup (mCons (mC (.str "syn sent")) (mCons (mC (.str "syn come")) mNil))))) (mRet (mCB p_paid_syn (mCons (mVar 0) mNil))) mSkip)
def b_p_again:SM:=(mSeq b_p_again_1
  (mSeq (mSetF ["End"] "tries" (mVar 0) (mOp addM (mFld ["End"] "tries" (mVar 0)) (mC (.int 1))))
  (mSeq (mSetF ["End"] "wait" (mVar 0) (mCB minG (mCons (mOp mulM (mC (.int 2)) (mFld ["End"] "wait" (mVar 0))) (mCons (mC (.int 16000)) mNil))))
  (mSeq (mSetF ["End"] "since" (mVar 0) (mVar 1))
  (mSeq b_p_again_2
  (mSeq (mSet 2 (mSl (mFld ["Pile"] "row" (mFld ["End"] "written" (mVar 0))) mNoPart (mPart (mCB minG (mCons (mCB p_offset (mCons (mFld ["End"] "nxt" (mVar 0)) (mCons (mFld ["End"] "una" (mVar 0)) mNil))) (mCons (mCB p_most_at_once (mCons (mVar 0) mNil)) mNil))))))
  (mRet (mCB p_segment_of (mCons (mVar 0) (mCons (mFld ["End"] "una" (mVar 0)) (mCons (mIte (mTest (mOp gtM (mCB lenG (mCons (mVar 2) mNil)) (mC (.int 0)))) (mC (.int 0)) (mC (.int 1))) (mCons (mVar 2) mNil))))))))))))
def p_again:GM:=mDef 2 3 b_p_again
def b_p_going_as_answer_1:SM:=(mIf (mNot (mTru (mFld ["End"] "owes_answer" (mVar 0)))) (mRet (mC .non)) mSkip)
def b_p_going_as_answer:SM:=(mSeq b_p_going_as_answer_1
  (mSeq (mSetF ["End"] "owes_answer" (mVar 0) (mC (.bl false)))
  (mRet (mCB p_segment_of (mCons (mVar 0) (mCons (mFld ["End"] "nxt" (mVar 0)) (mCons (mC (.int 0)) (mCons (mLst mNil) mNil))))))))
def p_going_as_answer:GM:=mDef 1 1 b_p_going_as_answer
def b_p_unsent:SM:=(mRet (mCB p_offset (mCons (mFld ["End"] "behind" (mVar 0)) (mCons (mFld ["End"] "nxt" (mVar 0)) mNil))))
def p_unsent:GM:=mDef 1 1 b_p_unsent
def b_p_has_new_data:SM:=(mRet (mAndV (mOp inM (mFld ["End"] "state" (mVar 0)) (mTup (mCons (mC (.str "open")) (mCons (mC (.str "wait one")) (mCons (mC (.str "close wait")) (mCons (mC (.str "closing")) (mCons (mC (.str "last ack")) mNil))))))) (mOp gtM (mCB p_unsent (mCons (mVar 0) mNil)) (mC (.int 0)))))
def p_has_new_data:GM:=mDef 1 1 b_p_has_new_data
def b_p_has_new_fin:SM:=(mRet (mAndV (mOp inM (mFld ["End"] "state" (mVar 0)) (mTup (mCons (mC (.str "wait one")) (mCons (mC (.str "closing")) (mCons (mC (.str "last ack")) mNil))))) (mOp eqM (mCB p_unsent (mCons (mVar 0) mNil)) (mC (.int 0)))))
def p_has_new_fin:GM:=mDef 1 1 b_p_has_new_fin
def b_p_has_more:SM:=(mRet (mOrV (mCB p_has_new_data (mCons (mVar 0) mNil)) (mCB p_has_new_fin (mCons (mVar 0) mNil))))
def p_has_more:GM:=mDef 1 1 b_p_has_more
def b_p_new_data:SM:=(mSeq (mSet 2 (mFld ["End"] "nxt" (mVar 0)))
  (mSeq (mSet 3 (mCB minG (mCons (mCB p_most_at_once (mCons (mVar 0) mNil)) (mCons (mCB p_unsent (mCons (mVar 0) mNil)) (mCons (mVar 1) mNil)))))
  (mSeq (mSet 4 (mCB p_offset (mCons (mVar 2) (mCons (mFld ["End"] "una" (mVar 0)) mNil))))
  (mSeq (mSetF ["End"] "nxt" (mVar 0) (mCB p_plus (mCons (mVar 2) (mCons (mVar 3) mNil))))
  (mRet (mCB p_segment_of (mCons (mVar 0) (mCons (mVar 2) (mCons (mIte (mTest (mOp eqM (mCB p_unsent (mCons (mVar 0) mNil)) (mC (.int 0)))) (mC (.int 8)) (mC (.int 0))) (mCons (mSl (mFld ["Pile"] "row" (mFld ["End"] "written" (mVar 0))) (mPart (mVar 4)) (mPart (mOp addM (mVar 4) (mVar 3)))) mNil))))))))))
def p_new_data:GM:=mDef 2 5 b_p_new_data
def b_p_new_fin:SM:=(mSeq (mSet 1 (mFld ["End"] "nxt" (mVar 0)))
  (mSeq (mSetF ["End"] "nxt" (mVar 0) (mCB p_plus (mCons (mVar 1) (mCons (mC (.int 1)) mNil))))
  (mRet (mCB p_segment_of (mCons (mVar 0) (mCons (mVar 1) (mCons (mC (.int 1)) (mCons (mLst mNil) mNil))))))))
def p_new_fin:GM:=mDef 1 2 b_p_new_fin
def b_p_new_piece:SM:=(mSeq (mSetF ["End"] "probes" (mVar 0) (mC (.bl false)))
  (mRet (mIte (mTru (mCB p_has_new_data (mCons (mVar 0) mNil))) (mCB p_new_data (mCons (mVar 0) (mCons (mVar 1) mNil))) (mCB p_new_fin (mCons (mVar 0) mNil)))))
def p_new_piece:GM:=mDef 2 2 b_p_new_piece
def b_p_new_syn_1:SM:=(mIf (mTest (mOp eqM (mFld ["End"] "nxt" (mVar 0)) (mFld ["End"] "una" (mVar 0)))) (mExpr (mCB p_start_timer (mCons (mVar 0) (mCons (mVar 1) mNil)))) mSkip)
def b_p_new_syn:SM:=(mSeq b_p_new_syn_1
  (mSeq (mSetF ["End"] "nxt" (mVar 0) (mCB p_plus (mCons (mFld ["End"] "first" (mVar 0)) (mCons (mC (.int 1)) mNil))))
  (mRet (mCB p_paid_syn (mCons (mVar 0) mNil)))))
def p_new_syn:GM:=mDef 2 2 b_p_new_syn
def b_p_going_as_new_1:SM:=(mIf (mTest (mOp inM (mFld ["End"] "state" (mVar 0)) (mTup (mCons (mC (.str "syn sent")) (mCons (mC (.str "syn come")) mNil))))) (mRet (mIte (mOr (mTest (mOp eqM (mFld ["End"] "nxt" (mVar 0)) (mFld ["End"] "first" (mVar 0)))) (mTru (mFld ["End"] "owes_syn" (mVar 0)))) (mCB p_new_syn (mCons (mVar 0) (mCons (mVar 1) mNil))) (mC .non))) mSkip)
def b_p_going_as_new_2:SM:=(mIf (mOr (mTest (mOp leM (mVar 2) (mC (.int 0)))) (mNot (mTru (mCB p_has_more (mCons (mVar 0) mNil))))) (mRet (mC .non)) mSkip)
def b_p_going_as_new_3:SM:=(mIf (mTest (mOp eqM (mFld ["End"] "nxt" (mVar 0)) (mFld ["End"] "una" (mVar 0)))) (mExpr (mCB p_start_timer (mCons (mVar 0) (mCons (mVar 1) mNil)))) mSkip)
def b_p_going_as_new:SM:=(mSeq b_p_going_as_new_1
  (mSeq (mSet 2 (mOp subM (mFld ["End"] "wnd" (mVar 0)) (mCB p_offset (mCons (mFld ["End"] "nxt" (mVar 0)) (mCons (mFld ["End"] "una" (mVar 0)) mNil)))))
  (mSeq b_p_going_as_new_2
  (mSeq b_p_going_as_new_3
  (mSeq (mSetF ["End"] "owes_answer" (mVar 0) (mC (.bl false)))
  (mRet (mCB p_new_piece (mCons (mVar 0) (mCons (mVar 2) mNil)))))))))
def p_going_as_new:GM:=mDef 2 3 b_p_going_as_new
def b_p_is_due:SM:=(mRet (mOp geM (mOp subM (mVar 1) (mFld ["End"] "since" (mVar 0))) (mFld ["End"] "wait" (mVar 0))))
def p_is_due:GM:=mDef 2 2 b_p_is_due
def b_p_going_as_probe_1:SM:=(mIf (mOr (mTest (mOp neM (mFld ["End"] "nxt" (mVar 0)) (mFld ["End"] "una" (mVar 0)))) (mOr (mTest (mOp neM (mFld ["End"] "wnd" (mVar 0)) (mC (.int 0)))) (mNot (mTru (mCB p_has_more (mCons (mVar 0) mNil)))))) (mSeq (mSetF ["End"] "probes" (mVar 0) (mC (.bl false)))
    (mRet (mC .non))) mSkip)
def b_p_going_as_probe_2:SM:=(mIf (mNot (mTru (mFld ["End"] "probes" (mVar 0)))) (mSeq (mSetF ["End"] "probes" (mVar 0) (mC (.bl true)))
    (mExpr (mCB p_start_timer (mCons (mVar 0) (mCons (mVar 1) mNil))))) mSkip)
def b_p_going_as_probe_3:SM:=(mIf (mNot (mTru (mCB p_is_due (mCons (mVar 0) (mCons (mVar 1) mNil))))) (mRet (mC .non)) mSkip)
def b_p_going_as_probe:SM:=(mSeq b_p_going_as_probe_1
  (mSeq b_p_going_as_probe_2
  (mSeq b_p_going_as_probe_3
  (mSeq (mSetF ["End"] "since" (mVar 0) (mVar 1))
  (mRet (mCB p_new_piece (mCons (mVar 0) (mCons (mC (.int 1)) mNil))))))))
def p_going_as_probe:GM:=mDef 2 2 b_p_going_as_probe
def b_p_paid_reset:SM:=(mSeq (mSet 1 (mFld ["End"] "owed_reset" (mVar 0)))
  (mSeq (mSetF ["End"] "owed_reset" (mVar 0) (mC .non))
  (mRet (mVar 1))))
def p_paid_reset:GM:=mDef 1 2 b_p_paid_reset
def b_p_going_1:SM:=(mIf (mTest (mOp isNotM (mFld ["End"] "owed_reset" (mVar 0)) (mC .non))) (mRet (mCB p_paid_reset (mCons (mVar 0) mNil))) mSkip)
def b_p_going_2:SM:=(mIf (mAnd (mTest (mOp eqM (mFld ["End"] "state" (mVar 0)) (mC (.str "time wait")))) (mTest (mOp geM (mOp subM (mVar 1) (mFld ["End"] "since" (mVar 0))) (mC (.int 120000))))) (mSetF ["End"] "state" (mVar 0) (mC (.str "closed"))) mSkip)
def b_p_going_3:SM:=(mIf (mTest (mOp inM (mFld ["End"] "state" (mVar 0)) (mTup (mCons (mC (.str "closed")) (mCons (mC (.str "listen")) mNil))))) (mRet (mC .non)) mSkip)
def b_p_going_4:SM:=(mIf (mAnd (mTest (mOp neM (mFld ["End"] "nxt" (mVar 0)) (mFld ["End"] "una" (mVar 0)))) (mTru (mCB p_is_due (mCons (mVar 0) (mCons (mVar 1) mNil))))) (mRet (mCB p_again (mCons (mVar 0) (mCons (mVar 1) mNil)))) mSkip)
def b_p_going_5:SM:=(mIf (mTest (mOp isM (mVar 2) (mC .non))) (mSet 2 (mCB p_going_as_probe (mCons (mVar 0) (mCons (mVar 1) mNil)))) mSkip)
def b_p_going_6:SM:=(mIf (mTest (mOp isM (mVar 2) (mC .non))) (mSet 2 (mCB p_going_as_answer (mCons (mVar 0) mNil))) mSkip)
def b_p_going:SM:=(mSeq b_p_going_1
  (mSeq b_p_going_2
  (mSeq b_p_going_3
  (mSeq b_p_going_4
  (mSeq (mSet 2 (mCB p_going_as_new (mCons (mVar 0) (mCons (mVar 1) mNil))))
  (mSeq b_p_going_5
  (mSeq b_p_going_6
  (mRet (mVar 2)))))))))
def p_going:GM:=mDef 2 3 b_p_going
def b_p_send:SM:=(mSeq (mSet 2 (mCB p_going (mCons (mVar 0) (mCons (mVar 1) mNil))))
  (mRet (mIte (mTest (mOp isM (mVar 2) (mC .non))) (mLst mNil) (mCB p_put (mCons (mVar 2) mNil)))))
def p_send:GM:=mDef 2 3 b_p_send
def b_p_opened:SM:=(mRet (mCB (mkG "End" p_End_init) (mCons (mVar 0) (mCons (mVar 1) (mCons (mVar 2) (mCons (mVar 3) mNil))))))
def p_opened:GM:=mDef 4 4 b_p_opened
end
end My
set_option Elab.async false
set_option linter.all false
set_option maxRecDepth 100000
set_option maxHeartbeats 4000000
namespace My
open PySem L2 L2.MM
noncomputable section
inductive State where
  | closed | listen | synSent | synCome | opn | waitOne | waitTwo | closeWait | closing | lastAck | timeWait
  deriving DecidableEq
def State.s:State→Str
  | .closed=>"closed" | .listen=>"listen" | .synSent=>"syn sent" | .synCome=>"syn come" | .opn=>"open" | .waitOne=>"wait one" | .waitTwo=>"wait two" | .closeWait=>"close wait" | .closing=>"closing" | .lastAck=>"last ack" | .timeWait=>"time wait"
inductive Err where
  | none | refused | reset | time
  deriving DecidableEq
def Err.s:Err→Str
  | .none=>"" | .refused=>"refused" | .reset=>"reset" | .time=>"time"
structure EndS where
  ours:Int
  theirs:Int
  state:State
  error:Err
  first:Int
  una:Int
  nxt:Int
  rcv:Int
  wnd:Int
  told:Int
  told_by:Int
  most:Int
  written:List Int
  come:List Int
  early:List (Int×Int)
  early_fin:Option Int
  has_closed:Bool
  behind:Int
  owed_reset:Option Seg
  owes_syn:Bool
  owes_answer:Bool
  probes:Bool
  since:Int
  wait:Int
  tries:Int
def finD:Option Int→D
  | none=>.non
  | some i=>.int i
def rstD:Option Seg→D
  | none=>.non
  | some s=>s.d
def fields (l:Nat) (e:EndS):List (Str×D):=[("ours",.int e.ours),("theirs",.int e.theirs),("state",.str e.state.s),("error",.str e.error.s),("first",.int e.first),("una",.int e.una),("nxt",.int e.nxt),("rcv",.int e.rcv),("wnd",.int e.wnd),("told",.int e.told),("told_by",.int e.told_by),("most",.int e.most),("written",.ref (l+1)),("come",.ref (l+2)),("early",.ref (l+3)),("early_fin",finD e.early_fin),("has_closed",.bl e.has_closed),("behind",.int e.behind),("owed_reset",rstD e.owed_reset),("owes_syn",.bl e.owes_syn),("owes_answer",.bl e.owes_answer),("probes",.bl e.probes),("since",.int e.since),("wait",.int e.wait),("tries",.int e.tries)]
def c0 (l:Nat) (e:EndS):Cell:=.ins "End" (fields l e)
def c1 (e:EndS):Cell:=.ins "Pile" [("row",il e.written)]
def c2 (e:EndS):Cell:=.ins "Pile" [("row",il e.come)]
def c3 (e:EndS):Cell:=.dK (e.early.map fun p=>(Sum.inl p.1,D.int p.2))
def upE (θ:Sto) (l:Nat) (e:EndS):Sto:=(((θ.set l (c0 l e)).set (l+1) (c1 e)).set (l+2) (c2 e)).set (l+3) (c3 e)
theorem at0 {θ:Sto} {l:Nat} (h:l+3 < θ.length) (e:EndS):(upE θ l e)[l]?=some (c0 l e):=by
  unfold upE
  rw [List.getElem?_set_ne (by omega),List.getElem?_set_ne (by omega),List.getElem?_set_ne (by omega),List.getElem?_set_self (by omega)]
theorem at1 {θ:Sto} {l:Nat} (h:l+3 < θ.length) (e:EndS):(upE θ l e)[l+1]?=some (c1 e):=by
  unfold upE
  rw [List.getElem?_set_ne (by omega),List.getElem?_set_ne (by omega),List.getElem?_set_self (by simp; omega)]
theorem at2' {θ:Sto} {l:Nat} (h:l+3 < θ.length) (e:EndS):(upE θ l e)[l+2]?=some (c2 e):=by
  unfold upE
  rw [List.getElem?_set_ne (by omega),List.getElem?_set_self (by simp; omega)]
theorem set0 {θ:Sto} {l:Nat} (h:l+3 < θ.length) (e e':EndS) (h1:e'.written=e.written) (h2:e'.come=e.come) (h3:e'.early=e.early):(upE θ l e).set l (c0 l e')=upE θ l e':=by
  unfold upE
  rw [show c1 e'=c1 e by unfold c1; rw [h1],show c2 e'=c2 e by unfold c2; rw [h2],show c3 e'=c3 e by unfold c3; rw [h3]]
  apply List.ext_getElem?
  intro i
  simp only [List.getElem?_set,List.length_set]
  by_cases h3:l=i
  · subst h3; simp
  · simp [h3]
theorem ins0 {θ:Sto} {l:Nat} (h:l+3 < θ.length) (e:EndS):insOf (upE θ l e) (.ref l)=some (l,("End":Str),fields l e):=by
  show (match (upE θ l e)[l]? with | some (Cell.ins C fs)=>some (l,C,fs) | _=>none)=_
  rw [at0 h]
  rfl
theorem ce:(["End"]:List Str).contains "End"=true:=by decide +kernel
theorem cp:(["Pile"]:List Str).contains "Pile"=true:=by decide +kernel
@[simp] theorem g_ours {θ:Sto} {l:Nat} (h:l+3 < θ.length) (e:EndS):fldK ["End"] "ours" (.ref l) (upE θ l e)=.ok (.int e.ours) (upE θ l e):=by
  unfold fldK
  rw [ins0 h]
  simp only [ce,if_true]
  rw [show (fields l e).lookup ("ours":Str)=some (.int e.ours) by with_unfolding_all rfl]
@[simp] theorem g_theirs {θ:Sto} {l:Nat} (h:l+3 < θ.length) (e:EndS):fldK ["End"] "theirs" (.ref l) (upE θ l e)=.ok (.int e.theirs) (upE θ l e):=by
  unfold fldK
  rw [ins0 h]
  simp only [ce,if_true]
  rw [show (fields l e).lookup ("theirs":Str)=some (.int e.theirs) by with_unfolding_all rfl]
@[simp] theorem g_state {θ:Sto} {l:Nat} (h:l+3 < θ.length) (e:EndS):fldK ["End"] "state" (.ref l) (upE θ l e)=.ok (.str e.state.s) (upE θ l e):=by
  unfold fldK
  rw [ins0 h]
  simp only [ce,if_true]
  rw [show (fields l e).lookup ("state":Str)=some (.str e.state.s) by with_unfolding_all rfl]
@[simp] theorem g_first {θ:Sto} {l:Nat} (h:l+3 < θ.length) (e:EndS):fldK ["End"] "first" (.ref l) (upE θ l e)=.ok (.int e.first) (upE θ l e):=by
  unfold fldK
  rw [ins0 h]
  simp only [ce,if_true]
  rw [show (fields l e).lookup ("first":Str)=some (.int e.first) by with_unfolding_all rfl]
@[simp] theorem g_una {θ:Sto} {l:Nat} (h:l+3 < θ.length) (e:EndS):fldK ["End"] "una" (.ref l) (upE θ l e)=.ok (.int e.una) (upE θ l e):=by
  unfold fldK
  rw [ins0 h]
  simp only [ce,if_true]
  rw [show (fields l e).lookup ("una":Str)=some (.int e.una) by with_unfolding_all rfl]
@[simp] theorem g_nxt {θ:Sto} {l:Nat} (h:l+3 < θ.length) (e:EndS):fldK ["End"] "nxt" (.ref l) (upE θ l e)=.ok (.int e.nxt) (upE θ l e):=by
  unfold fldK
  rw [ins0 h]
  simp only [ce,if_true]
  rw [show (fields l e).lookup ("nxt":Str)=some (.int e.nxt) by with_unfolding_all rfl]
@[simp] theorem g_rcv {θ:Sto} {l:Nat} (h:l+3 < θ.length) (e:EndS):fldK ["End"] "rcv" (.ref l) (upE θ l e)=.ok (.int e.rcv) (upE θ l e):=by
  unfold fldK
  rw [ins0 h]
  simp only [ce,if_true]
  rw [show (fields l e).lookup ("rcv":Str)=some (.int e.rcv) by with_unfolding_all rfl]
@[simp] theorem g_wnd {θ:Sto} {l:Nat} (h:l+3 < θ.length) (e:EndS):fldK ["End"] "wnd" (.ref l) (upE θ l e)=.ok (.int e.wnd) (upE θ l e):=by
  unfold fldK
  rw [ins0 h]
  simp only [ce,if_true]
  rw [show (fields l e).lookup ("wnd":Str)=some (.int e.wnd) by with_unfolding_all rfl]
@[simp] theorem g_told {θ:Sto} {l:Nat} (h:l+3 < θ.length) (e:EndS):fldK ["End"] "told" (.ref l) (upE θ l e)=.ok (.int e.told) (upE θ l e):=by
  unfold fldK
  rw [ins0 h]
  simp only [ce,if_true]
  rw [show (fields l e).lookup ("told":Str)=some (.int e.told) by with_unfolding_all rfl]
@[simp] theorem g_told_by {θ:Sto} {l:Nat} (h:l+3 < θ.length) (e:EndS):fldK ["End"] "told_by" (.ref l) (upE θ l e)=.ok (.int e.told_by) (upE θ l e):=by
  unfold fldK
  rw [ins0 h]
  simp only [ce,if_true]
  rw [show (fields l e).lookup ("told_by":Str)=some (.int e.told_by) by with_unfolding_all rfl]
@[simp] theorem g_most {θ:Sto} {l:Nat} (h:l+3 < θ.length) (e:EndS):fldK ["End"] "most" (.ref l) (upE θ l e)=.ok (.int e.most) (upE θ l e):=by
  unfold fldK
  rw [ins0 h]
  simp only [ce,if_true]
  rw [show (fields l e).lookup ("most":Str)=some (.int e.most) by with_unfolding_all rfl]
@[simp] theorem g_written {θ:Sto} {l:Nat} (h:l+3 < θ.length) (e:EndS):fldK ["End"] "written" (.ref l) (upE θ l e)=.ok (.ref (l+1)) (upE θ l e):=by
  unfold fldK
  rw [ins0 h]
  simp only [ce,if_true]
  rw [show (fields l e).lookup ("written":Str)=some (.ref (l+1)) by with_unfolding_all rfl]
@[simp] theorem g_come {θ:Sto} {l:Nat} (h:l+3 < θ.length) (e:EndS):fldK ["End"] "come" (.ref l) (upE θ l e)=.ok (.ref (l+2)) (upE θ l e):=by
  unfold fldK
  rw [ins0 h]
  simp only [ce,if_true]
  rw [show (fields l e).lookup ("come":Str)=some (.ref (l+2)) by with_unfolding_all rfl]
@[simp] theorem g_early {θ:Sto} {l:Nat} (h:l+3 < θ.length) (e:EndS):fldK ["End"] "early" (.ref l) (upE θ l e)=.ok (.ref (l+3)) (upE θ l e):=by
  unfold fldK
  rw [ins0 h]
  simp only [ce,if_true]
  rw [show (fields l e).lookup ("early":Str)=some (.ref (l+3)) by with_unfolding_all rfl]
@[simp] theorem g_early_fin {θ:Sto} {l:Nat} (h:l+3 < θ.length) (e:EndS):fldK ["End"] "early_fin" (.ref l) (upE θ l e)=.ok (finD e.early_fin) (upE θ l e):=by
  unfold fldK
  rw [ins0 h]
  simp only [ce,if_true]
  rw [show (fields l e).lookup ("early_fin":Str)=some (finD e.early_fin) by with_unfolding_all rfl]
@[simp] theorem g_has_closed {θ:Sto} {l:Nat} (h:l+3 < θ.length) (e:EndS):fldK ["End"] "has_closed" (.ref l) (upE θ l e)=.ok (.bl e.has_closed) (upE θ l e):=by
  unfold fldK
  rw [ins0 h]
  simp only [ce,if_true]
  rw [show (fields l e).lookup ("has_closed":Str)=some (.bl e.has_closed) by with_unfolding_all rfl]
@[simp] theorem g_behind {θ:Sto} {l:Nat} (h:l+3 < θ.length) (e:EndS):fldK ["End"] "behind" (.ref l) (upE θ l e)=.ok (.int e.behind) (upE θ l e):=by
  unfold fldK
  rw [ins0 h]
  simp only [ce,if_true]
  rw [show (fields l e).lookup ("behind":Str)=some (.int e.behind) by with_unfolding_all rfl]
@[simp] theorem g_owed_reset {θ:Sto} {l:Nat} (h:l+3 < θ.length) (e:EndS):fldK ["End"] "owed_reset" (.ref l) (upE θ l e)=.ok (rstD e.owed_reset) (upE θ l e):=by
  unfold fldK
  rw [ins0 h]
  simp only [ce,if_true]
  rw [show (fields l e).lookup ("owed_reset":Str)=some (rstD e.owed_reset) by with_unfolding_all rfl]
@[simp] theorem g_owes_syn {θ:Sto} {l:Nat} (h:l+3 < θ.length) (e:EndS):fldK ["End"] "owes_syn" (.ref l) (upE θ l e)=.ok (.bl e.owes_syn) (upE θ l e):=by
  unfold fldK
  rw [ins0 h]
  simp only [ce,if_true]
  rw [show (fields l e).lookup ("owes_syn":Str)=some (.bl e.owes_syn) by with_unfolding_all rfl]
@[simp] theorem g_owes_answer {θ:Sto} {l:Nat} (h:l+3 < θ.length) (e:EndS):fldK ["End"] "owes_answer" (.ref l) (upE θ l e)=.ok (.bl e.owes_answer) (upE θ l e):=by
  unfold fldK
  rw [ins0 h]
  simp only [ce,if_true]
  rw [show (fields l e).lookup ("owes_answer":Str)=some (.bl e.owes_answer) by with_unfolding_all rfl]
@[simp] theorem g_probes {θ:Sto} {l:Nat} (h:l+3 < θ.length) (e:EndS):fldK ["End"] "probes" (.ref l) (upE θ l e)=.ok (.bl e.probes) (upE θ l e):=by
  unfold fldK
  rw [ins0 h]
  simp only [ce,if_true]
  rw [show (fields l e).lookup ("probes":Str)=some (.bl e.probes) by with_unfolding_all rfl]
@[simp] theorem g_since {θ:Sto} {l:Nat} (h:l+3 < θ.length) (e:EndS):fldK ["End"] "since" (.ref l) (upE θ l e)=.ok (.int e.since) (upE θ l e):=by
  unfold fldK
  rw [ins0 h]
  simp only [ce,if_true]
  rw [show (fields l e).lookup ("since":Str)=some (.int e.since) by with_unfolding_all rfl]
@[simp] theorem g_wait {θ:Sto} {l:Nat} (h:l+3 < θ.length) (e:EndS):fldK ["End"] "wait" (.ref l) (upE θ l e)=.ok (.int e.wait) (upE θ l e):=by
  unfold fldK
  rw [ins0 h]
  simp only [ce,if_true]
  rw [show (fields l e).lookup ("wait":Str)=some (.int e.wait) by with_unfolding_all rfl]
@[simp] theorem g_tries {θ:Sto} {l:Nat} (h:l+3 < θ.length) (e:EndS):fldK ["End"] "tries" (.ref l) (upE θ l e)=.ok (.int e.tries) (upE θ l e):=by
  unfold fldK
  rw [ins0 h]
  simp only [ce,if_true]
  rw [show (fields l e).lookup ("tries":Str)=some (.int e.tries) by with_unfolding_all rfl]
@[simp] theorem s_theirs {θ:Sto} {l:Nat} (h:l+3 < θ.length) (e:EndS) (v:Int):setK ["End"] "theirs" (.int v) (.ref l) (upE θ l e)=some (upE θ l { e with theirs:=v }):=by
  unfold setK
  rw [ins0 h]
  simp only [ce]
  rw [if_pos ⟨trivial,show 25<1000 by decide⟩,show putFD ("theirs":Str) (.int v) (fields l e)=fields l { e with theirs:=v } by with_unfolding_all rfl]
  exact congrArg some (set0 h e { e with theirs:=v } rfl rfl rfl)
@[simp] theorem s_state {θ:Sto} {l:Nat} (h:l+3 < θ.length) (e:EndS) (v:State):setK ["End"] "state" (.str v.s) (.ref l) (upE θ l e)=some (upE θ l { e with state:=v }):=by
  unfold setK
  rw [ins0 h]
  simp only [ce]
  rw [if_pos ⟨trivial,show 25<1000 by decide⟩,show putFD ("state":Str) (.str v.s) (fields l e)=fields l { e with state:=v } by with_unfolding_all rfl]
  exact congrArg some (set0 h e { e with state:=v } rfl rfl rfl)
@[simp] theorem s_error {θ:Sto} {l:Nat} (h:l+3 < θ.length) (e:EndS) (v:Err):setK ["End"] "error" (.str v.s) (.ref l) (upE θ l e)=some (upE θ l { e with error:=v }):=by
  unfold setK
  rw [ins0 h]
  simp only [ce]
  rw [if_pos ⟨trivial,show 25<1000 by decide⟩,show putFD ("error":Str) (.str v.s) (fields l e)=fields l { e with error:=v } by with_unfolding_all rfl]
  exact congrArg some (set0 h e { e with error:=v } rfl rfl rfl)
@[simp] theorem s_una {θ:Sto} {l:Nat} (h:l+3 < θ.length) (e:EndS) (v:Int):setK ["End"] "una" (.int v) (.ref l) (upE θ l e)=some (upE θ l { e with una:=v }):=by
  unfold setK
  rw [ins0 h]
  simp only [ce]
  rw [if_pos ⟨trivial,show 25<1000 by decide⟩,show putFD ("una":Str) (.int v) (fields l e)=fields l { e with una:=v } by with_unfolding_all rfl]
  exact congrArg some (set0 h e { e with una:=v } rfl rfl rfl)
@[simp] theorem s_nxt {θ:Sto} {l:Nat} (h:l+3 < θ.length) (e:EndS) (v:Int):setK ["End"] "nxt" (.int v) (.ref l) (upE θ l e)=some (upE θ l { e with nxt:=v }):=by
  unfold setK
  rw [ins0 h]
  simp only [ce]
  rw [if_pos ⟨trivial,show 25<1000 by decide⟩,show putFD ("nxt":Str) (.int v) (fields l e)=fields l { e with nxt:=v } by with_unfolding_all rfl]
  exact congrArg some (set0 h e { e with nxt:=v } rfl rfl rfl)
@[simp] theorem s_rcv {θ:Sto} {l:Nat} (h:l+3 < θ.length) (e:EndS) (v:Int):setK ["End"] "rcv" (.int v) (.ref l) (upE θ l e)=some (upE θ l { e with rcv:=v }):=by
  unfold setK
  rw [ins0 h]
  simp only [ce]
  rw [if_pos ⟨trivial,show 25<1000 by decide⟩,show putFD ("rcv":Str) (.int v) (fields l e)=fields l { e with rcv:=v } by with_unfolding_all rfl]
  exact congrArg some (set0 h e { e with rcv:=v } rfl rfl rfl)
@[simp] theorem s_wnd {θ:Sto} {l:Nat} (h:l+3 < θ.length) (e:EndS) (v:Int):setK ["End"] "wnd" (.int v) (.ref l) (upE θ l e)=some (upE θ l { e with wnd:=v }):=by
  unfold setK
  rw [ins0 h]
  simp only [ce]
  rw [if_pos ⟨trivial,show 25<1000 by decide⟩,show putFD ("wnd":Str) (.int v) (fields l e)=fields l { e with wnd:=v } by with_unfolding_all rfl]
  exact congrArg some (set0 h e { e with wnd:=v } rfl rfl rfl)
@[simp] theorem s_told {θ:Sto} {l:Nat} (h:l+3 < θ.length) (e:EndS) (v:Int):setK ["End"] "told" (.int v) (.ref l) (upE θ l e)=some (upE θ l { e with told:=v }):=by
  unfold setK
  rw [ins0 h]
  simp only [ce]
  rw [if_pos ⟨trivial,show 25<1000 by decide⟩,show putFD ("told":Str) (.int v) (fields l e)=fields l { e with told:=v } by with_unfolding_all rfl]
  exact congrArg some (set0 h e { e with told:=v } rfl rfl rfl)
@[simp] theorem s_told_by {θ:Sto} {l:Nat} (h:l+3 < θ.length) (e:EndS) (v:Int):setK ["End"] "told_by" (.int v) (.ref l) (upE θ l e)=some (upE θ l { e with told_by:=v }):=by
  unfold setK
  rw [ins0 h]
  simp only [ce]
  rw [if_pos ⟨trivial,show 25<1000 by decide⟩,show putFD ("told_by":Str) (.int v) (fields l e)=fields l { e with told_by:=v } by with_unfolding_all rfl]
  exact congrArg some (set0 h e { e with told_by:=v } rfl rfl rfl)
@[simp] theorem s_most {θ:Sto} {l:Nat} (h:l+3 < θ.length) (e:EndS) (v:Int):setK ["End"] "most" (.int v) (.ref l) (upE θ l e)=some (upE θ l { e with most:=v }):=by
  unfold setK
  rw [ins0 h]
  simp only [ce]
  rw [if_pos ⟨trivial,show 25<1000 by decide⟩,show putFD ("most":Str) (.int v) (fields l e)=fields l { e with most:=v } by with_unfolding_all rfl]
  exact congrArg some (set0 h e { e with most:=v } rfl rfl rfl)
@[simp] theorem s_early_fin {θ:Sto} {l:Nat} (h:l+3 < θ.length) (e:EndS) (v:Option Int):setK ["End"] "early_fin" (finD v) (.ref l) (upE θ l e)=some (upE θ l { e with early_fin:=v }):=by
  unfold setK
  rw [ins0 h]
  simp only [ce]
  rw [if_pos ⟨trivial,show 25<1000 by decide⟩,show putFD ("early_fin":Str) (finD v) (fields l e)=fields l { e with early_fin:=v } by with_unfolding_all rfl]
  exact congrArg some (set0 h e { e with early_fin:=v } rfl rfl rfl)
@[simp] theorem s_behind {θ:Sto} {l:Nat} (h:l+3 < θ.length) (e:EndS) (v:Int):setK ["End"] "behind" (.int v) (.ref l) (upE θ l e)=some (upE θ l { e with behind:=v }):=by
  unfold setK
  rw [ins0 h]
  simp only [ce]
  rw [if_pos ⟨trivial,show 25<1000 by decide⟩,show putFD ("behind":Str) (.int v) (fields l e)=fields l { e with behind:=v } by with_unfolding_all rfl]
  exact congrArg some (set0 h e { e with behind:=v } rfl rfl rfl)
@[simp] theorem s_owed_reset {θ:Sto} {l:Nat} (h:l+3 < θ.length) (e:EndS) (v:Option Seg):setK ["End"] "owed_reset" (rstD v) (.ref l) (upE θ l e)=some (upE θ l { e with owed_reset:=v }):=by
  unfold setK
  rw [ins0 h]
  simp only [ce]
  rw [if_pos ⟨trivial,show 25<1000 by decide⟩,show putFD ("owed_reset":Str) (rstD v) (fields l e)=fields l { e with owed_reset:=v } by with_unfolding_all rfl]
  exact congrArg some (set0 h e { e with owed_reset:=v } rfl rfl rfl)
@[simp] theorem s_owes_syn {θ:Sto} {l:Nat} (h:l+3 < θ.length) (e:EndS) (v:Bool):setK ["End"] "owes_syn" (.bl v) (.ref l) (upE θ l e)=some (upE θ l { e with owes_syn:=v }):=by
  unfold setK
  rw [ins0 h]
  simp only [ce]
  rw [if_pos ⟨trivial,show 25<1000 by decide⟩,show putFD ("owes_syn":Str) (.bl v) (fields l e)=fields l { e with owes_syn:=v } by with_unfolding_all rfl]
  exact congrArg some (set0 h e { e with owes_syn:=v } rfl rfl rfl)
@[simp] theorem s_owes_answer {θ:Sto} {l:Nat} (h:l+3 < θ.length) (e:EndS) (v:Bool):setK ["End"] "owes_answer" (.bl v) (.ref l) (upE θ l e)=some (upE θ l { e with owes_answer:=v }):=by
  unfold setK
  rw [ins0 h]
  simp only [ce]
  rw [if_pos ⟨trivial,show 25<1000 by decide⟩,show putFD ("owes_answer":Str) (.bl v) (fields l e)=fields l { e with owes_answer:=v } by with_unfolding_all rfl]
  exact congrArg some (set0 h e { e with owes_answer:=v } rfl rfl rfl)
@[simp] theorem s_probes {θ:Sto} {l:Nat} (h:l+3 < θ.length) (e:EndS) (v:Bool):setK ["End"] "probes" (.bl v) (.ref l) (upE θ l e)=some (upE θ l { e with probes:=v }):=by
  unfold setK
  rw [ins0 h]
  simp only [ce]
  rw [if_pos ⟨trivial,show 25<1000 by decide⟩,show putFD ("probes":Str) (.bl v) (fields l e)=fields l { e with probes:=v } by with_unfolding_all rfl]
  exact congrArg some (set0 h e { e with probes:=v } rfl rfl rfl)
@[simp] theorem s_since {θ:Sto} {l:Nat} (h:l+3 < θ.length) (e:EndS) (v:Int):setK ["End"] "since" (.int v) (.ref l) (upE θ l e)=some (upE θ l { e with since:=v }):=by
  unfold setK
  rw [ins0 h]
  simp only [ce]
  rw [if_pos ⟨trivial,show 25<1000 by decide⟩,show putFD ("since":Str) (.int v) (fields l e)=fields l { e with since:=v } by with_unfolding_all rfl]
  exact congrArg some (set0 h e { e with since:=v } rfl rfl rfl)
@[simp] theorem s_wait {θ:Sto} {l:Nat} (h:l+3 < θ.length) (e:EndS) (v:Int):setK ["End"] "wait" (.int v) (.ref l) (upE θ l e)=some (upE θ l { e with wait:=v }):=by
  unfold setK
  rw [ins0 h]
  simp only [ce]
  rw [if_pos ⟨trivial,show 25<1000 by decide⟩,show putFD ("wait":Str) (.int v) (fields l e)=fields l { e with wait:=v } by with_unfolding_all rfl]
  exact congrArg some (set0 h e { e with wait:=v } rfl rfl rfl)
@[simp] theorem s_tries {θ:Sto} {l:Nat} (h:l+3 < θ.length) (e:EndS) (v:Int):setK ["End"] "tries" (.int v) (.ref l) (upE θ l e)=some (upE θ l { e with tries:=v }):=by
  unfold setK
  rw [ins0 h]
  simp only [ce]
  rw [if_pos ⟨trivial,show 25<1000 by decide⟩,show putFD ("tries":Str) (.int v) (fields l e)=fields l { e with tries:=v } by with_unfolding_all rfl]
  exact congrArg some (set0 h e { e with tries:=v } rfl rfl rfl)
section
variable {θ:Sto} {l:Nat}
@[simp] theorem g_rowW (h:l+3 < θ.length) (e:EndS):fldK ["Pile"] "row" (.ref (l+1)) (upE θ l e)=.ok (il e.written) (upE θ l e):=by
  have:insOf (upE θ l e) (.ref (l+1))=some (l+1,("Pile":Str),[(("row":Str),il e.written)]):=by
    show (match (upE θ l e)[l+1]? with | some (Cell.ins C fs)=>some (l+1,C,fs) | _=>none)=_
    rw [at1 h]
    rfl
  unfold fldK
  rw [this]
  simp only [cp,if_true]
  rw [show ([("row",il e.written)]:List (Str×D)).lookup ("row":Str)=some (il e.written) by with_unfolding_all rfl]
@[simp] theorem g_rowC (h:l+3 < θ.length) (e:EndS):fldK ["Pile"] "row" (.ref (l+2)) (upE θ l e)=.ok (il e.come) (upE θ l e):=by
  have:insOf (upE θ l e) (.ref (l+2))=some (l+2,("Pile":Str),[(("row":Str),il e.come)]):=by
    show (match (upE θ l e)[l+2]? with | some (Cell.ins C fs)=>some (l+2,C,fs) | _=>none)=_
    rw [at2' h]
    rfl
  unfold fldK
  rw [this]
  simp only [cp,if_true]
  rw [show ([("row",il e.come)]:List (Str×D)).lookup ("row":Str)=some (il e.come) by with_unfolding_all rfl]
@[simp] theorem s_rowW (h:l+3 < θ.length) (e:EndS) (r:List Int):setK ["Pile"] "row" (il r) (.ref (l+1)) (upE θ l e)=some (upE θ l { e with written:=r }):=by
  have:insOf (upE θ l e) (.ref (l+1))=some (l+1,("Pile":Str),[(("row":Str),il e.written)]):=by
    show (match (upE θ l e)[l+1]? with | some (Cell.ins C fs)=>some (l+1,C,fs) | _=>none)=_
    rw [at1 h]
    rfl
  unfold setK
  rw [this]
  simp only [cp]
  rw [if_pos ⟨trivial,show 1<1000 by decide⟩,show putFD ("row":Str) (il r) [("row",il e.written)]=[(("row":Str),il r)] by with_unfolding_all rfl]
  congr 1
  unfold upE
  apply List.ext_getElem?
  intro i
  simp only [List.getElem?_set,List.length_set]
  by_cases q:l+1=i
  · subst q; simp [c1]
  · simp [q,c0,c2,c3,fields]
@[simp] theorem s_rowC (h:l+3 < θ.length) (e:EndS) (r:List Int):setK ["Pile"] "row" (il r) (.ref (l+2)) (upE θ l e)=some (upE θ l { e with come:=r }):=by
  have:insOf (upE θ l e) (.ref (l+2))=some (l+2,("Pile":Str),[(("row":Str),il e.come)]):=by
    show (match (upE θ l e)[l+2]? with | some (Cell.ins C fs)=>some (l+2,C,fs) | _=>none)=_
    rw [at2' h]
    rfl
  unfold setK
  rw [this]
  simp only [cp]
  rw [if_pos ⟨trivial,show 1<1000 by decide⟩,show putFD ("row":Str) (il r) [("row",il e.come)]=[(("row":Str),il r)] by with_unfolding_all rfl]
  congr 1
  unfold upE
  apply List.ext_getElem?
  intro i
  simp only [List.getElem?_set,List.length_set]
  by_cases q:l+2=i
  · subst q; simp [c2]
  · simp [q,c0,c1,c3,fields]
end
@[simp] theorem w_closed:("closed":Str)=State.closed.s:=nr rfl
@[simp] theorem w_listen:("listen":Str)=State.listen.s:=nr rfl
@[simp] theorem w_synSent:("syn sent":Str)=State.synSent.s:=nr rfl
@[simp] theorem w_synCome:("syn come":Str)=State.synCome.s:=nr rfl
@[simp] theorem w_open:("open":Str)=State.opn.s:=nr rfl
@[simp] theorem w_waitOne:("wait one":Str)=State.waitOne.s:=nr rfl
@[simp] theorem w_waitTwo:("wait two":Str)=State.waitTwo.s:=nr rfl
@[simp] theorem w_closeWait:("close wait":Str)=State.closeWait.s:=nr rfl
@[simp] theorem w_closing:("closing":Str)=State.closing.s:=nr rfl
@[simp] theorem w_lastAck:("last ack":Str)=State.lastAck.s:=nr rfl
@[simp] theorem w_timeWait:("time wait":Str)=State.timeWait.s:=nr rfl
@[simp] theorem w_none:("":Str)=Err.none.s:=nr rfl
@[simp] theorem w_refused:("refused":Str)=Err.refused.s:=nr rfl
@[simp] theorem w_reset:("reset":Str)=Err.reset.s:=nr rfl
@[simp] theorem w_time:("time":Str)=Err.time.s:=nr rfl
theorem State.inj:∀a b:State,a.s=b.s↔a=b:=by
  intro a b
  constructor
  · intro h
    cases a<;>cases b<;>first | rfl | (exact absurd h (by decide +kernel))
  · intro h; rw [h]
theorem Err.inj:∀a b:Err,a.s=b.s↔a=b:=by
  intro a b
  constructor
  · intro h
    cases a<;>cases b<;>first | rfl | (exact absurd h (by decide +kernel))
  · intro h; rw [h]
theorem pl_str (k:Nat) (x:Str):pl k (.str x)=PyData.strOk x:=by cases k<;>simp [pl]
theorem State.ok (a:State) (k:Nat):pl k (.str a.s)=true:=by
  rw [pl_str]
  cases a<;>decide +kernel
theorem Err.ok (a:Err) (k:Nat):pl k (.str a.s)=true:=by
  rw [pl_str]
  cases a<;>decide +kernel
section
variable {θ:Sto}
@[simp] theorem eq_state (a b:State):eqM (.str a.s) (.str b.s) θ=.ok (.bl (decide (a=b))) θ:=by
  rw [eqM_of (x:=.str a.s) (y:=.str b.s) (cmp_ok (State.ok a 9) (State.ok b 9) rfl rfl)]
  simp [State.inj]
@[simp] theorem ne_state (a b:State):neM (.str a.s) (.str b.s) θ=.ok (.bl (!decide (a=b))) θ:=by
  rw [neM_of (x:=.str a.s) (y:=.str b.s) (cmp_ok (State.ok a 9) (State.ok b 9) rfl rfl)]
  simp [State.inj]
theorem memS_state (a:State):∀bs:List State,allStr (bs.map fun b=>D.str b.s)=true∧memS a.s (bs.map fun b=>D.str b.s)=decide (a∈bs)
  | []=>⟨rfl,by simp [memS]⟩
  | b::bs=>by
    obtain ⟨h1,h2⟩:=memS_state a bs
    refine ⟨h1,?_⟩
    rw [List.map_cons]
    show (decide (b.s=a.s) || memS a.s (bs.map fun b=>D.str b.s))=_
    rw [h2,Bool.eq_iff_iff]
    simp only [Bool.or_eq_true,decide_eq_true_eq,List.mem_cons,State.inj]
    constructor
    · rintro (h | h)
      · exact .inl h.symm
      · exact .inr h
    · rintro (h | h)
      · exact .inl h.symm
      · exact .inr h
theorem in_states (a:State) (bs:List State):inM (.str a.s) (.tup (bs.map fun b=>.str b.s)) θ=.ok (.bl (decide (a∈bs))) θ:=by
  obtain ⟨h1,h2⟩:=memS_state a bs
  have e:inD θ (.str a.s) (.tup (bs.map fun b=>D.str b.s))=some (decide (a∈bs)):=by
    unfold inD
    simp only [x_seqOf_tup]
    rw [if_pos h1,h2]
  unfold inM
  rw [e]
theorem notIn_states (a:State) (bs:List State):notInM (.str a.s) (.tup (bs.map fun b=>.str b.s)) θ=.ok (.bl (!decide (a∈bs))) θ:=by
  obtain ⟨h1,h2⟩:=memS_state a bs
  have e:inD θ (.str a.s) (.tup (bs.map fun b=>D.str b.s))=some (decide (a∈bs)):=by
    unfold inD
    simp only [x_seqOf_tup]
    rw [if_pos h1,h2]
  unfold notInM
  rw [e]
@[simp] theorem in_s2 (a b c:State):inM (.str a.s) (.tup [.str b.s,.str c.s]) θ=.ok (.bl (decide (a∈[b,c]))) θ:=in_states a [b,c]
@[simp] theorem in_s3 (a b c d:State):inM (.str a.s) (.tup [.str b.s,.str c.s,.str d.s]) θ=.ok (.bl (decide (a∈[b,c,d]))) θ:=in_states a [b,c,d]
@[simp] theorem in_s5 (a b c d e f:State):inM (.str a.s) (.tup [.str b.s,.str c.s,.str d.s,.str e.s,.str f.s]) θ=.ok (.bl (decide (a∈[b,c,d,e,f]))) θ:=in_states a [b,c,d,e,f]
@[simp] theorem notIn_s3 (a b c d:State):notInM (.str a.s) (.tup [.str b.s,.str c.s,.str d.s]) θ=.ok (.bl (!decide (a∈[b,c,d]))) θ:=notIn_states a [b,c,d]
@[simp] theorem notIn_s4 (a b c d e:State):notInM (.str a.s) (.tup [.str b.s,.str c.s,.str d.s,.str e.s]) θ=.ok (.bl (!decide (a∈[b,c,d,e]))) θ:=notIn_states a [b,c,d,e]
end
end
end My
set_option Elab.async false
set_option linter.all false
set_option maxRecDepth 100000
set_option maxHeartbeats 4000000
namespace My
open PySem L2 L2.MM
noncomputable section
def plus (n k:Int):Int:=(n+k) % 4294967296
def offset (n b:Int):Int:=(n-b+2147483648) % 4294967296-2147483648
def startTimer (e:EndS) (now:Int):EndS:={ e with since:=now,wait:=1000,tries:=0 }
def ourWindow (e:EndS):Int:=64-(e.come.length:Int)
def mostAtOnce (e:EndS):Int:=if 16<e.most then 16 else e.most
def isDue (e:EndS) (now:Int):Bool:=decide (e.wait≤now-e.since)
def segOf (e:EndS) (n f:Int) (data:List Int):Seg:=⟨e.ours,e.theirs,n,e.rcv,f+16,ourWindow e,0,data⟩
def paidSyn (e:EndS):Seg:=if e.state=.synSent then ⟨e.ours,e.theirs,e.first,0,2,64,16,[]⟩ else ⟨e.ours,e.theirs,e.first,e.rcv,18,64,16,[]⟩
def mn (i j:Int):Int:=if j<i then j else i
def againData (e:EndS):List Int:=cutL e.written none (some (mn (offset e.nxt e.una) (mostAtOnce e)))
def again (e:EndS) (now:Int):Option Seg×EndS:=
  if e.tries=6 then (none,{ e with state:=.closed,error:=.time })
  else
    let e1:={ e with tries:=e.tries+1,wait:=mn (2*e.wait) 16000,since:=now }
    if e.state=.synSent∨e.state=.synCome then (some (paidSyn e1),{ e1 with owes_syn:=false })
    else (some (segOf e1 e.una (if 0<(againData e).length then 0 else 1) (againData e)),e1)
def unsent (e:EndS):Int:=offset e.behind e.nxt
def hasNewData (e:EndS):Bool:=decide (e.state∈[State.opn,.waitOne,.closeWait,.closing,.lastAck]) && decide (0<unsent e)
def hasNewFin (e:EndS):Bool:=decide (e.state∈[State.waitOne,.closing,.lastAck]) && decide (unsent e=0)
def hasMore (e:EndS):Bool:=hasNewData e || hasNewFin e
section
variable {θ:Sto} {l:Nat} {e:EndS} {now n k:Int}
@[simp] theorem t_plus:p_plus [.int n,.int k] θ=.ok (.int (plus n k)) θ:=by simp [p_plus,b_p_plus,plus]
@[simp] theorem t_offset:p_offset [.int n,.int k] θ=.ok (.int (offset n k)) θ:=by simp [p_offset,b_p_offset,offset]
@[simp] theorem t_start_timer (h:l+3 < θ.length):p_start_timer [.ref l,.int now] (upE θ l e)=.ok .non (upE θ l (startTimer e now)):=by
  simp [p_start_timer,b_p_start_timer,h,startTimer]
@[simp] theorem t_state (h:l+3 < θ.length):p_state [.ref l] (upE θ l e)=.ok (.str e.state.s) (upE θ l e):=by
  simp [p_state,b_p_state,h]
@[simp] theorem t_roomC (h:l+3 < θ.length):p_room [.ref (l+2)] (upE θ l e)=.ok (.int (ourWindow e)) (upE θ l e):=by
  simp [p_room,b_p_room,h,ourWindow]
@[simp] theorem t_our_window (h:l+3 < θ.length):p_our_window [.ref l] (upE θ l e)=.ok (.int (ourWindow e)) (upE θ l e):=by
  simp [p_our_window,b_p_our_window,h]
@[simp] theorem t_most_at_once (h:l+3 < θ.length):p_most_at_once [.ref l] (upE θ l e)=.ok (.int (mostAtOnce e)) (upE θ l e):=by
  simp [p_most_at_once,b_p_most_at_once,h,mostAtOnce]
@[simp] theorem t_is_due (h:l+3 < θ.length):p_is_due [.ref l,.int now] (upE θ l e)=.ok (.bl (isDue e now)) (upE θ l e):=by
  simp [p_is_due,b_p_is_due,h,isDue]
theorem seg_d (a b c d f g i:Int) (x:List Int):D.tup [.int a,.int b,.int c,.int d,.int f,.int g,.int i,itp x]=(Seg.mk a b c d f g i x).d:=rfl
theorem seg_d0 (a b c d f g i:Int):D.tup [.int a,.int b,.int c,.int d,.int f,.int g,.int i,.tup []]=(Seg.mk a b c d f g i []).d:=rfl
@[simp] theorem t_paid_syn (h:l+3 < θ.length):p_paid_syn [.ref l] (upE θ l e)=.ok (paidSyn e).d (upE θ l { e with owes_syn:=false }):=by
  by_cases c:e.state=.synSent<;>simp [p_paid_syn,b_p_paid_syn,b_p_paid_syn_1,h,paidSyn,c,seg_d0]
@[simp] theorem t_segment_of {f:Int} {data:List Int} (h:l+3 < θ.length):p_segment_of [.ref l,.int n,.int f,il data] (upE θ l e)=.ok (segOf e n f data).d (upE θ l e):=by
  simp [p_segment_of,b_p_segment_of,h,segOf,seg_d]
theorem t_again (h:l+3 < θ.length):p_again [.ref l,.int now] (upE θ l e)=.ok (rstD (again e now).1) (upE θ l (again e now).2):=by
  by_cases c:e.tries=6
  · simp [p_again,b_p_again,b_p_again_1,h,again,c,rstD]
  · by_cases c2:e.state=.synSent∨e.state=.synCome
    · simp [p_again,b_p_again,b_p_again_1,b_p_again_2,h,again,c,c2,rstD,MulB,mn]
    · have am:∀e':EndS,e'.most=e.most→mostAtOnce e'=mostAtOnce e:=fun e' h=>by unfold mostAtOnce; rw [h]
      have ad:againData e=cutL e.written none (some (mn (offset e.nxt e.una) (mostAtOnce e))):=rfl
      have sl:∀e':EndS,e'.written=e.written→sliceD (upE θ l e') (il e'.written) none (some (if mostAtOnce e<offset e.nxt e.una then mostAtOnce e else offset e.nxt e.una))=some (il (againData e)):=fun e' h'=>by
        rw [il_sl,h']; rfl
      unfold again
      rw [if_neg c,if_neg c2]
      have c2':¬(e.state=State.synSent∨e.state=State.synCome):=c2
      by_cases c3:0<(againData e).length
      · rw [if_pos c3]
        have c3':(0:Int)<(againData e).length:=by omega
        simp [p_again,b_p_again,b_p_again_1,b_p_again_2,h,c,c2',MulB,mn,am,sl,c3,c3',rstD,-il_sl,segOf,ourWindow]
      · rw [if_neg c3]
        have c3':¬(0:Int)<(againData e).length:=by omega
        simp [p_again,b_p_again,b_p_again_1,b_p_again_2,h,c,c2',MulB,mn,am,sl,c3,c3',rstD,-il_sl,segOf,ourWindow]
@[simp] theorem t_unsent (h:l+3 < θ.length):p_unsent [.ref l] (upE θ l e)=.ok (.int (unsent e)) (upE θ l e):=by
  simp [p_unsent,b_p_unsent,h,unsent]
@[simp] theorem t_has_new_data (h:l+3 < θ.length):p_has_new_data [.ref l] (upE θ l e)=.ok (.bl (hasNewData e)) (upE θ l e):=by
  simp [p_has_new_data,b_p_has_new_data,h,hasNewData]
@[simp] theorem t_has_new_fin (h:l+3 < θ.length):p_has_new_fin [.ref l] (upE θ l e)=.ok (.bl (hasNewFin e)) (upE θ l e):=by
  simp [p_has_new_fin,b_p_has_new_fin,h,hasNewFin]
@[simp] theorem t_has_more (h:l+3 < θ.length):p_has_more [.ref l] (upE θ l e)=.ok (.bl (hasMore e)) (upE θ l e):=by
  simp [p_has_more,b_p_has_more,h,hasMore]
end
def mn3 (i j k:Int):Int:=if j<i then (if k<j then k else j) else (if k<i then k else i)
def newMany (e:EndS) (room:Int):Int:=mn3 (mostAtOnce e) (unsent e) room
def newData (e:EndS) (room:Int):Seg×EndS:=
  let e1:={ e with nxt:=plus e.nxt (newMany e room) }
  (segOf e1 e.nxt (if unsent e1=0 then 8 else 0) (cutL e.written (some (offset e.nxt e.una)) (some (offset e.nxt e.una+newMany e room))),e1)
def newFin (e:EndS):Seg×EndS:=(segOf e e.nxt 1 [],{ e with nxt:=plus e.nxt 1 })
def newPiece (e:EndS) (room:Int):Seg×EndS:=if hasNewData e=true then newData { e with probes:=false } room else newFin { e with probes:=false }
def newSyn (e:EndS) (now:Int):Seg×EndS:=
  let e1:=if e.nxt=e.una then startTimer e now else e
  (paidSyn { e1 with nxt:=plus e.first 1 },{ e1 with nxt:=plus e.first 1,owes_syn:=false })
def goingAsNew (e:EndS) (now:Int):Option Seg×EndS:=
  if e.state=.synSent∨e.state=.synCome then
    if e.nxt=e.first∨e.owes_syn=true then (some (newSyn e now).1,(newSyn e now).2) else (none,e)
  else
    if e.wnd-offset e.nxt e.una≤0∨hasMore e=false then (none,e)
    else
      let e1:=if e.nxt=e.una then startTimer e now else e
      (some (newPiece { e1 with owes_answer:=false } (e.wnd-offset e.nxt e.una)).1,(newPiece { e1 with owes_answer:=false } (e.wnd-offset e.nxt e.una)).2)
def goingAsProbe (e:EndS) (now:Int):Option Seg×EndS:=
  if ¬e.nxt=e.una∨¬e.wnd=0∨hasMore e=false then (none,{ e with probes:=false })
  else
    let e1:=if e.probes=true then e else startTimer { e with probes:=true } now
    if isDue e1 now=true then (some (newPiece { e1 with since:=now } 1).1,(newPiece { e1 with since:=now } 1).2) else (none,e1)
def goingAsAnswer (e:EndS):Option Seg×EndS:=if e.owes_answer=true then (some (segOf e e.nxt 0 []),{ e with owes_answer:=false }) else (none,e)
def goingOn (e:EndS) (now:Int):Option Seg×EndS:=
  match goingAsNew e now with
  | (some s,e1)=>(some s,e1)
  | (none,e1)=>match goingAsProbe e1 now with
    | (some s,e2)=>(some s,e2)
    | (none,e2)=>goingAsAnswer e2
def going (e:EndS) (now:Int):Option Seg×EndS:=
  match e.owed_reset with
  | some s=>(some s,{ e with owed_reset:=none })
  | none=>
    let e1:=if e.state=.timeWait∧120000≤now-e.since then { e with state:=.closed } else e
    if e1.state=.closed∨e1.state=.listen then (none,e1)
    else if ¬e1.nxt=e1.una∧isDue e1 now=true then again e1 now
    else goingOn e1 now
section
variable {θ:Sto} {l:Nat} {e:EndS} {now n k:Int}
@[simp] theorem t_new_data {r:Int} (h:l+3 < θ.length):p_new_data [.ref l,.int r] (upE θ l e)=.ok (newData e r).1.d (upE θ l (newData e r).2):=by
  have em:(if unsent e<mostAtOnce e then (if r<unsent e then r else unsent e) else (if r<mostAtOnce e then r else mostAtOnce e))=newMany e r:=rfl
  by_cases c:unsent { e with nxt:=plus e.nxt (newMany e r) }=0
  · simp [p_new_data,b_p_new_data,h,em]
    simp [newData,c,segOf,ourWindow,h]
  · simp [p_new_data,b_p_new_data,h,em]
    simp [newData,c,segOf,ourWindow,h]
@[simp] theorem t_new_fin (h:l+3 < θ.length):p_new_fin [.ref l] (upE θ l e)=.ok (newFin e).1.d (upE θ l (newFin e).2):=by
  simp [p_new_fin,b_p_new_fin,h,newFin,segOf,ourWindow,il_nil]
@[simp] theorem t_new_piece {r:Int} (h:l+3 < θ.length):p_new_piece [.ref l,.int r] (upE θ l e)=.ok (newPiece e r).1.d (upE θ l (newPiece e r).2):=by
  have hp:hasNewData { e with probes:=false }=hasNewData e:=rfl
  by_cases c:hasNewData e=true
  · simp [p_new_piece,b_p_new_piece,h,newPiece,c,hp]
  · simp [p_new_piece,b_p_new_piece,h,newPiece,c,hp]
@[simp] theorem t_new_syn (h:l+3 < θ.length):p_new_syn [.ref l,.int now] (upE θ l e)=.ok (newSyn e now).1.d (upE θ l (newSyn e now).2):=by
  by_cases c:e.nxt=e.una
  · simp [p_new_syn,b_p_new_syn,b_p_new_syn_1,h,newSyn,c,startTimer]
  · simp [p_new_syn,b_p_new_syn,b_p_new_syn_1,h,newSyn,c]
theorem t_going_as_new (h:l+3 < θ.length):p_going_as_new [.ref l,.int now] (upE θ l e)=.ok (rstD (goingAsNew e now).1) (upE θ l (goingAsNew e now).2):=by
  by_cases c1:e.state=.synSent∨e.state=.synCome
  · by_cases c2:e.nxt=e.first∨e.owes_syn=true
    · simp [p_going_as_new,b_p_going_as_new,b_p_going_as_new_1,h,goingAsNew,c1,c2,rstD]
    · simp [p_going_as_new,b_p_going_as_new,b_p_going_as_new_1,h,goingAsNew,c1,c2,rstD]
  · by_cases c3:e.wnd-offset e.nxt e.una≤0
    · simp [p_going_as_new,b_p_going_as_new,b_p_going_as_new_1,b_p_going_as_new_2,h,goingAsNew,c1,c3,rstD]
    · by_cases c4:hasMore e=true
      · by_cases c5:e.nxt=e.una
        · have c3':=c3
          rw [c5] at c3'
          simp [p_going_as_new,b_p_going_as_new,b_p_going_as_new_1,b_p_going_as_new_2,b_p_going_as_new_3,h,goingAsNew,c1,c3',c4,c5,rstD,startTimer]
        · simp [p_going_as_new,b_p_going_as_new,b_p_going_as_new_1,b_p_going_as_new_2,b_p_going_as_new_3,h,goingAsNew,c1,c3,c4,c5,rstD]
      · simp [p_going_as_new,b_p_going_as_new,b_p_going_as_new_1,b_p_going_as_new_2,h,goingAsNew,c1,c3,c4,rstD]
theorem t_going_as_probe (h:l+3 < θ.length):p_going_as_probe [.ref l,.int now] (upE θ l e)=.ok (rstD (goingAsProbe e now).1) (upE θ l (goingAsProbe e now).2):=by
  by_cases c1:e.nxt=e.una
  · by_cases c2:e.wnd=0
    · by_cases c3:hasMore e=true
      · by_cases c4:e.probes=true
        · by_cases c5:isDue e now=true
          · simp [p_going_as_probe,b_p_going_as_probe,b_p_going_as_probe_1,b_p_going_as_probe_2,b_p_going_as_probe_3,h,goingAsProbe,c1,c2,c3,c4,c5,rstD]
          · simp [p_going_as_probe,b_p_going_as_probe,b_p_going_as_probe_1,b_p_going_as_probe_2,b_p_going_as_probe_3,h,goingAsProbe,c1,c2,c3,c4,c5,rstD]
        · have c5:isDue (startTimer { e with probes:=true } now) now=false:=by simp [isDue,startTimer]
          simp [p_going_as_probe,b_p_going_as_probe,b_p_going_as_probe_1,b_p_going_as_probe_2,b_p_going_as_probe_3,h,goingAsProbe,c1,c2,c3,c4,rstD] at c5 ⊢
          simp [c5,isDue,startTimer]
      · simp [p_going_as_probe,b_p_going_as_probe,b_p_going_as_probe_1,h,goingAsProbe,c1,c2,c3,rstD]
    · simp [p_going_as_probe,b_p_going_as_probe,b_p_going_as_probe_1,h,goingAsProbe,c1,c2,rstD]
  · simp [p_going_as_probe,b_p_going_as_probe,b_p_going_as_probe_1,h,goingAsProbe,c1,rstD]
theorem t_going_as_answer (h:l+3 < θ.length):p_going_as_answer [.ref l] (upE θ l e)=.ok (rstD (goingAsAnswer e).1) (upE θ l (goingAsAnswer e).2):=by
  by_cases c:e.owes_answer=true
  · simp [p_going_as_answer,b_p_going_as_answer,b_p_going_as_answer_1,h,goingAsAnswer,c,rstD,il_nil,segOf,ourWindow]
  · simp [p_going_as_answer,b_p_going_as_answer,b_p_going_as_answer_1,h,goingAsAnswer,c,rstD]
@[simp] theorem rstD_none:rstD none=.non:=rfl
@[simp] theorem rstD_some (s:Seg):rstD (some s)=s.d:=rfl
@[simp] theorem isNon_d (s:Seg):isNon s.d=false:=rfl
@[simp] theorem isNon_non:isNon .non=true:=nr rfl
@[simp] theorem s_owed_none (h:l+3 < θ.length) (e:EndS):setK ["End"] "owed_reset" .non (.ref l) (upE θ l e)=some (upE θ l { e with owed_reset:=none }):=s_owed_reset h e none
@[simp] theorem s_owed_some (h:l+3 < θ.length) (e:EndS) (s:Seg):setK ["End"] "owed_reset" s.d (.ref l) (upE θ l e)=some (upE θ l { e with owed_reset:=some s }):=s_owed_reset h e (some s)
theorem t_goingOn (h:l+3 < θ.length) (x:Sl):thenS (mSet 2 (mCB p_going_as_new (mCons (mVar 0) (mCons (mVar 1) mNil))) [.val (.ref l),.val (.int now),x] (upE θ l e)) (mSeq b_p_going_5 (mSeq b_p_going_6 (mRet (mVar 2)))) =
    .ok (.rt (rstD (goingOn e now).1),[.val (.ref l),.val (.int now),.val (rstD (goingOn e now).1)]) (upE θ l (goingOn e now).2):=by
  unfold goingOn
  cases c1:goingAsNew e now with
  | mk r1 e1=>
    cases r1 with
    | some s=>simp [h,t_going_as_new,c1,b_p_going_5,b_p_going_6]
    | none=>
      cases c2:goingAsProbe e1 now with
      | mk r2 e2=>
        cases r2 with
        | some s=>simp [h,t_going_as_new,c1,b_p_going_5,b_p_going_6,t_going_as_probe,c2]
        | none=>simp [h,t_going_as_new,c1,b_p_going_5,b_p_going_6,t_going_as_probe,c2,t_going_as_answer]
theorem t_going (h:l+3 < θ.length):p_going [.ref l,.int now] (upE θ l e)=.ok (rstD (going e now).1) (upE θ l (going e now).2):=by
  cases c0:e.owed_reset with
  | some s=>simp [p_going,b_p_going,b_p_going_1,h,going,c0,p_paid_reset,b_p_paid_reset]
  | none=>
    have key:∀e1:EndS,(thenS (b_p_going_3 [.val (.ref l),.val (.int now),.no] (upE θ l e1)) (mSeq b_p_going_4 (mSeq (mSet 2 (mCB p_going_as_new (mCons (mVar 0) (mCons (mVar 1) mNil)))) (mSeq b_p_going_5 (mSeq b_p_going_6 (mRet (mVar 2))))))).bind (fun p θ=>match p.1 with | .nx=>.ok .non θ | .rt d=>.ok d θ | _=>.bad) =
        .ok (rstD (if e1.state=.closed∨e1.state=.listen then (none,e1) else if ¬e1.nxt=e1.una∧isDue e1 now=true then again e1 now else goingOn e1 now).1) (upE θ l (if e1.state=.closed∨e1.state=.listen then (none,e1) else if ¬e1.nxt=e1.una∧isDue e1 now=true then again e1 now else goingOn e1 now).2):=fun e1=>by
      by_cases c1:e1.state=.closed∨e1.state=.listen
      · simp [b_p_going_3,h,c1]
      · by_cases c2:e1.nxt=e1.una
        · have g:=t_goingOn (e:=e1) (now:=now) h .no
          simp at g
          simp [b_p_going_3,b_p_going_4,h,c1,c2]
          rw [g]
          simp
        · by_cases c3:isDue e1 now=true
          · simp [b_p_going_3,b_p_going_4,h,c1,c2,c3,t_again]
          · have g:=t_goingOn (e:=e1) (now:=now) h .no
            simp at g
            simp [b_p_going_3,b_p_going_4,h,c1,c2,c3]
            rw [g]
            simp
    by_cases c1:e.state=.timeWait∧120000≤now-e.since
    · have:=key { e with state:=.closed }
      simp [p_going,b_p_going,b_p_going_1,b_p_going_2,h,going,c0,c1] at this ⊢
      exact this
    · have:=key e
      simp [p_going,b_p_going,b_p_going_1,b_p_going_2,h,going,c0,c1] at this ⊢
      exact this
def sendRow (e:EndS) (now:Int):List Int:=match (going e now).1 with
  | none=>[]
  | some s=>putL s
theorem t_send (h:l+3 < θ.length) (hp:∀s,(going e now).1=some s→s.Put):p_send [.ref l,.int now] (upE θ l e)=.ok (il (sendRow e now)) (upE θ l (going e now).2):=by
  unfold sendRow
  cases c:(going e now).1 with
  | none=>simp [p_send,b_p_send,t_going,h,c,il_nil]
  | some s=>simp [p_send,b_p_send,t_going,h,c,t_put (hp s c)]
def newEnd (ours theirs first:Int) (active:Bool):EndS:=⟨ours,theirs,if active then .synSent else .listen,.none,first,first,first,0,0,0,0,12,[],[],[],none,false,plus first 1,none,false,false,false,0,1000,0⟩
def cells (l:Nat) (e:EndS):Sto:=[c0 l e,c1 e,c2 e,c3 e]
theorem insOf_app (θ r:Sto) (C:Str) (fs:List (Str×D)):insOf (θ++.ins C fs::r) (.ref θ.length)=some (θ.length,C,fs):=by
  show (match (θ++.ins C fs::r)[θ.length]? with | some (Cell.ins C fs)=>some (θ.length,C,fs) | _=>none)=_
  rw [List.getElem?_append_right (Nat.le_refl _),Nat.sub_self]
  rfl
theorem putFD_new {f:Str} {y:D}:∀{fs:List (Str×D)},(fs.map Prod.fst).contains f=false→putFD f y fs=fs++[(f,y)]
  | [],_=>rfl
  | (g,x)::r,h=>by
    rw [List.map_cons,List.contains_cons,Bool.or_eq_false_iff] at h
    have hn:¬g=f:=fun e=>by rw [e,beq_self_eq_true] at h; cases h.1
    unfold putFD
    rw [if_neg hn,putFD_new h.2]
    rfl
theorem setK_new {C f:Str} {y:D} (θ r:Sto) {fs:List (Str×D)} (h0:[C].contains C=true) (h1:(fs.map Prod.fst).contains f=false) (h2:fs.length<1000):setK [C] f y (.ref θ.length) (θ++.ins C fs::r)=some (θ++.ins C (fs++[(f,y)])::r):=by
  unfold setK
  rw [insOf_app]
  simp only [h0]
  rw [if_pos ⟨trivial,h2⟩,putFD_new h1]
  congr 1
  rw [List.set_append,if_neg (Nat.lt_irrefl _),Nat.sub_self]
  rfl
theorem mk_pile (S:Sto):mkG "Pile" p_Pile_init [] S=.ok (.ref S.length) (S++[.ins "Pile" [("row",il [])]]):=by
  have:=setK_new (C:="Pile") (f:="row") (y:=il []) S [] (fs:=[]) (by decide +kernel) rfl (by decide)
  simp [mkG,p_Pile_init,b_p_Pile_init,il_nil,this]
theorem o_ours (θ r:Sto) (y:D):setK ["End"] "ours" y (.ref θ.length) (θ++.ins "End" []::r)=some (θ++.ins "End" [("ours",y)]::r):=setK_new θ r ce (by simp only [List.map_cons,List.map_nil]; decide +kernel) (by simp only [List.length_cons,List.length_nil]; decide)
theorem o_theirs (θ r:Sto) (x0 y:D):setK ["End"] "theirs" y (.ref θ.length) (θ++.ins "End" [("ours",x0)]::r)=some (θ++.ins "End" [("ours",x0),("theirs",y)]::r):=setK_new θ r ce (by simp only [List.map_cons,List.map_nil]; decide +kernel) (by simp only [List.length_cons,List.length_nil]; decide)
theorem o_state (θ r:Sto) (x0 x1 y:D):setK ["End"] "state" y (.ref θ.length) (θ++.ins "End" [("ours",x0),("theirs",x1)]::r)=some (θ++.ins "End" [("ours",x0),("theirs",x1),("state",y)]::r):=setK_new θ r ce (by simp only [List.map_cons,List.map_nil]; decide +kernel) (by simp only [List.length_cons,List.length_nil]; decide)
theorem o_error (θ r:Sto) (x0 x1 x2 y:D):setK ["End"] "error" y (.ref θ.length) (θ++.ins "End" [("ours",x0),("theirs",x1),("state",x2)]::r)=some (θ++.ins "End" [("ours",x0),("theirs",x1),("state",x2),("error",y)]::r):=setK_new θ r ce (by simp only [List.map_cons,List.map_nil]; decide +kernel) (by simp only [List.length_cons,List.length_nil]; decide)
theorem o_first (θ r:Sto) (x0 x1 x2 x3 y:D):setK ["End"] "first" y (.ref θ.length) (θ++.ins "End" [("ours",x0),("theirs",x1),("state",x2),("error",x3)]::r)=some (θ++.ins "End" [("ours",x0),("theirs",x1),("state",x2),("error",x3),("first",y)]::r):=setK_new θ r ce (by simp only [List.map_cons,List.map_nil]; decide +kernel) (by simp only [List.length_cons,List.length_nil]; decide)
theorem o_una (θ r:Sto) (x0 x1 x2 x3 x4 y:D):setK ["End"] "una" y (.ref θ.length) (θ++.ins "End" [("ours",x0),("theirs",x1),("state",x2),("error",x3),("first",x4)]::r)=some (θ++.ins "End" [("ours",x0),("theirs",x1),("state",x2),("error",x3),("first",x4),("una",y)]::r):=setK_new θ r ce (by simp only [List.map_cons,List.map_nil]; decide +kernel) (by simp only [List.length_cons,List.length_nil]; decide)
theorem o_nxt (θ r:Sto) (x0 x1 x2 x3 x4 x5 y:D):setK ["End"] "nxt" y (.ref θ.length) (θ++.ins "End" [("ours",x0),("theirs",x1),("state",x2),("error",x3),("first",x4),("una",x5)]::r)=some (θ++.ins "End" [("ours",x0),("theirs",x1),("state",x2),("error",x3),("first",x4),("una",x5),("nxt",y)]::r):=setK_new θ r ce (by simp only [List.map_cons,List.map_nil]; decide +kernel) (by simp only [List.length_cons,List.length_nil]; decide)
theorem o_rcv (θ r:Sto) (x0 x1 x2 x3 x4 x5 x6 y:D):setK ["End"] "rcv" y (.ref θ.length) (θ++.ins "End" [("ours",x0),("theirs",x1),("state",x2),("error",x3),("first",x4),("una",x5),("nxt",x6)]::r)=some (θ++.ins "End" [("ours",x0),("theirs",x1),("state",x2),("error",x3),("first",x4),("una",x5),("nxt",x6),("rcv",y)]::r):=setK_new θ r ce (by simp only [List.map_cons,List.map_nil]; decide +kernel) (by simp only [List.length_cons,List.length_nil]; decide)
theorem o_wnd (θ r:Sto) (x0 x1 x2 x3 x4 x5 x6 x7 y:D):setK ["End"] "wnd" y (.ref θ.length) (θ++.ins "End" [("ours",x0),("theirs",x1),("state",x2),("error",x3),("first",x4),("una",x5),("nxt",x6),("rcv",x7)]::r)=some (θ++.ins "End" [("ours",x0),("theirs",x1),("state",x2),("error",x3),("first",x4),("una",x5),("nxt",x6),("rcv",x7),("wnd",y)]::r):=setK_new θ r ce (by simp only [List.map_cons,List.map_nil]; decide +kernel) (by simp only [List.length_cons,List.length_nil]; decide)
theorem o_told (θ r:Sto) (x0 x1 x2 x3 x4 x5 x6 x7 x8 y:D):setK ["End"] "told" y (.ref θ.length) (θ++.ins "End" [("ours",x0),("theirs",x1),("state",x2),("error",x3),("first",x4),("una",x5),("nxt",x6),("rcv",x7),("wnd",x8)]::r)=some (θ++.ins "End" [("ours",x0),("theirs",x1),("state",x2),("error",x3),("first",x4),("una",x5),("nxt",x6),("rcv",x7),("wnd",x8),("told",y)]::r):=setK_new θ r ce (by simp only [List.map_cons,List.map_nil]; decide +kernel) (by simp only [List.length_cons,List.length_nil]; decide)
theorem o_told_by (θ r:Sto) (x0 x1 x2 x3 x4 x5 x6 x7 x8 x9 y:D):setK ["End"] "told_by" y (.ref θ.length) (θ++.ins "End" [("ours",x0),("theirs",x1),("state",x2),("error",x3),("first",x4),("una",x5),("nxt",x6),("rcv",x7),("wnd",x8),("told",x9)]::r)=some (θ++.ins "End" [("ours",x0),("theirs",x1),("state",x2),("error",x3),("first",x4),("una",x5),("nxt",x6),("rcv",x7),("wnd",x8),("told",x9),("told_by",y)]::r):=setK_new θ r ce (by simp only [List.map_cons,List.map_nil]; decide +kernel) (by simp only [List.length_cons,List.length_nil]; decide)
theorem o_most (θ r:Sto) (x0 x1 x2 x3 x4 x5 x6 x7 x8 x9 x10 y:D):setK ["End"] "most" y (.ref θ.length) (θ++.ins "End" [("ours",x0),("theirs",x1),("state",x2),("error",x3),("first",x4),("una",x5),("nxt",x6),("rcv",x7),("wnd",x8),("told",x9),("told_by",x10)]::r)=some (θ++.ins "End" [("ours",x0),("theirs",x1),("state",x2),("error",x3),("first",x4),("una",x5),("nxt",x6),("rcv",x7),("wnd",x8),("told",x9),("told_by",x10),("most",y)]::r):=setK_new θ r ce (by simp only [List.map_cons,List.map_nil]; decide +kernel) (by simp only [List.length_cons,List.length_nil]; decide)
theorem o_written (θ r:Sto) (x0 x1 x2 x3 x4 x5 x6 x7 x8 x9 x10 x11 y:D):setK ["End"] "written" y (.ref θ.length) (θ++.ins "End" [("ours",x0),("theirs",x1),("state",x2),("error",x3),("first",x4),("una",x5),("nxt",x6),("rcv",x7),("wnd",x8),("told",x9),("told_by",x10),("most",x11)]::r)=some (θ++.ins "End" [("ours",x0),("theirs",x1),("state",x2),("error",x3),("first",x4),("una",x5),("nxt",x6),("rcv",x7),("wnd",x8),("told",x9),("told_by",x10),("most",x11),("written",y)]::r):=setK_new θ r ce (by simp only [List.map_cons,List.map_nil]; decide +kernel) (by simp only [List.length_cons,List.length_nil]; decide)
theorem o_come (θ r:Sto) (x0 x1 x2 x3 x4 x5 x6 x7 x8 x9 x10 x11 x12 y:D):setK ["End"] "come" y (.ref θ.length) (θ++.ins "End" [("ours",x0),("theirs",x1),("state",x2),("error",x3),("first",x4),("una",x5),("nxt",x6),("rcv",x7),("wnd",x8),("told",x9),("told_by",x10),("most",x11),("written",x12)]::r)=some (θ++.ins "End" [("ours",x0),("theirs",x1),("state",x2),("error",x3),("first",x4),("una",x5),("nxt",x6),("rcv",x7),("wnd",x8),("told",x9),("told_by",x10),("most",x11),("written",x12),("come",y)]::r):=setK_new θ r ce (by simp only [List.map_cons,List.map_nil]; decide +kernel) (by simp only [List.length_cons,List.length_nil]; decide)
theorem o_early (θ r:Sto) (x0 x1 x2 x3 x4 x5 x6 x7 x8 x9 x10 x11 x12 x13 y:D):setK ["End"] "early" y (.ref θ.length) (θ++.ins "End" [("ours",x0),("theirs",x1),("state",x2),("error",x3),("first",x4),("una",x5),("nxt",x6),("rcv",x7),("wnd",x8),("told",x9),("told_by",x10),("most",x11),("written",x12),("come",x13)]::r)=some (θ++.ins "End" [("ours",x0),("theirs",x1),("state",x2),("error",x3),("first",x4),("una",x5),("nxt",x6),("rcv",x7),("wnd",x8),("told",x9),("told_by",x10),("most",x11),("written",x12),("come",x13),("early",y)]::r):=setK_new θ r ce (by simp only [List.map_cons,List.map_nil]; decide +kernel) (by simp only [List.length_cons,List.length_nil]; decide)
theorem o_early_fin (θ r:Sto) (x0 x1 x2 x3 x4 x5 x6 x7 x8 x9 x10 x11 x12 x13 x14 y:D):setK ["End"] "early_fin" y (.ref θ.length) (θ++.ins "End" [("ours",x0),("theirs",x1),("state",x2),("error",x3),("first",x4),("una",x5),("nxt",x6),("rcv",x7),("wnd",x8),("told",x9),("told_by",x10),("most",x11),("written",x12),("come",x13),("early",x14)]::r)=some (θ++.ins "End" [("ours",x0),("theirs",x1),("state",x2),("error",x3),("first",x4),("una",x5),("nxt",x6),("rcv",x7),("wnd",x8),("told",x9),("told_by",x10),("most",x11),("written",x12),("come",x13),("early",x14),("early_fin",y)]::r):=setK_new θ r ce (by simp only [List.map_cons,List.map_nil]; decide +kernel) (by simp only [List.length_cons,List.length_nil]; decide)
theorem o_has_closed (θ r:Sto) (x0 x1 x2 x3 x4 x5 x6 x7 x8 x9 x10 x11 x12 x13 x14 x15 y:D):setK ["End"] "has_closed" y (.ref θ.length) (θ++.ins "End" [("ours",x0),("theirs",x1),("state",x2),("error",x3),("first",x4),("una",x5),("nxt",x6),("rcv",x7),("wnd",x8),("told",x9),("told_by",x10),("most",x11),("written",x12),("come",x13),("early",x14),("early_fin",x15)]::r)=some (θ++.ins "End" [("ours",x0),("theirs",x1),("state",x2),("error",x3),("first",x4),("una",x5),("nxt",x6),("rcv",x7),("wnd",x8),("told",x9),("told_by",x10),("most",x11),("written",x12),("come",x13),("early",x14),("early_fin",x15),("has_closed",y)]::r):=setK_new θ r ce (by simp only [List.map_cons,List.map_nil]; decide +kernel) (by simp only [List.length_cons,List.length_nil]; decide)
theorem o_behind (θ r:Sto) (x0 x1 x2 x3 x4 x5 x6 x7 x8 x9 x10 x11 x12 x13 x14 x15 x16 y:D):setK ["End"] "behind" y (.ref θ.length) (θ++.ins "End" [("ours",x0),("theirs",x1),("state",x2),("error",x3),("first",x4),("una",x5),("nxt",x6),("rcv",x7),("wnd",x8),("told",x9),("told_by",x10),("most",x11),("written",x12),("come",x13),("early",x14),("early_fin",x15),("has_closed",x16)]::r)=some (θ++.ins "End" [("ours",x0),("theirs",x1),("state",x2),("error",x3),("first",x4),("una",x5),("nxt",x6),("rcv",x7),("wnd",x8),("told",x9),("told_by",x10),("most",x11),("written",x12),("come",x13),("early",x14),("early_fin",x15),("has_closed",x16),("behind",y)]::r):=setK_new θ r ce (by simp only [List.map_cons,List.map_nil]; decide +kernel) (by simp only [List.length_cons,List.length_nil]; decide)
theorem o_owed_reset (θ r:Sto) (x0 x1 x2 x3 x4 x5 x6 x7 x8 x9 x10 x11 x12 x13 x14 x15 x16 x17 y:D):setK ["End"] "owed_reset" y (.ref θ.length) (θ++.ins "End" [("ours",x0),("theirs",x1),("state",x2),("error",x3),("first",x4),("una",x5),("nxt",x6),("rcv",x7),("wnd",x8),("told",x9),("told_by",x10),("most",x11),("written",x12),("come",x13),("early",x14),("early_fin",x15),("has_closed",x16),("behind",x17)]::r)=some (θ++.ins "End" [("ours",x0),("theirs",x1),("state",x2),("error",x3),("first",x4),("una",x5),("nxt",x6),("rcv",x7),("wnd",x8),("told",x9),("told_by",x10),("most",x11),("written",x12),("come",x13),("early",x14),("early_fin",x15),("has_closed",x16),("behind",x17),("owed_reset",y)]::r):=setK_new θ r ce (by simp only [List.map_cons,List.map_nil]; decide +kernel) (by simp only [List.length_cons,List.length_nil]; decide)
theorem o_owes_syn (θ r:Sto) (x0 x1 x2 x3 x4 x5 x6 x7 x8 x9 x10 x11 x12 x13 x14 x15 x16 x17 x18 y:D):setK ["End"] "owes_syn" y (.ref θ.length) (θ++.ins "End" [("ours",x0),("theirs",x1),("state",x2),("error",x3),("first",x4),("una",x5),("nxt",x6),("rcv",x7),("wnd",x8),("told",x9),("told_by",x10),("most",x11),("written",x12),("come",x13),("early",x14),("early_fin",x15),("has_closed",x16),("behind",x17),("owed_reset",x18)]::r)=some (θ++.ins "End" [("ours",x0),("theirs",x1),("state",x2),("error",x3),("first",x4),("una",x5),("nxt",x6),("rcv",x7),("wnd",x8),("told",x9),("told_by",x10),("most",x11),("written",x12),("come",x13),("early",x14),("early_fin",x15),("has_closed",x16),("behind",x17),("owed_reset",x18),("owes_syn",y)]::r):=setK_new θ r ce (by simp only [List.map_cons,List.map_nil]; decide +kernel) (by simp only [List.length_cons,List.length_nil]; decide)
theorem o_owes_answer (θ r:Sto) (x0 x1 x2 x3 x4 x5 x6 x7 x8 x9 x10 x11 x12 x13 x14 x15 x16 x17 x18 x19 y:D):setK ["End"] "owes_answer" y (.ref θ.length) (θ++.ins "End" [("ours",x0),("theirs",x1),("state",x2),("error",x3),("first",x4),("una",x5),("nxt",x6),("rcv",x7),("wnd",x8),("told",x9),("told_by",x10),("most",x11),("written",x12),("come",x13),("early",x14),("early_fin",x15),("has_closed",x16),("behind",x17),("owed_reset",x18),("owes_syn",x19)]::r)=some (θ++.ins "End" [("ours",x0),("theirs",x1),("state",x2),("error",x3),("first",x4),("una",x5),("nxt",x6),("rcv",x7),("wnd",x8),("told",x9),("told_by",x10),("most",x11),("written",x12),("come",x13),("early",x14),("early_fin",x15),("has_closed",x16),("behind",x17),("owed_reset",x18),("owes_syn",x19),("owes_answer",y)]::r):=setK_new θ r ce (by simp only [List.map_cons,List.map_nil]; decide +kernel) (by simp only [List.length_cons,List.length_nil]; decide)
theorem o_probes (θ r:Sto) (x0 x1 x2 x3 x4 x5 x6 x7 x8 x9 x10 x11 x12 x13 x14 x15 x16 x17 x18 x19 x20 y:D):setK ["End"] "probes" y (.ref θ.length) (θ++.ins "End" [("ours",x0),("theirs",x1),("state",x2),("error",x3),("first",x4),("una",x5),("nxt",x6),("rcv",x7),("wnd",x8),("told",x9),("told_by",x10),("most",x11),("written",x12),("come",x13),("early",x14),("early_fin",x15),("has_closed",x16),("behind",x17),("owed_reset",x18),("owes_syn",x19),("owes_answer",x20)]::r)=some (θ++.ins "End" [("ours",x0),("theirs",x1),("state",x2),("error",x3),("first",x4),("una",x5),("nxt",x6),("rcv",x7),("wnd",x8),("told",x9),("told_by",x10),("most",x11),("written",x12),("come",x13),("early",x14),("early_fin",x15),("has_closed",x16),("behind",x17),("owed_reset",x18),("owes_syn",x19),("owes_answer",x20),("probes",y)]::r):=setK_new θ r ce (by simp only [List.map_cons,List.map_nil]; decide +kernel) (by simp only [List.length_cons,List.length_nil]; decide)
theorem o_since (θ r:Sto) (x0 x1 x2 x3 x4 x5 x6 x7 x8 x9 x10 x11 x12 x13 x14 x15 x16 x17 x18 x19 x20 x21 y:D):setK ["End"] "since" y (.ref θ.length) (θ++.ins "End" [("ours",x0),("theirs",x1),("state",x2),("error",x3),("first",x4),("una",x5),("nxt",x6),("rcv",x7),("wnd",x8),("told",x9),("told_by",x10),("most",x11),("written",x12),("come",x13),("early",x14),("early_fin",x15),("has_closed",x16),("behind",x17),("owed_reset",x18),("owes_syn",x19),("owes_answer",x20),("probes",x21)]::r)=some (θ++.ins "End" [("ours",x0),("theirs",x1),("state",x2),("error",x3),("first",x4),("una",x5),("nxt",x6),("rcv",x7),("wnd",x8),("told",x9),("told_by",x10),("most",x11),("written",x12),("come",x13),("early",x14),("early_fin",x15),("has_closed",x16),("behind",x17),("owed_reset",x18),("owes_syn",x19),("owes_answer",x20),("probes",x21),("since",y)]::r):=setK_new θ r ce (by simp only [List.map_cons,List.map_nil]; decide +kernel) (by simp only [List.length_cons,List.length_nil]; decide)
theorem o_wait (θ r:Sto) (x0 x1 x2 x3 x4 x5 x6 x7 x8 x9 x10 x11 x12 x13 x14 x15 x16 x17 x18 x19 x20 x21 x22 y:D):setK ["End"] "wait" y (.ref θ.length) (θ++.ins "End" [("ours",x0),("theirs",x1),("state",x2),("error",x3),("first",x4),("una",x5),("nxt",x6),("rcv",x7),("wnd",x8),("told",x9),("told_by",x10),("most",x11),("written",x12),("come",x13),("early",x14),("early_fin",x15),("has_closed",x16),("behind",x17),("owed_reset",x18),("owes_syn",x19),("owes_answer",x20),("probes",x21),("since",x22)]::r)=some (θ++.ins "End" [("ours",x0),("theirs",x1),("state",x2),("error",x3),("first",x4),("una",x5),("nxt",x6),("rcv",x7),("wnd",x8),("told",x9),("told_by",x10),("most",x11),("written",x12),("come",x13),("early",x14),("early_fin",x15),("has_closed",x16),("behind",x17),("owed_reset",x18),("owes_syn",x19),("owes_answer",x20),("probes",x21),("since",x22),("wait",y)]::r):=setK_new θ r ce (by simp only [List.map_cons,List.map_nil]; decide +kernel) (by simp only [List.length_cons,List.length_nil]; decide)
theorem o_tries (θ r:Sto) (x0 x1 x2 x3 x4 x5 x6 x7 x8 x9 x10 x11 x12 x13 x14 x15 x16 x17 x18 x19 x20 x21 x22 x23 y:D):setK ["End"] "tries" y (.ref θ.length) (θ++.ins "End" [("ours",x0),("theirs",x1),("state",x2),("error",x3),("first",x4),("una",x5),("nxt",x6),("rcv",x7),("wnd",x8),("told",x9),("told_by",x10),("most",x11),("written",x12),("come",x13),("early",x14),("early_fin",x15),("has_closed",x16),("behind",x17),("owed_reset",x18),("owes_syn",x19),("owes_answer",x20),("probes",x21),("since",x22),("wait",x23)]::r)=some (θ++.ins "End" [("ours",x0),("theirs",x1),("state",x2),("error",x3),("first",x4),("una",x5),("nxt",x6),("rcv",x7),("wnd",x8),("told",x9),("told_by",x10),("most",x11),("written",x12),("come",x13),("early",x14),("early_fin",x15),("has_closed",x16),("behind",x17),("owed_reset",x18),("owes_syn",x19),("owes_answer",x20),("probes",x21),("since",x22),("wait",x23),("tries",y)]::r):=setK_new θ r ce (by simp only [List.map_cons,List.map_nil]; decide +kernel) (by simp only [List.length_cons,List.length_nil]; decide)
theorem t_init {a b c:Int} {act:Bool} (θ:Sto):p_End_init [.ref θ.length,.int a,.int b,.int c,.bl act] (θ++[.ins "End" []])=.ok .non (θ++cells θ.length (newEnd a b c act)):=by
  cases act with
  | true=>
    simp [p_End_init,b_p_End_init,mk_pile,o_ours,o_theirs,o_state,o_error,o_first,o_una,o_nxt,o_rcv,o_wnd,o_told,o_told_by,o_most,o_written,o_come,o_early,o_early_fin,o_has_closed,o_behind,o_owed_reset,o_owes_syn,o_owes_answer,o_probes,o_since,o_wait,o_tries]
    rfl
  | false=>
    simp [p_End_init,b_p_End_init,mk_pile,o_ours,o_theirs,o_state,o_error,o_first,o_una,o_nxt,o_rcv,o_wnd,o_told,o_told_by,o_most,o_written,o_come,o_early,o_early_fin,o_has_closed,o_behind,o_owed_reset,o_owes_syn,o_owes_answer,o_probes,o_since,o_wait,o_tries]
    rfl
theorem t_opened {a b c:Int} {act:Bool} (θ:Sto):p_opened [.int a,.int b,.int c,.bl act] θ=.ok (.ref θ.length) (θ++cells θ.length (newEnd a b c act)):=by
  simp [p_opened,b_p_opened,mkG,t_init]
theorem cells_up (e:EndS):cells 0 e=upE (cells 0 e) 0 e:=by
  simp [cells,upE]
end
end
end My
set_option Elab.async false
set_option linter.all false
set_option maxRecDepth 100000
set_option maxHeartbeats 4000000
namespace My
open PySem L2 L2.MM
noncomputable section
def b_p_lay:SM:=(mSeq (mSet 2 (mSl (mVar 1) mNoPart (mPart (mCB p_room (mCons (mVar 0) mNil)))))
  (mSeq (mSetF ["Pile"] "row" (mVar 0) (mOp addM (mFld ["Pile"] "row" (mVar 0)) (mVar 2)))
  (mRet (mCB lenG (mCons (mVar 2) mNil)))))
def p_lay:GM:=mDef 2 3 b_p_lay
def b_p_take:SM:=(mSeq (mSet 2 (mCB maxG (mCons (mVar 1) (mCons (mC (.int 0)) mNil))))
  (mSeq (mSet 3 (mSl (mFld ["Pile"] "row" (mVar 0)) mNoPart (mPart (mVar 2))))
  (mSeq (mSetF ["Pile"] "row" (mVar 0) (mSl (mFld ["Pile"] "row" (mVar 0)) (mPart (mVar 2)) mNoPart))
  (mRet (mVar 3)))))
def p_take:GM:=mDef 2 4 b_p_take
def b_p_past:SM:=(mRet (mOp gtM (mCB p_offset (mCons (mVar 0) (mCons (mVar 1) mNil))) (mC (.int 0))))
def p_past:GM:=mDef 2 2 b_p_past
def b_p_has_sent_fin:SM:=(mRet (mCB p_past (mCons (mFld ["End"] "nxt" (mVar 0)) (mCons (mFld ["End"] "behind" (mVar 0)) mNil))))
def p_has_sent_fin:GM:=mDef 1 1 b_p_has_sent_fin
def b_p_bears:SM:=(mRet (mOp eqM (mCB p_has (mCons (mOp ixM (mVar 0) (mC (.int 4))) (mCons (mVar 1) mNil))) (mC (.int 1))))
def p_bears:GM:=mDef 2 2 b_p_bears
def b_p_reset_for_1:SM:=(mIf (mTru (mCB p_bears (mCons (mVar 0) (mCons (mC (.int 16)) mNil)))) (mRet (mOp addM (mVar 1) (mTup (mCons (mOp ixM (mVar 0) (mC (.int 3))) (mCons (mC (.int 0)) (mCons (mC (.int 4)) (mCons (mC (.int 0)) (mCons (mC (.int 0)) (mCons (mTup mNil) mNil))))))))) mSkip)
def b_p_reset_for:SM:=(mSeq (mSet 1 (mTup (mCons (mOp ixM (mVar 0) (mC (.int 1))) (mCons (mOp ixM (mVar 0) (mC (.int 0))) mNil))))
  (mSeq b_p_reset_for_1
  (mRet (mOp addM (mVar 1) (mTup (mCons (mC (.int 0)) (mCons (mCB p_plus (mCons (mOp ixM (mVar 0) (mC (.int 2))) (mCons (mCB p_length (mCons (mVar 0) mNil)) mNil))) (mCons (mOp addM (mC (.int 4)) (mC (.int 16))) (mCons (mC (.int 0)) (mCons (mC (.int 0)) (mCons (mTup mNil) mNil)))))))))))
def p_reset_for:GM:=mDef 1 2 b_p_reset_for
def b_p_owe_reset_for_1:SM:=(mIf (mNot (mTru (mCB p_bears (mCons (mVar 1) (mCons (mC (.int 4)) mNil))))) (mSetF ["End"] "owed_reset" (mVar 0) (mCB p_reset_for (mCons (mVar 1) mNil))) mSkip)
def b_p_owe_reset_for:SM:=b_p_owe_reset_for_1
def p_owe_reset_for:GM:=mDef 2 2 b_p_owe_reset_for
def b_p_come_to_closed:SM:=(mExpr (mCB p_owe_reset_for (mCons (mVar 0) (mCons (mVar 1) mNil))))
def p_come_to_closed:GM:=mDef 2 2 b_p_come_to_closed
def b_p_hear_syn_1:SM:=(mIf (mTest (mOp neM (mOp ixM (mVar 1) (mC (.int 6))) (mC (.int 0)))) (mSetF ["End"] "most" (mVar 0) (mOp ixM (mVar 1) (mC (.int 6)))) mSkip)
def b_p_hear_syn:SM:=(mSeq (mSetF ["End"] "rcv" (mVar 0) (mCB p_plus (mCons (mOp ixM (mVar 1) (mC (.int 2))) (mCons (mC (.int 1)) mNil))))
  (mSeq (mSetF ["End"] "wnd" (mVar 0) (mOp ixM (mVar 1) (mC (.int 5))))
  (mSeq (mSetF ["End"] "told" (mVar 0) (mOp ixM (mVar 1) (mC (.int 2))))
  (mSeq (mSetF ["End"] "told_by" (mVar 0) (mIte (mTru (mCB p_bears (mCons (mVar 1) (mCons (mC (.int 16)) mNil)))) (mOp ixM (mVar 1) (mC (.int 3))) (mC (.int 0))))
  b_p_hear_syn_1))))
def p_hear_syn:GM:=mDef 2 2 b_p_hear_syn
def b_p_come_to_listen_1:SM:=(mIf (mTru (mCB p_bears (mCons (mVar 1) (mCons (mC (.int 4)) mNil)))) mRetN mSkip)
def b_p_come_to_listen_2:SM:=(mIf (mTru (mCB p_bears (mCons (mVar 1) (mCons (mC (.int 2)) mNil)))) (mSeq (mSetF ["End"] "theirs" (mVar 0) (mOp ixM (mVar 1) (mC (.int 0))))
      (mSeq (mExpr (mCB p_hear_syn (mCons (mVar 0) (mCons (mVar 1) mNil))))
      (mSetF ["End"] "state" (mVar 0) (mC (.str "syn come"))))) mSkip)
def b_p_come_to_listen_3:SM:=(mIf (mTru (mCB p_bears (mCons (mVar 1) (mCons (mC (.int 16)) mNil)))) (mExpr (mCB p_owe_reset_for (mCons (mVar 0) (mCons (mVar 1) mNil)))) b_p_come_to_listen_2)
def b_p_come_to_listen:SM:=(mSeq b_p_come_to_listen_1
  b_p_come_to_listen_3)
def p_come_to_listen:GM:=mDef 2 2 b_p_come_to_listen
def b_p_answers_syn:SM:=(mRet (mAndV (mOp neM (mFld ["End"] "nxt" (mVar 0)) (mFld ["End"] "first" (mVar 0))) (mOp eqM (mOp ixM (mVar 1) (mC (.int 3))) (mCB p_plus (mCons (mFld ["End"] "first" (mVar 0)) (mCons (mC (.int 1)) mNil))))))
def p_answers_syn:GM:=mDef 2 2 b_p_answers_syn
def b_p_go_on_from_syn_sent_1:SM:=(mIf (mTru (mCB p_bears (mCons (mVar 1) (mCons (mC (.int 16)) mNil)))) (mSeq (mSetF ["End"] "una" (mVar 0) (mOp ixM (mVar 1) (mC (.int 3))))
    (mSeq (mSetF ["End"] "state" (mVar 0) (mC (.str "open")))
    (mSetF ["End"] "owes_answer" (mVar 0) (mC (.bl true))))) (mSeq (mSetF ["End"] "state" (mVar 0) (mC (.str "syn come")))
    (mSeq (mExpr (mCB p_start_timer (mCons (mVar 0) (mCons (mVar 2) mNil))))
    (mSetF ["End"] "owes_syn" (mVar 0) (mC (.bl true))))))
def b_p_go_on_from_syn_sent:SM:=b_p_go_on_from_syn_sent_1
def p_go_on_from_syn_sent:GM:=mDef 3 3 b_p_go_on_from_syn_sent
def b_p_refuse_1:SM:=(mIf (mTru (mCB p_bears (mCons (mVar 1) (mCons (mC (.int 16)) mNil)))) (mSeq (mSetF ["End"] "state" (mVar 0) (mC (.str "closed")))
    (mSetF ["End"] "error" (mVar 0) (mC (.str "refused")))) mSkip)
def b_p_refuse:SM:=b_p_refuse_1
def p_refuse:GM:=mDef 2 2 b_p_refuse
def b_p_come_to_syn_sent_1:SM:=(mIf (mTru (mCB p_bears (mCons (mVar 1) (mCons (mC (.int 2)) mNil)))) (mSeq (mExpr (mCB p_hear_syn (mCons (mVar 0) (mCons (mVar 1) mNil))))
        (mExpr (mCB p_go_on_from_syn_sent (mCons (mVar 0) (mCons (mVar 1) (mCons (mVar 2) mNil)))))) mSkip)
def b_p_come_to_syn_sent_2:SM:=(mIf (mTru (mCB p_bears (mCons (mVar 1) (mCons (mC (.int 4)) mNil)))) (mExpr (mCB p_refuse (mCons (mVar 0) (mCons (mVar 1) mNil)))) b_p_come_to_syn_sent_1)
def b_p_come_to_syn_sent_3:SM:=(mIf (mAnd (mTru (mCB p_bears (mCons (mVar 1) (mCons (mC (.int 16)) mNil)))) (mNot (mTru (mCB p_answers_syn (mCons (mVar 0) (mCons (mVar 1) mNil)))))) (mExpr (mCB p_owe_reset_for (mCons (mVar 0) (mCons (mVar 1) mNil)))) b_p_come_to_syn_sent_2)
def b_p_come_to_syn_sent:SM:=b_p_come_to_syn_sent_3
def p_come_to_syn_sent:GM:=mDef 3 3 b_p_come_to_syn_sent
def b_p_is_in_window:SM:=(mRet (mChain leM ltM (mC (.int 0)) (mCB p_offset (mCons (mVar 1) (mCons (mFld ["End"] "rcv" (mVar 0)) mNil))) (mCB p_our_window (mCons (mVar 0) mNil))))
def p_is_in_window:GM:=mDef 2 2 b_p_is_in_window
def b_p_fits_1:SM:=(mIf (mTest (mOp eqM (mVar 2) (mC (.int 0)))) (mRet (mChain leM leM (mC (.int 0)) (mCB p_offset (mCons (mOp ixM (mVar 1) (mC (.int 2))) (mCons (mFld ["End"] "rcv" (mVar 0)) mNil))) (mC (.int 64)))) mSkip)
def b_p_fits:SM:=(mSeq (mSet 2 (mCB p_length (mCons (mVar 1) mNil)))
  (mSeq b_p_fits_1
  (mSeq (mSet 3 (mCB p_plus (mCons (mOp ixM (mVar 1) (mC (.int 2))) (mCons (mOp subM (mVar 2) (mC (.int 1))) mNil))))
  (mRet (mOrV (mCB p_is_in_window (mCons (mVar 0) (mCons (mOp ixM (mVar 1) (mC (.int 2))) mNil))) (mCB p_is_in_window (mCons (mVar 0) (mCons (mVar 3) mNil))))))))
def p_fits:GM:=mDef 2 4 b_p_fits
def b_p_end_what_is_acknowledged_1:SM:=(mIf (mOr (mNot (mTru (mCB p_has_sent_fin (mCons (mVar 0) mNil)))) (mTest (mOp neM (mFld ["End"] "una" (mVar 0)) (mFld ["End"] "nxt" (mVar 0))))) mRetN mSkip)
def b_p_end_what_is_acknowledged_2:SM:=(mIf (mTest (mOp eqM (mFld ["End"] "state" (mVar 0)) (mC (.str "last ack")))) (mSetF ["End"] "state" (mVar 0) (mC (.str "closed"))) mSkip)
def b_p_end_what_is_acknowledged_3:SM:=(mIf (mTest (mOp eqM (mFld ["End"] "state" (mVar 0)) (mC (.str "closing")))) (mSeq (mSetF ["End"] "state" (mVar 0) (mC (.str "time wait")))
      (mSetF ["End"] "since" (mVar 0) (mVar 1))) b_p_end_what_is_acknowledged_2)
def b_p_end_what_is_acknowledged_4:SM:=(mIf (mTest (mOp eqM (mFld ["End"] "state" (mVar 0)) (mC (.str "wait one")))) (mSetF ["End"] "state" (mVar 0) (mC (.str "wait two"))) b_p_end_what_is_acknowledged_3)
def b_p_end_what_is_acknowledged:SM:=(mSeq b_p_end_what_is_acknowledged_1
  b_p_end_what_is_acknowledged_4)
def p_end_what_is_acknowledged:GM:=mDef 2 2 b_p_end_what_is_acknowledged
def b_p_take_window:SM:=(mSeq (mSetF ["End"] "wnd" (mVar 0) (mOp ixM (mVar 1) (mC (.int 5))))
  (mSeq (mSetF ["End"] "told" (mVar 0) (mOp ixM (mVar 1) (mC (.int 2))))
  (mSetF ["End"] "told_by" (mVar 0) (mOp ixM (mVar 1) (mC (.int 3))))))
def p_take_window:GM:=mDef 2 2 b_p_take_window
def b_p_has_answered_syn_1:SM:=(mIf (mOr (mTest (mOp eqM (mFld ["End"] "nxt" (mVar 0)) (mFld ["End"] "first" (mVar 0)))) (mTest (mOp neM (mOp ixM (mVar 1) (mC (.int 3))) (mFld ["End"] "nxt" (mVar 0))))) (mSeq (mExpr (mCB p_owe_reset_for (mCons (mVar 0) (mCons (mVar 1) mNil))))
    (mRet (mC (.bl false)))) mSkip)
def b_p_has_answered_syn:SM:=(mSeq b_p_has_answered_syn_1
  (mSeq (mSetF ["End"] "una" (mVar 0) (mOp ixM (mVar 1) (mC (.int 3))))
  (mSeq (mSetF ["End"] "state" (mVar 0) (mIte (mTru (mFld ["End"] "has_closed" (mVar 0))) (mC (.str "wait one")) (mC (.str "open"))))
  (mSeq (mExpr (mCB p_take_window (mCons (mVar 0) (mCons (mVar 1) mNil))))
  (mRet (mC (.bl true)))))))
def p_has_answered_syn:GM:=mDef 2 2 b_p_has_answered_syn
def b_p_is_newer_1:SM:=(mIf (mTest (mOp eqM (mOp ixM (mVar 1) (mC (.int 2))) (mFld ["End"] "told" (mVar 0)))) (mRet (mNotV (mCB p_past (mCons (mFld ["End"] "told_by" (mVar 0)) (mCons (mOp ixM (mVar 1) (mC (.int 3))) mNil))))) mSkip)
def b_p_is_newer:SM:=(mSeq b_p_is_newer_1
  (mRet (mCB p_past (mCons (mOp ixM (mVar 1) (mC (.int 2))) (mCons (mFld ["End"] "told" (mVar 0)) mNil)))))
def p_is_newer:GM:=mDef 2 2 b_p_is_newer
def b_p_hear_answer_1:SM:=(mIf (mTest (mOp neM (mFld ["End"] "una" (mVar 0)) (mFld ["End"] "nxt" (mVar 0)))) (mExpr (mCB p_start_timer (mCons (mVar 0) (mCons (mVar 2) mNil)))) mSkip)
def b_p_hear_answer_2:SM:=(mIf (mTru (mVar 4)) (mSeq (mExpr (mCB p_take (mCons (mFld ["End"] "written" (mVar 0)) (mCons (mCB p_offset (mCons (mVar 3) (mCons (mFld ["End"] "una" (mVar 0)) mNil))) mNil))))
    (mSeq (mSetF ["End"] "una" (mVar 0) (mVar 3))
    b_p_hear_answer_1)) mSkip)
def b_p_hear_answer_3:SM:=(mIf (mTru (mCB p_past (mCons (mFld ["End"] "una" (mVar 0)) (mCons (mVar 3) mNil)))) mRetN mSkip)
def b_p_hear_answer_4:SM:=(mIf (mOr (mTru (mVar 4)) (mTru (mCB p_is_newer (mCons (mVar 0) (mCons (mVar 1) mNil))))) (mExpr (mCB p_take_window (mCons (mVar 0) (mCons (mVar 1) mNil)))) mSkip)
def b_p_hear_answer_5:SM:=(mIf (mOr (mTru (mVar 5)) (mTest (mOp eqM (mFld ["End"] "wnd" (mVar 0)) (mC (.int 0))))) (mSetF ["End"] "tries" (mVar 0) (mC (.int 0))) mSkip)
def b_p_hear_answer:SM:=(mSeq (mSet 3 (mOp ixM (mVar 1) (mC (.int 3))))
  (mSeq (mSet 4 (mCB p_past (mCons (mVar 3) (mCons (mFld ["End"] "una" (mVar 0)) mNil))))
  (mSeq b_p_hear_answer_2
  (mSeq b_p_hear_answer_3
  (mSeq (mSet 5 (mOp eqM (mFld ["End"] "wnd" (mVar 0)) (mC (.int 0))))
  (mSeq b_p_hear_answer_4
  b_p_hear_answer_5))))))
def p_hear_answer:GM:=mDef 3 6 b_p_hear_answer
def b_p_goes_on_behind_answer_1:SM:=(mIf (mTest (mOp eqM (mFld ["End"] "state" (mVar 0)) (mC (.str "syn come")))) (mRet (mCB p_has_answered_syn (mCons (mVar 0) (mCons (mVar 1) mNil)))) mSkip)
def b_p_goes_on_behind_answer_2:SM:=(mIf (mTru (mCB p_past (mCons (mOp ixM (mVar 1) (mC (.int 3))) (mCons (mFld ["End"] "nxt" (mVar 0)) mNil)))) (mSeq (mSetF ["End"] "owes_answer" (mVar 0) (mC (.bl true)))
    (mRet (mC (.bl false)))) mSkip)
def b_p_goes_on_behind_answer:SM:=(mSeq b_p_goes_on_behind_answer_1
  (mSeq b_p_goes_on_behind_answer_2
  (mSeq (mExpr (mCB p_hear_answer (mCons (mVar 0) (mCons (mVar 1) (mCons (mVar 2) mNil)))))
  (mSeq (mExpr (mCB p_end_what_is_acknowledged (mCons (mVar 0) (mCons (mVar 2) mNil))))
  (mRet (mOp neM (mFld ["End"] "state" (mVar 0)) (mC (.str "closed"))))))))
def p_goes_on_behind_answer:GM:=mDef 3 3 b_p_goes_on_behind_answer
def b_p_hear_reset_1:SM:=(mIf (mTest (mOp eqM (mFld ["End"] "state" (mVar 0)) (mC (.str "time wait")))) mRetN mSkip)
def b_p_hear_reset_2:SM:=(mIf (mTest (mOp eqM (mOp ixM (mVar 1) (mC (.int 2))) (mFld ["End"] "rcv" (mVar 0)))) (mSeq (mSetF ["End"] "state" (mVar 0) (mC (.str "closed")))
    (mSetF ["End"] "error" (mVar 0) (mC (.str "reset")))) (mSetF ["End"] "owes_answer" (mVar 0) (mC (.bl true))))
def b_p_hear_reset:SM:=(mSeq b_p_hear_reset_1
  b_p_hear_reset_2)
def p_hear_reset:GM:=mDef 2 2 b_p_hear_reset
def b_p_draw_in_order_1:SM:=(whileL (mAnd (mTest (mOp neM (mFld ["End"] "rcv" (mVar 0)) (mFld ["End"] "early_fin" (mVar 0)))) (mTest (mDIn (mFld ["End"] "rcv" (mVar 0)) (mFld ["End"] "early" (mVar 0))))) (mSeq (mAppend 1 (mDPop (mFld ["End"] "early" (mVar 0)) (mFld ["End"] "rcv" (mVar 0))))
    (mSetF ["End"] "rcv" (mVar 0) (mCB p_plus (mCons (mFld ["End"] "rcv" (mVar 0)) (mCons (mC (.int 1)) mNil))))) 200)
def b_p_draw_in_order:SM:=(mSeq (mSetOwn 1 mNil)
  (mSeq b_p_draw_in_order_1
  (mFreeze 1 (mExpr (mCB p_lay (mCons (mFld ["End"] "come" (mVar 0)) (mCons (mVar 1) mNil)))))))
def p_draw_in_order:GM:=mDef 1 2 b_p_draw_in_order
def b_p_hear_fin_1:SM:=(mIf (mTest (mOp eqM (mFld ["End"] "state" (mVar 0)) (mC (.str "wait one")))) (mSetF ["End"] "state" (mVar 0) (mC (.str "closing"))) (mSeq (mSetF ["End"] "state" (mVar 0) (mC (.str "time wait")))
      (mSetF ["End"] "since" (mVar 0) (mVar 1))))
def b_p_hear_fin_2:SM:=(mIf (mTest (mOp eqM (mFld ["End"] "state" (mVar 0)) (mC (.str "open")))) (mSetF ["End"] "state" (mVar 0) (mC (.str "close wait"))) b_p_hear_fin_1)
def b_p_hear_fin:SM:=(mSeq (mSetF ["End"] "rcv" (mVar 0) (mCB p_plus (mCons (mFld ["End"] "rcv" (mVar 0)) (mCons (mC (.int 1)) mNil))))
  b_p_hear_fin_2)
def p_hear_fin:GM:=mDef 2 2 b_p_hear_fin
def b_p_keep_data_1:SM:=(mIf (mTru (mCB p_is_in_window (mCons (mVar 0) (mCons (mVar 4) mNil)))) (mExpr (mDSetD (mFld ["End"] "early" (mVar 0)) (mVar 4) (mVar 3))) mSkip)
def b_p_keep_data_2:SM:=(mForE (mCons (mOp ixM (mVar 1) (mC (.int 7))) mNil) 2 3 (mSeq (mSet 4 (mCB p_plus (mCons (mOp ixM (mVar 1) (mC (.int 2))) (mCons (mVar 2) mNil))))
    b_p_keep_data_1))
def b_p_keep_data_3:SM:=(mIf (mTest (mOp gtM (mCB lenG (mCons (mOp ixM (mVar 1) (mC (.int 7))) mNil)) (mC (.int 0)))) (mSetF ["End"] "owes_answer" (mVar 0) (mC (.bl true))) mSkip)
def b_p_keep_data:SM:=(mSeq b_p_keep_data_2
  b_p_keep_data_3)
def p_keep_data:GM:=mDef 2 5 b_p_keep_data
def b_p_keep_fin_1:SM:=(mIf (mNot (mTru (mCB p_bears (mCons (mVar 1) (mCons (mC (.int 1)) mNil))))) mRetN mSkip)
def b_p_keep_fin_2:SM:=(mIf (mAnd (mTest (mOp isM (mFld ["End"] "early_fin" (mVar 0)) (mC .non))) (mTru (mCB p_is_in_window (mCons (mVar 0) (mCons (mVar 2) mNil))))) (mSetF ["End"] "early_fin" (mVar 0) (mVar 2)) mSkip)
def b_p_keep_fin:SM:=(mSeq b_p_keep_fin_1
  (mSeq (mSetF ["End"] "owes_answer" (mVar 0) (mC (.bl true)))
  (mSeq (mSet 2 (mCB p_plus (mCons (mOp ixM (mVar 1) (mC (.int 2))) (mCons (mCB lenG (mCons (mOp ixM (mVar 1) (mC (.int 7))) mNil)) mNil))))
  b_p_keep_fin_2)))
def p_keep_fin:GM:=mDef 2 3 b_p_keep_fin
def b_p_hear_stream_1:SM:=(mIf (mTest (mOp notInM (mFld ["End"] "state" (mVar 0)) (mTup (mCons (mC (.str "open")) (mCons (mC (.str "wait one")) (mCons (mC (.str "wait two")) mNil)))))) mRetN mSkip)
def b_p_hear_stream_2:SM:=(mIf (mTest (mOp eqM (mFld ["End"] "rcv" (mVar 0)) (mFld ["End"] "early_fin" (mVar 0)))) (mExpr (mCB p_hear_fin (mCons (mVar 0) (mCons (mVar 2) mNil)))) mSkip)
def b_p_hear_stream:SM:=(mSeq b_p_hear_stream_1
  (mSeq (mExpr (mCB p_keep_data (mCons (mVar 0) (mCons (mVar 1) mNil))))
  (mSeq (mExpr (mCB p_keep_fin (mCons (mVar 0) (mCons (mVar 1) mNil))))
  (mSeq (mExpr (mCB p_draw_in_order (mCons (mVar 0) mNil)))
  b_p_hear_stream_2))))
def p_hear_stream:GM:=mDef 3 3 b_p_hear_stream
def b_p_turn_away_1:SM:=(mIf (mTru (mCB p_bears (mCons (mVar 1) (mCons (mC (.int 4)) mNil)))) mRetN mSkip)
def b_p_turn_away_2:SM:=(mIf (mAnd (mTest (mOp eqM (mFld ["End"] "state" (mVar 0)) (mC (.str "syn come")))) (mAnd (mTru (mCB p_bears (mCons (mVar 1) (mCons (mC (.int 2)) mNil)))) (mNot (mTru (mCB p_bears (mCons (mVar 1) (mCons (mC (.int 16)) mNil))))))) (mSetF ["End"] "owes_syn" (mVar 0) (mC (.bl true))) (mSetF ["End"] "owes_answer" (mVar 0) (mC (.bl true))))
def b_p_turn_away_3:SM:=(mIf (mTest (mOp eqM (mFld ["End"] "state" (mVar 0)) (mC (.str "time wait")))) (mSetF ["End"] "since" (mVar 0) (mVar 2)) mSkip)
def b_p_turn_away:SM:=(mSeq b_p_turn_away_1
  (mSeq b_p_turn_away_2
  b_p_turn_away_3))
def p_turn_away:GM:=mDef 3 3 b_p_turn_away
def b_p_come_to_stream_1:SM:=(mIf (mAnd (mTru (mCB p_bears (mCons (mVar 1) (mCons (mC (.int 16)) mNil)))) (mTru (mCB p_goes_on_behind_answer (mCons (mVar 0) (mCons (mVar 1) (mCons (mVar 2) mNil)))))) (mExpr (mCB p_hear_stream (mCons (mVar 0) (mCons (mVar 1) (mCons (mVar 2) mNil))))) mSkip)
def b_p_come_to_stream_2:SM:=(mIf (mTru (mCB p_bears (mCons (mVar 1) (mCons (mC (.int 2)) mNil)))) (mSetF ["End"] "owes_answer" (mVar 0) (mC (.bl true))) b_p_come_to_stream_1)
def b_p_come_to_stream_3:SM:=(mIf (mTru (mCB p_bears (mCons (mVar 1) (mCons (mC (.int 4)) mNil)))) (mExpr (mCB p_hear_reset (mCons (mVar 0) (mCons (mVar 1) mNil)))) b_p_come_to_stream_2)
def b_p_come_to_stream_4:SM:=(mIf (mNot (mTru (mCB p_fits (mCons (mVar 0) (mCons (mVar 1) mNil))))) (mExpr (mCB p_turn_away (mCons (mVar 0) (mCons (mVar 1) (mCons (mVar 2) mNil))))) b_p_come_to_stream_3)
def b_p_come_to_stream:SM:=b_p_come_to_stream_4
def p_come_to_stream:GM:=mDef 3 3 b_p_come_to_stream
def b_p_is_for:SM:=(mRet (mAndV (mOp eqM (mOp ixM (mVar 1) (mC (.int 1))) (mFld ["End"] "ours" (mVar 0))) (mOrV (mOp inM (mFld ["End"] "state" (mVar 0)) (mTup (mCons (mC (.str "closed")) (mCons (mC (.str "listen")) mNil)))) (mOp eqM (mOp ixM (mVar 1) (mC (.int 0))) (mFld ["End"] "theirs" (mVar 0))))))
def p_is_for:GM:=mDef 2 2 b_p_is_for
def b_p_arrive_1:SM:=(mIf (mNot (mTru (mCB p_is_right (mCons (mVar 1) mNil)))) (mRet (mC (.bl false))) mSkip)
def b_p_arrive_2:SM:=(mIf (mNot (mTru (mCB p_is_for (mCons (mVar 0) (mCons (mVar 3) mNil))))) (mRet (mC (.bl false))) mSkip)
def b_p_arrive_3:SM:=(mIf (mTest (mOp eqM (mFld ["End"] "state" (mVar 0)) (mC (.str "syn sent")))) (mExpr (mCB p_come_to_syn_sent (mCons (mVar 0) (mCons (mVar 3) (mCons (mVar 2) mNil))))) (mExpr (mCB p_come_to_stream (mCons (mVar 0) (mCons (mVar 3) (mCons (mVar 2) mNil))))))
def b_p_arrive_4:SM:=(mIf (mTest (mOp eqM (mFld ["End"] "state" (mVar 0)) (mC (.str "listen")))) (mExpr (mCB p_come_to_listen (mCons (mVar 0) (mCons (mVar 3) mNil)))) b_p_arrive_3)
def b_p_arrive_5:SM:=(mIf (mTest (mOp eqM (mFld ["End"] "state" (mVar 0)) (mC (.str "closed")))) (mExpr (mCB p_come_to_closed (mCons (mVar 0) (mCons (mVar 3) mNil)))) b_p_arrive_4)
def b_p_arrive:SM:=(mSeq b_p_arrive_1
  (mSeq (mSet 3 (mCB p_get (mCons (mVar 1) mNil)))
  (mSeq b_p_arrive_2
  (mSeq b_p_arrive_5
  (mRet (mC (.bl true)))))))
def p_arrive:GM:=mDef 3 4 b_p_arrive
def b_p_write_1:SM:=(mIf (mOr (mTru (mFld ["End"] "has_closed" (mVar 0))) (mTest (mOp notInM (mFld ["End"] "state" (mVar 0)) (mTup (mCons (mC (.str "syn sent")) (mCons (mC (.str "syn come")) (mCons (mC (.str "open")) (mCons (mC (.str "close wait")) mNil)))))))) (mRet (mC (.int 0))) mSkip)
def b_p_write:SM:=(mSeq b_p_write_1
  (mSeq (mSet 2 (mCB p_lay (mCons (mFld ["End"] "written" (mVar 0)) (mCons (mVar 1) mNil))))
  (mSeq (mSetF ["End"] "behind" (mVar 0) (mCB p_plus (mCons (mFld ["End"] "behind" (mVar 0)) (mCons (mVar 2) mNil))))
  (mRet (mVar 2)))))
def p_write:GM:=mDef 2 3 b_p_write
def b_p_read_1:SM:=(mIf (mAnd (mTru (mVar 2)) (mAnd (mTest (mOp gtM (mCB p_our_window (mCons (mVar 0) mNil)) (mC (.int 0)))) (mTest (mOp inM (mFld ["End"] "state" (mVar 0)) (mTup (mCons (mC (.str "open")) (mCons (mC (.str "wait one")) (mCons (mC (.str "wait two")) mNil)))))))) (mSetF ["End"] "owes_answer" (mVar 0) (mC (.bl true))) mSkip)
def b_p_read:SM:=(mSeq (mSet 2 (mOp eqM (mCB p_our_window (mCons (mVar 0) mNil)) (mC (.int 0))))
  (mSeq (mSet 3 (mCB p_take (mCons (mFld ["End"] "come" (mVar 0)) (mCons (mVar 1) mNil))))
  (mSeq b_p_read_1
  (mRet (mVar 3)))))
def p_read:GM:=mDef 2 4 b_p_read
def b_l_plus:SM:=(mRet (mOp modM (mOp addM (mVar 0) (mVar 1)) (mC (.int 4294967296))))
def l_plus:GM:=mDef 2 2 b_l_plus
def b_l_first_1:SM:=(mIf (mTest (mOp eqM (mOp modM (mVar 0) (mC (.int 2))) (mC (.int 0)))) (mRet (mOp modM (mOp subM (mC (.int 4294967296)) (mOp modM (mOp divM (mVar 0) (mC (.int 2))) (mC (.int 90)))) (mC (.int 4294967296)))) mSkip)
def b_l_first:SM:=(mSeq b_l_first_1
  (mRet (mVar 0)))
def l_first:GM:=mDef 1 1 b_l_first
def b_l_segment:SM:=(mRet (mTup (mCons (mOp ixM (mVar 0) (mC (.int 1))) (mCons (mOp ixM (mVar 0) (mC (.int 0))) (mCons (mVar 1) (mCons (mVar 2) (mCons (mVar 3) (mCons (mVar 4) (mCons (mC (.int 0)) (mCons (mCB tupleG (mCons (mVar 5) mNil)) mNil))))))))))
def l_segment:GM:=mDef 6 6 b_l_segment
end
end My
set_option Elab.async false
set_option linter.all false
set_option maxRecDepth 100000
set_option maxHeartbeats 4000000
namespace My
open PySem L2 L2.MM
noncomputable section
def bears (s:Seg) (f:Int):Bool:=decide (bit s.flags f=1)
def lenS (s:Seg):Int:=s.data.length+bit s.flags 2+bit s.flags 1
def resetFor (s:Seg):Seg:=if bears s 16=true then ⟨s.goal,s.src,s.ans,0,4,0,0,[]⟩ else ⟨s.goal,s.src,0,plus s.num (lenS s),20,0,0,[]⟩
def oweReset (e:EndS) (s:Seg):EndS:=if bears s 4=true then e else { e with owed_reset:=some (resetFor s) }
def hearSyn (e:EndS) (s:Seg):EndS:={ e with rcv:=plus s.num 1,wnd:=s.win,told:=s.num,told_by:=if bears s 16=true then s.ans else 0,most:=if s.most=0 then e.most else s.most }
def comeListen (e:EndS) (s:Seg):EndS:=
  if bears s 4=true then e
  else if bears s 16=true then oweReset e s
  else if bears s 2=true then { hearSyn { e with theirs:=s.src } s with state:=.synCome }
  else e
def answersSyn (e:EndS) (s:Seg):Bool:=!decide (e.nxt=e.first) && decide (s.ans=plus e.first 1)
def comeSynSent (e:EndS) (s:Seg) (now:Int):EndS:=
  if bears s 16=true∧answersSyn e s=false then oweReset e s
  else if bears s 4=true then (if bears s 16=true then { e with state:=.closed,error:=.refused } else e)
  else if bears s 2=true then
    (if bears s 16=true then { hearSyn e s with una:=s.ans,state:=.opn,owes_answer:=true }
     else { startTimer { hearSyn e s with state:=.synCome } now with owes_syn:=true })
  else e
def isFor (e:EndS) (s:Seg):Bool:=decide (s.goal=e.ours) && (decide (e.state∈[State.closed,.listen]) || decide (s.src=e.theirs))
section
variable {θ:Sto} {l:Nat} {e:EndS} {s:Seg} {now f:Int}
@[simp] theorem t_bears:p_bears [s.d,.int f] θ=.ok (.bl (bears s f)) θ:=by
  simp [p_bears,b_p_bears,bears]
theorem t_length':p_length [s.d] θ=.ok (.int (lenS s)) θ:=t_length s θ
@[simp] theorem t_reset_for:p_reset_for [s.d] θ=.ok (resetFor s).d θ:=by
  by_cases c:bears s 16=true
  · simp [p_reset_for,b_p_reset_for,b_p_reset_for_1,c,resetFor,seg_d0]
  · simp [p_reset_for,b_p_reset_for,b_p_reset_for_1,c,resetFor,seg_d0,t_length']
@[simp] theorem t_owe_reset (h:l+3 < θ.length):p_owe_reset_for [.ref l,s.d] (upE θ l e)=.ok .non (upE θ l (oweReset e s)):=by
  by_cases c:bears s 4=true
  · simp [p_owe_reset_for,b_p_owe_reset_for,b_p_owe_reset_for_1,h,c,oweReset]
  · simp [p_owe_reset_for,b_p_owe_reset_for,b_p_owe_reset_for_1,h,c,oweReset]
@[simp] theorem t_come_to_closed (h:l+3 < θ.length):p_come_to_closed [.ref l,s.d] (upE θ l e)=.ok .non (upE θ l (oweReset e s)):=by
  simp [p_come_to_closed,b_p_come_to_closed,h]
@[simp] theorem t_hear_syn (h:l+3 < θ.length):p_hear_syn [.ref l,s.d] (upE θ l e)=.ok .non (upE θ l (hearSyn e s)):=by
  by_cases c:bears s 16=true<;>by_cases c2:s.most=0<;>simp [p_hear_syn,b_p_hear_syn,b_p_hear_syn_1,h,c,c2,hearSyn]
@[simp] theorem t_come_to_listen (h:l+3 < θ.length):p_come_to_listen [.ref l,s.d] (upE θ l e)=.ok .non (upE θ l (comeListen e s)):=by
  by_cases c:bears s 4=true
  · simp [p_come_to_listen,b_p_come_to_listen,b_p_come_to_listen_1,h,c,comeListen]
  · by_cases c1:bears s 16=true
    · simp [p_come_to_listen,b_p_come_to_listen,b_p_come_to_listen_1,b_p_come_to_listen_2,b_p_come_to_listen_3,h,c,c1,comeListen]
    · by_cases c2:bears s 2=true
      · simp [p_come_to_listen,b_p_come_to_listen,b_p_come_to_listen_1,b_p_come_to_listen_2,b_p_come_to_listen_3,h,c,c1,c2,comeListen]
      · simp [p_come_to_listen,b_p_come_to_listen,b_p_come_to_listen_1,b_p_come_to_listen_2,b_p_come_to_listen_3,h,c,c1,c2,comeListen]
@[simp] theorem t_answers_syn (h:l+3 < θ.length):p_answers_syn [.ref l,s.d] (upE θ l e)=.ok (.bl (answersSyn e s)) (upE θ l e):=by
  by_cases c:e.nxt=e.first<;>simp [p_answers_syn,b_p_answers_syn,h,answersSyn,c]
@[simp] theorem t_come_to_syn_sent (h:l+3 < θ.length):p_come_to_syn_sent [.ref l,s.d,.int now] (upE θ l e)=.ok .non (upE θ l (comeSynSent e s now)):=by
  by_cases c:bears s 16=true
  · by_cases c1:answersSyn e s=true
    · by_cases c2:bears s 4=true
      · simp [p_come_to_syn_sent,b_p_come_to_syn_sent,b_p_come_to_syn_sent_3,b_p_come_to_syn_sent_2,p_refuse,b_p_refuse,b_p_refuse_1,h,c,c1,c2,comeSynSent]
      · by_cases c3:bears s 2=true
        · simp [p_come_to_syn_sent,b_p_come_to_syn_sent,b_p_come_to_syn_sent_3,b_p_come_to_syn_sent_2,b_p_come_to_syn_sent_1,p_go_on_from_syn_sent,b_p_go_on_from_syn_sent,b_p_go_on_from_syn_sent_1,h,c,c1,c2,c3,comeSynSent]
        · simp [p_come_to_syn_sent,b_p_come_to_syn_sent,b_p_come_to_syn_sent_3,b_p_come_to_syn_sent_2,b_p_come_to_syn_sent_1,h,c,c1,c2,c3,comeSynSent]
    · simp [p_come_to_syn_sent,b_p_come_to_syn_sent,b_p_come_to_syn_sent_3,h,c,c1,comeSynSent]
  · by_cases c2:bears s 4=true
    · simp [p_come_to_syn_sent,b_p_come_to_syn_sent,b_p_come_to_syn_sent_3,b_p_come_to_syn_sent_2,p_refuse,b_p_refuse,b_p_refuse_1,h,c,c2,comeSynSent]
    · by_cases c3:bears s 2=true
      · simp [p_come_to_syn_sent,b_p_come_to_syn_sent,b_p_come_to_syn_sent_3,b_p_come_to_syn_sent_2,b_p_come_to_syn_sent_1,p_go_on_from_syn_sent,b_p_go_on_from_syn_sent,b_p_go_on_from_syn_sent_1,h,c,c2,c3,comeSynSent]
      · simp [p_come_to_syn_sent,b_p_come_to_syn_sent,b_p_come_to_syn_sent_3,b_p_come_to_syn_sent_2,b_p_come_to_syn_sent_1,h,c,c2,c3,comeSynSent]
@[simp] theorem t_is_for (h:l+3 < θ.length):p_is_for [.ref l,s.d] (upE θ l e)=.ok (.bl (isFor e s)) (upE θ l e):=by
  simp [p_is_for,b_p_is_for,h,isFor]
theorem t_arrive_closed (h:l+3 < θ.length) {r:List Int} (hb:Byt r) (hr:isRight r=true) (hf:isFor e (getSeg r)=true) (hs:e.state=.closed):p_arrive [.ref l,il r,.int now] (upE θ l e)=.ok (.bl true) (upE θ l (oweReset e (getSeg r))):=by
  simp [p_arrive,b_p_arrive,b_p_arrive_1,b_p_arrive_2,b_p_arrive_5,t_is_right hb,hr,t_get hb hr,h,hf,hs]
theorem t_arrive_listen (h:l+3 < θ.length) {r:List Int} (hb:Byt r) (hr:isRight r=true) (hf:isFor e (getSeg r)=true) (hs:e.state=.listen):p_arrive [.ref l,il r,.int now] (upE θ l e)=.ok (.bl true) (upE θ l (comeListen e (getSeg r))):=by
  simp [p_arrive,b_p_arrive,b_p_arrive_1,b_p_arrive_2,b_p_arrive_5,b_p_arrive_4,t_is_right hb,hr,t_get hb hr,h,hf,hs]
theorem t_arrive_synSent (h:l+3 < θ.length) {r:List Int} (hb:Byt r) (hr:isRight r=true) (hf:isFor e (getSeg r)=true) (hs:e.state=.synSent):p_arrive [.ref l,il r,.int now] (upE θ l e)=.ok (.bl true) (upE θ l (comeSynSent e (getSeg r) now)):=by
  simp [p_arrive,b_p_arrive,b_p_arrive_1,b_p_arrive_2,b_p_arrive_5,b_p_arrive_4,b_p_arrive_3,t_is_right hb,hr,t_get hb hr,h,hf,hs]
@[simp] theorem t_lplus {n k:Int}:l_plus [.int n,.int k] θ=.ok (.int (plus n k)) θ:=by simp [l_plus,b_l_plus,plus]
def firstOf (n:Int):Int:=if n % 2=0 then (4294967296-n/2 % 90) % 4294967296 else n
@[simp] theorem t_lfirst {n:Int}:l_first [.int n] θ=.ok (.int (firstOf n)) θ:=by
  by_cases c:n % 2=0<;>simp [l_first,b_l_first,b_l_first_1,firstOf,c]
end
end
end My
set_option Elab.async false
set_option linter.all false
set_option maxRecDepth 100000
set_option maxHeartbeats 4000000
namespace My
open PySem L2 L2.MM
noncomputable section
section
variable {θ:Sto} {ρ:List Sl} {fi fo fe ff:EM} {fa:AM} {i j k:Nat} {b:SM} {x:D} {r:List D}
theorem nr' {p:Prop} (h:p):p:=h
@[simp] theorem x_din:mDIn fi fo ρ θ=(fi ρ θ).bind fun y θ=>(fo ρ θ).bind fun d θ=>match keyD y,dkOf θ d with
  | some k,some (_,kvs)=>.ok (.bl (valD kvs k).isSome) θ
  | _,_=>.bad:=nr' rfl
@[simp] theorem x_dpop:mDPop fo fe ρ θ=(fo ρ θ).bind fun d θ=>match dkOf θ d with
  | none=>.bad
  | some _=>(fe ρ θ).bind fun y θ=>match keyD y,dkOf θ d with
    | some k,some (l,kvs)=>match valD kvs k with
      | some v=>.ok v (θ.set l (.dK (dropD kvs k)))
      | none=>.bad
    | _,_=>.bad:=nr' rfl
@[simp] theorem x_dsetd:mDSetD fo fe ff ρ θ=(fo ρ θ).bind fun d θ=>match dkOf θ d with
  | none=>.bad
  | some _=>(fe ρ θ).bind fun y θ=>(ff ρ θ).bind fun z θ=>match keyD y,dkOf θ d with
    | some k,some (l,kvs)=>if kvs.length<BIG then (match valD kvs k with
      | some v=>.ok v θ
      | none=>.ok z (θ.set l (.dK (putD kvs k z)))) else .bad
    | _,_=>.bad:=nr' rfl
@[simp] theorem x_keyI {n:Int}:keyD (.int n)=some (.inl n):=nr' rfl
end
abbrev EL:=List (Int×Int)
def atE (m:EL) (n:Int):Option Int:=(m.find? fun p=>decide (p.1=n)).map (·.2)
def dropE (m:EL) (n:Int):EL:=m.filter fun p=>decide (p.1≠n)
def keepE (m:EL) (n b:Int):EL:=match atE m n with | some _=>m | none=>m++[(n,b)]
abbrev ed (p:Int×Int):Key×D:=(Sum.inl p.1,D.int p.2)
theorem valD_ed (n:Int):∀m:EL,valD (m.map ed) (.inl n)=(atE m n).map D.int
  | []=>rfl
  | p::r=>by
    have ih:=valD_ed n r
    unfold valD atE at ih ⊢
    by_cases e:p.1=n
    · simp [ed,e]
    · simpa [ed,e] using ih
theorem dropD_ed (n:Int):∀m:EL,dropD (m.map ed) (.inl n)=(dropE m n).map ed
  | []=>rfl
  | p::r=>by
    have ih:=dropD_ed n r
    unfold dropD dropE at ih ⊢
    by_cases e:p.1=n
    · simpa [ed,e] using ih
    · simpa [ed,e] using ih
theorem any_ed (n:Int):∀m:EL,((m.map ed).any fun kv=>decide (kv.1=Sum.inl n))=(atE m n).isSome
  | []=>rfl
  | p::r=>by
    have ih:=any_ed n r
    unfold atE at ih ⊢
    by_cases e:p.1=n
    · simp [ed,e]
    · simpa [ed,e] using ih
theorem putD_ed (n b:Int) (m:EL) (h:atE m n=none):putD (m.map ed) (.inl n) (.int b)=(m++[(n,b)]).map ed:=by
  unfold putD
  rw [any_ed,h]
  simp [ed]
section
variable {θ:Sto} {l:Nat} {e:EndS} {s:Seg} {now:Int}
theorem dk3 (h:l+3 < θ.length):dkOf (upE θ l e) (.ref (l+3))=some (l+3,e.early.map ed):=by
  have:(upE θ l e)[l+3]?=some (c3 e):=by
    unfold upE
    rw [List.getElem?_set_self (by simpa using h)]
  show (match (upE θ l e)[l+3]? with | some (Cell.dK kvs)=>some (l+3,kvs) | _=>none)=_
  rw [this]
  rfl
theorem set3 (h:l+3 < θ.length) (m:EL):(upE θ l e).set (l+3) (.dK (m.map ed))=upE θ l { e with early:=m }:=by
  unfold upE
  rw [List.set_set]
  rfl
end
def inWin (e:EndS) (n:Int):Bool:=decide (0≤offset n e.rcv) && decide (offset n e.rcv<ourWindow e)
def fitsE (e:EndS) (s:Seg):Bool:=if lenS s=0 then decide (0≤offset s.num e.rcv) && decide (offset s.num e.rcv≤64) else inWin e s.num || inWin e (plus s.num (lenS s-1))
def turnAway (e:EndS) (s:Seg) (now:Int):EndS:=
  if bears s 4=true then e
  else if e.state=.timeWait then { e with owes_answer:=true,since:=now }
  else if e.state=.synCome∧bears s 2=true∧bears s 16=false then { e with owes_syn:=true }
  else { e with owes_answer:=true }
def hearReset (e:EndS) (s:Seg):EndS:=if e.state=.timeWait then e else if s.num=e.rcv then { e with state:=.closed,error:=.reset } else { e with owes_answer:=true }
def pastB (a b:Int):Bool:=decide (0<offset a b)
def takeWin (e:EndS) (s:Seg):EndS:={ e with wnd:=s.win,told:=s.num,told_by:=s.ans }
def answeredSyn (e:EndS) (s:Seg):Bool×EndS:=
  if e.nxt=e.first∨¬s.ans=e.nxt then (false,oweReset e s)
  else (true,takeWin { e with una:=s.ans,state:=if e.has_closed=true then .waitOne else .opn } s)
def isNewer (e:EndS) (s:Seg):Bool:=if s.num=e.told then !pastB e.told_by s.ans else pastB s.num e.told
def heardOn (e:EndS) (s:Seg) (now:Int):EndS:=
  if pastB s.ans e.una=true then
    (if s.ans=e.nxt then { e with written:=e.written.drop (offset s.ans e.una).toNat,una:=s.ans } else startTimer { e with written:=e.written.drop (offset s.ans e.una).toNat,una:=s.ans } now)
  else e
def hearAnswer (e:EndS) (s:Seg) (now:Int):EndS:=
  let e1:=heardOn e s now
  if pastB e1.una s.ans=true then e1
  else
    let e2:=if (pastB s.ans e.una || isNewer e1 s)=true then takeWin e1 s else e1
    if e1.wnd=0∨e2.wnd=0 then { e2 with tries:=0 } else e2
def sentFin (e:EndS):Bool:=pastB e.nxt e.behind
def endAcked (e:EndS) (now:Int):EndS:=
  if sentFin e=false∨¬e.una=e.nxt then e
  else if e.state=.waitOne then { e with state:=.waitTwo }
  else if e.state=.closing then { e with state:=.timeWait,since:=now }
  else if e.state=.lastAck then { e with state:=.closed }
  else e
def goesOn (e:EndS) (s:Seg) (now:Int):Bool×EndS:=
  if e.state=.synCome then answeredSyn e s
  else if pastB s.ans e.nxt=true then (false,{ e with owes_answer:=true })
  else (!decide ((endAcked (hearAnswer e s now) now).state=.closed),endAcked (hearAnswer e s now) now)
def keepAll (e:EndS) (num:Int):Nat→List Int→EndS
  | _,[]=>e
  | k,b::r=>keepAll (if inWin e (plus num k)=true then { e with early:=keepE e.early (plus num k) b } else e) num (k+1) r
def keepData (e:EndS) (s:Seg):EndS:=if 0<s.data.length then { keepAll e s.num 0 s.data with owes_answer:=true } else keepAll e s.num 0 s.data
def keepFin (e:EndS) (s:Seg):EndS:=
  if bears s 1=false then e
  else if e.early_fin=none∧inWin e (plus s.num s.data.length)=true then { e with owes_answer:=true,early_fin:=some (plus s.num s.data.length) }
  else { e with owes_answer:=true }
def drawn:Nat→EndS→List Int×EndS
  | 0,e=>([],e)
  | n+1,e=>if e.early_fin=some e.rcv then ([],e) else match atE e.early e.rcv with
    | none=>([],e)
    | some b=>(b::(drawn n { e with early:=dropE e.early e.rcv,rcv:=plus e.rcv 1 }).1,(drawn n { e with early:=dropE e.early e.rcv,rcv:=plus e.rcv 1 }).2)
def layCome (e:EndS) (r:List Int):EndS:={ e with come:=e.come++cutL r none (some (ourWindow e)) }
def hearFin (e:EndS) (now:Int):EndS:=
  if e.state=.opn then { e with rcv:=plus e.rcv 1,state:=.closeWait }
  else if e.state=.waitOne then { e with rcv:=plus e.rcv 1,state:=.closing }
  else { e with rcv:=plus e.rcv 1,state:=.timeWait,since:=now }
section
variable {θ:Sto} {l:Nat} {e:EndS} {s:Seg} {now n a b:Int}
@[simp] theorem t_past:p_past [.int a,.int b] θ=.ok (.bl (pastB a b)) θ:=by simp [p_past,b_p_past,pastB]
@[simp] theorem t_sent_fin (h:l+3 < θ.length):p_has_sent_fin [.ref l] (upE θ l e)=.ok (.bl (sentFin e)) (upE θ l e):=by
  simp [p_has_sent_fin,b_p_has_sent_fin,h,sentFin]
@[simp] theorem t_in_window (h:l+3 < θ.length):p_is_in_window [.ref l,.int n] (upE θ l e)=.ok (.bl (inWin e n)) (upE θ l e):=by
  by_cases c:0≤offset n e.rcv<;>simp [p_is_in_window,b_p_is_in_window,h,inWin,ourWindow,c]<;>exact decide_eq_decide.mpr Iff.rfl
@[simp] theorem t_fits (h:l+3 < θ.length):p_fits [.ref l,s.d] (upE θ l e)=.ok (.bl (fitsE e s)) (upE θ l e):=by
  by_cases c:lenS s=0
  · by_cases c1:0≤offset s.num e.rcv<;>simp [p_fits,b_p_fits,b_p_fits_1,h,t_length',c,c1,fitsE]
  · by_cases c1:inWin e s.num=true<;>simp [p_fits,b_p_fits,b_p_fits_1,h,t_length',c,c1,fitsE]
@[simp] theorem t_turn_away (h:l+3 < θ.length):p_turn_away [.ref l,s.d,.int now] (upE θ l e)=.ok .non (upE θ l (turnAway e s now)):=by
  by_cases c4:bears s 4=true
  · simp [p_turn_away,b_p_turn_away,b_p_turn_away_1,h,c4,turnAway]
  · by_cases ct:e.state=.timeWait
    · simp [p_turn_away,b_p_turn_away,b_p_turn_away_1,b_p_turn_away_2,b_p_turn_away_3,h,c4,ct,turnAway]
    · by_cases cs:e.state=.synCome<;>by_cases c2:bears s 2=true<;>by_cases c16:bears s 16=true<;>simp [p_turn_away,b_p_turn_away,b_p_turn_away_1,b_p_turn_away_2,b_p_turn_away_3,h,c4,ct,cs,c2,c16,turnAway]
@[simp] theorem t_hear_reset (h:l+3 < θ.length):p_hear_reset [.ref l,s.d] (upE θ l e)=.ok .non (upE θ l (hearReset e s)):=by
  by_cases ct:e.state=.timeWait
  · simp [p_hear_reset,b_p_hear_reset,b_p_hear_reset_1,b_p_hear_reset_2,h,ct,hearReset]
  · by_cases c:s.num=e.rcv<;>simp [p_hear_reset,b_p_hear_reset,b_p_hear_reset_1,b_p_hear_reset_2,h,ct,c,hearReset]
@[simp] theorem t_take_window (h:l+3 < θ.length):p_take_window [.ref l,s.d] (upE θ l e)=.ok .non (upE θ l (takeWin e s)):=by
  simp [p_take_window,b_p_take_window,h,takeWin]
@[simp] theorem t_answered_syn (h:l+3 < θ.length):p_has_answered_syn [.ref l,s.d] (upE θ l e)=.ok (.bl (answeredSyn e s).1) (upE θ l (answeredSyn e s).2):=by
  by_cases c1:e.nxt=e.first
  · simp [p_has_answered_syn,b_p_has_answered_syn,b_p_has_answered_syn_1,h,c1,answeredSyn]
  · by_cases c2:s.ans=e.nxt
    · by_cases c3:e.has_closed=true<;>simp [p_has_answered_syn,b_p_has_answered_syn,b_p_has_answered_syn_1,h,c1,c2,c3,answeredSyn]
    · simp [p_has_answered_syn,b_p_has_answered_syn,b_p_has_answered_syn_1,h,c1,c2,answeredSyn]
@[simp] theorem t_is_newer (h:l+3 < θ.length):p_is_newer [.ref l,s.d] (upE θ l e)=.ok (.bl (isNewer e s)) (upE θ l e):=by
  by_cases c:s.num=e.told<;>simp [p_is_newer,b_p_is_newer,b_p_is_newer_1,h,c,isNewer]
theorem t_take1 (h:l+3 < θ.length):p_take [.ref (l+1),.int n] (upE θ l e)=.ok (il (e.written.take n.toNat)) (upE θ l { e with written:=e.written.drop n.toNat }):=by
  by_cases c:0<n
  · simp [p_take,b_p_take,h,cut_to,cut_from,c,show 0≤n by omega,show ¬n<0 by omega]
  · have z:n.toNat=0:=by omega
    by_cases c0:n<0
    · simp [p_take,b_p_take,h,cut_to,cut_from,z,c0,il_nil]
    · have n0:n=0:=by omega
      simp [p_take,b_p_take,h,cut_to,cut_from,n0,il_nil]
theorem t_take2 (h:l+3 < θ.length):p_take [.ref (l+2),.int n] (upE θ l e)=.ok (il (e.come.take n.toNat)) (upE θ l { e with come:=e.come.drop n.toNat }):=by
  by_cases c:0<n
  · simp [p_take,b_p_take,h,cut_to,cut_from,c,show 0≤n by omega,show ¬n<0 by omega]
  · have z:n.toNat=0:=by omega
    by_cases c0:n<0
    · simp [p_take,b_p_take,h,cut_to,cut_from,z,c0,il_nil]
    · have n0:n=0:=by omega
      simp [p_take,b_p_take,h,cut_to,cut_from,n0,il_nil]
@[simp] theorem t_hear_answer (h:l+3 < θ.length):p_hear_answer [.ref l,s.d,.int now] (upE θ l e)=.ok .non (upE θ l (hearAnswer e s now)):=by
  have tk:=fun (e:EndS) (n:Int)=>t_take1 (θ:=θ) (l:=l) (e:=e) (n:=n) h
  have h2:b_p_hear_answer_2 [.val (.ref l),.val s.d,.val (.int now),.val (.int s.ans),.val (.bl (pastB s.ans e.una)),.no] (upE θ l e)=.ok (.nx,[.val (.ref l),.val s.d,.val (.int now),.val (.int s.ans),.val (.bl (pastB s.ans e.una)),.no]) (upE θ l (heardOn e s now)):=by
    unfold heardOn
    by_cases c1:pastB s.ans e.una=true
    · rw [if_pos c1]
      by_cases c2:s.ans=e.nxt
      · rw [if_pos c2,c1]
        simp [b_p_hear_answer_2,b_p_hear_answer_1,h,tk,c2]
      · rw [if_neg c2,c1]
        simp [b_p_hear_answer_2,b_p_hear_answer_1,h,tk,c2]
    · rw [if_neg c1]
      simp [b_p_hear_answer_2,c1]
  unfold hearAnswer
  obtain ⟨e1,he1⟩:∃x,x=heardOn e s now:=⟨_,rfl⟩
  rw [←he1] at h2 ⊢
  obtain ⟨g,hg⟩:∃x,x=pastB s.ans e.una:=⟨_,rfl⟩
  rw [←hg] at h2 ⊢
  clear he1
  by_cases c3:pastB e1.una s.ans=true
  · simp [p_hear_answer,b_p_hear_answer,h,←hg,h2,b_p_hear_answer_3,c3]
  · have w0:∀x:EndS,(if (g || isNewer e1 s)=true then takeWin e1 s else e1)=x→p_hear_answer [.ref l,s.d,.int now] (upE θ l e)=.ok .non (upE θ l (if e1.wnd=0∨x.wnd=0 then { x with tries:=0 } else x)):=by
      intro x hx
      have h4:b_p_hear_answer_4 [.val (.ref l),.val s.d,.val (.int now),.val (.int s.ans),.val (.bl g),.val (.bl (decide (e1.wnd=0)))] (upE θ l e1)=.ok (.nx,[.val (.ref l),.val s.d,.val (.int now),.val (.int s.ans),.val (.bl g),.val (.bl (decide (e1.wnd=0)))]) (upE θ l x):=by
        rw [←hx]
        cases g
        · by_cases c:isNewer e1 s=true<;>simp [b_p_hear_answer_4,h,c]
        · simp [b_p_hear_answer_4,h]
      by_cases c5:e1.wnd=0
      · rw [if_pos (.inl c5)]
        simp [p_hear_answer,b_p_hear_answer,h,←hg,h2,b_p_hear_answer_3,c3,c5] at h4 ⊢
        simp [h4,b_p_hear_answer_5,h]
      · by_cases c6:x.wnd=0
        · rw [if_pos (.inr c6)]
          simp [p_hear_answer,b_p_hear_answer,h,←hg,h2,b_p_hear_answer_3,c3,c5] at h4 ⊢
          simp [h4,b_p_hear_answer_5,h,c6]
        · rw [if_neg (by intro z; exact z.elim c5 c6)]
          simp [p_hear_answer,b_p_hear_answer,h,←hg,h2,b_p_hear_answer_3,c3,c5] at h4 ⊢
          simp [h4,b_p_hear_answer_5,h,c6]
    simp only [if_neg c3]
    exact w0 _ rfl
@[simp] theorem t_end_acked (h:l+3 < θ.length):p_end_what_is_acknowledged [.ref l,.int now] (upE θ l e)=.ok .non (upE θ l (endAcked e now)):=by
  by_cases c1:sentFin e=true
  · by_cases c2:e.una=e.nxt
    · cases c:e.state<;>simp [p_end_what_is_acknowledged,b_p_end_what_is_acknowledged,b_p_end_what_is_acknowledged_1,b_p_end_what_is_acknowledged_2,b_p_end_what_is_acknowledged_3,b_p_end_what_is_acknowledged_4,h,c,c1,c2,endAcked]
    · simp [p_end_what_is_acknowledged,b_p_end_what_is_acknowledged,b_p_end_what_is_acknowledged_1,h,c1,c2,endAcked]
  · simp [p_end_what_is_acknowledged,b_p_end_what_is_acknowledged,b_p_end_what_is_acknowledged_1,h,c1,endAcked]
@[simp] theorem t_goes_on (h:l+3 < θ.length):p_goes_on_behind_answer [.ref l,s.d,.int now] (upE θ l e)=.ok (.bl (goesOn e s now).1) (upE θ l (goesOn e s now).2):=by
  by_cases c1:e.state=.synCome
  · simp [p_goes_on_behind_answer,b_p_goes_on_behind_answer,b_p_goes_on_behind_answer_1,h,c1,goesOn]
  · by_cases c2:pastB s.ans e.nxt=true
    · simp [p_goes_on_behind_answer,b_p_goes_on_behind_answer,b_p_goes_on_behind_answer_1,b_p_goes_on_behind_answer_2,h,c1,c2,goesOn]
    · simp [p_goes_on_behind_answer,b_p_goes_on_behind_answer,b_p_goes_on_behind_answer_1,b_p_goes_on_behind_answer_2,h,c1,c2,goesOn]
end
end
end My
set_option Elab.async false
set_option linter.all false
set_option maxRecDepth 100000
set_option maxHeartbeats 4000000
namespace My
open PySem L2 L2.MM
noncomputable section
theorem keepE_len (m:EL) (n b:Int):(keepE m n b).length≤m.length+1:=by
  unfold keepE
  cases atE m n<;>simp
section
variable {θ:Sto} {l:Nat} {e:EndS} {s:Seg} {now n b:Int}
abbrev keepB:SM:=mSeq (mSet 4 (mCB p_plus (mCons (mOp ixM (mVar 1) (mC (.int 2))) (mCons (mVar 2) mNil)))) b_p_keep_data_1
theorem t_keep1 (h:l+3 < θ.length) (k:Nat) (x:Sl) (he:e.early.length<1000):keepB [.val (.ref l),.val s.d,.val (.int k),.val (.int b),x] (upE θ l e)=.ok (.nx,[.val (.ref l),.val s.d,.val (.int k),.val (.int b),.val (.int (plus s.num k))]) (upE θ l (if inWin e (plus s.num k)=true then { e with early:=keepE e.early (plus s.num k) b } else e)):=by
  have hd:=fun (e:EndS)=>dk3 (θ:=θ) (l:=l) (e:=e) h
  have hs:=fun (e:EndS) (m:EL)=>set3 (θ:=θ) (l:=l) (e:=e) h m
  have hB:(e.early.map ed).length<BIG:=by simp [BIG]; omega
  obtain ⟨n,hn⟩:∃n,n=plus s.num k:=⟨_,rfl⟩
  by_cases c:inWin e n=true
  · unfold keepE
    cases c2:atE e.early n with
    | some v=>
      simp [b_p_keep_data_1,h,←hn,c,hd,hB,valD_ed,c2,-List.length_map]
    | none=>
      simp [b_p_keep_data_1,h,←hn,c,hd,hB,valD_ed,c2,putD_ed,hs,-List.length_map,-List.map_append]
  · simp [b_p_keep_data_1,h,←hn,c]
theorem t_keepL (h:l+3 < θ.length):∀(r:List Int) (k:Nat) (x y z:Sl) (e:EndS),e.early.length+r.length<1000→
    ∃x' y' z',forE 2 3 keepB k (r.map D.int) [.val (.ref l),.val s.d,x,y,z] (upE θ l e)=.ok (.nx,[.val (.ref l),.val s.d,x',y',z']) (upE θ l (keepAll e s.num k r))
  | [],k,x,y,z,e,_=>⟨x,y,z,rfl⟩
  | b::r,k,x,y,z,e,hl=>by
    have hl':e.early.length+r.length+1<1000:=by simpa [Nat.add_assoc] using hl
    show ∃x' y' z',(keepB [.val (.ref l),.val s.d,.val (.int k),.val (.int b),z] (upE θ l e)).bind (loopK (forE 2 3 keepB (k+1) (r.map D.int)))=_
    rw [t_keep1 h k z (by omega)]
    exact t_keepL h r (k+1) _ _ _ _ (by
      split
      · have:=keepE_len e.early (plus s.num k) b
        show (keepE e.early (plus s.num k) b).length+r.length<1000
        omega
      · omega)
@[simp] theorem t_keep_data (h:l+3 < θ.length) (hl:e.early.length+s.data.length<1000):p_keep_data [.ref l,s.d] (upE θ l e)=.ok .non (upE θ l (keepData e s)):=by
  obtain ⟨x,y,z,g⟩:=t_keepL (s:=s) h s.data 0 .no .no .no e hl
  have h2:b_p_keep_data_2 [.val (.ref l),.val s.d,.no,.no,.no] (upE θ l e)=.ok (.nx,[.val (.ref l),.val s.d,x,y,z]) (upE θ l (keepAll e s.num 0 s.data)):=by
    rw [←g]
    simp [b_p_keep_data_2,mForE]
    rfl
  obtain ⟨e1,he1⟩:∃q,q=keepAll e s.num 0 s.data:=⟨_,rfl⟩
  unfold keepData
  rw [←he1] at h2 ⊢
  by_cases c:0<s.data.length
  · rw [if_pos c]
    simp [p_keep_data,b_p_keep_data,h2,b_p_keep_data_3,h,c]
  · rw [if_neg c]
    simp [p_keep_data,b_p_keep_data,h2,b_p_keep_data_3,h,c]
@[simp] theorem s_fin_some (h:l+3 < θ.length) (e:EndS) (n:Int):setK ["End"] "early_fin" (.int n) (.ref l) (upE θ l e)=some (upE θ l { e with early_fin:=some n }):=s_early_fin h e (some n)
@[simp] theorem isNon_fin (r:Option Int):isNon (finD r)=r.isNone:=by cases r<;>rfl
theorem t_keep_fin2 (h:l+3 < θ.length):b_p_keep_fin_2 [.val (.ref l),.val s.d,.val (.int n)] (upE θ l e)=.ok (.nx,[.val (.ref l),.val s.d,.val (.int n)]) (upE θ l (if e.early_fin=none∧inWin e n=true then { e with early_fin:=some n } else e)):=by
  by_cases c2:e.early_fin=none
  · by_cases c3:inWin e n=true
    · rw [if_pos ⟨c2,c3⟩]
      have q:∀f,e.early_fin=f→f=none→b_p_keep_fin_2 [.val (.ref l),.val s.d,.val (.int n)] (upE θ l e)=.ok (.nx,[.val (.ref l),.val s.d,.val (.int n)]) (upE θ l { e with early_fin:=some n }):=by
        intro f hf h0
        have h1:e.early_fin.isNone=true:=by rw [hf,h0]; rfl
        simp [b_p_keep_fin_2,h,h1,c3]
      exact q _ rfl c2
    · rw [if_neg fun z=>c3 z.2]
      have h1:e.early_fin.isNone=true:=by rw [c2]; rfl
      simp [b_p_keep_fin_2,h,h1,c3]
  · rw [if_neg fun z=>c2 z.1]
    have h1:e.early_fin.isNone=false:=by cases q:e.early_fin<;>first | exact absurd q c2 | rfl
    simp [b_p_keep_fin_2,h,h1]
@[simp] theorem t_keep_fin (h:l+3 < θ.length):p_keep_fin [.ref l,s.d] (upE θ l e)=.ok .non (upE θ l (keepFin e s)):=by
  unfold keepFin
  by_cases c1:bears s 1=true
  · obtain ⟨n,hn⟩:∃n,n=plus s.num s.data.length:=⟨_,rfl⟩
    have k2:=t_keep_fin2 (e:={ e with owes_answer:=true }) (s:=s) (n:=n) h
    rw [←hn,c1]
    simp [p_keep_fin,b_p_keep_fin,b_p_keep_fin_1,h,c1,←hn,k2]
    rfl
  · simp [p_keep_fin,b_p_keep_fin,b_p_keep_fin_1,c1]
@[simp] theorem ne_fin (n:Int) (r:Option Int):neM (.int n) (finD r) θ=.ok (.bl (!decide (r=some n))) θ:=by
  cases r with
  | none=>rw [neM_of (by exact cmp_ok rfl rfl rfl rfl)]; simp [look,finD]
  | some m=>simp [finD,eq_comm]
@[simp] theorem eq_fin (n:Int) (r:Option Int):eqM (.int n) (finD r) θ=.ok (.bl (decide (r=some n))) θ:=by
  cases r with
  | none=>rw [eqM_of (by exact cmp_ok rfl rfl rfl rfl)]; simp [look,finD]
  | some m=>simp [finD,eq_comm]
abbrev drawT:TMr:=mAnd (mTest (mOp neM (mFld ["End"] "rcv" (mVar 0)) (mFld ["End"] "early_fin" (mVar 0)))) (mTest (mDIn (mFld ["End"] "rcv" (mVar 0)) (mFld ["End"] "early" (mVar 0))))
abbrev drawB:SM:=mSeq (mAppend 1 (mDPop (mFld ["End"] "early" (mVar 0)) (mFld ["End"] "rcv" (mVar 0))))
    (mSetF ["End"] "rcv" (mVar 0) (mCB p_plus (mCons (mFld ["End"] "rcv" (mVar 0)) (mCons (mC (.int 1)) mNil))))
theorem t_drawT (h:l+3 < θ.length) (x:Sl):drawT [.val (.ref l),x] (upE θ l e)=.ok (!decide (e.early_fin=some e.rcv) && (atE e.early e.rcv).isSome) (upE θ l e):=by
  have hd:=fun (e:EndS)=>dk3 (θ:=θ) (l:=l) (e:=e) h
  by_cases c:e.early_fin=some e.rcv<;>simp [h,hd,valD_ed,c]
theorem t_drawB (h:l+3 < θ.length) {b:Int} (xs:List D) (hx:xs.length<BIG) (hv:atE e.early e.rcv=some b):drawB [.val (.ref l),.own xs] (upE θ l e)=.ok (.nx,[.val (.ref l),.own (xs++[.int b])]) (upE θ l { e with early:=dropE e.early e.rcv,rcv:=plus e.rcv 1 }):=by
  have hd:=fun (e:EndS)=>dk3 (θ:=θ) (l:=l) (e:=e) h
  have hs:=fun (e:EndS) (m:EL)=>set3 (θ:=θ) (l:=l) (e:=e) h m
  simp [h,hd,valD_ed,hv,dropD_ed,hs,hx]
theorem drop_len {m:EL} {n b:Int} (h:atE m n=some b):(dropE m n).length<m.length:=by
  induction m with
  | nil=>simp [atE] at h
  | cons p r ih=>
    unfold dropE atE at *
    by_cases e:p.1=n
    · simp [e]
      exact Nat.lt_succ_of_le (List.length_filter_le ..)
    · simp [e] at h ⊢
      have:=ih (by simpa using h)
      simpa using this
theorem t_drawL (h:l+3 < θ.length):∀(n:Nat) (e:EndS) (xs:List Int),e.early.length<n→xs.length+n<1000→whileL drawT drawB n [.val (.ref l),.own (xs.map D.int)] (upE θ l e)=.ok (.nx,[.val (.ref l),.own ((xs++(drawn n e).1).map D.int)]) (upE θ l (drawn n e).2)
  | 0,e,xs,hn,_=>absurd hn (Nat.not_lt_zero _)
  | n+1,e,xs,hn,hx=>by
    rw [wh_step,t_drawT h]
    unfold drawn
    by_cases c:e.early_fin=some e.rcv
    · simp [c]
    · cases c2:atE e.early e.rcv with
      | none=>simp [c]
      | some b=>
        have:=t_drawL h n { e with early:=dropE e.early e.rcv,rcv:=plus e.rcv 1 } (xs++[b]) (by have:=drop_len c2; simp only; omega) (by simp; omega)
        rw [if_neg c]
        simp only [c,decide_false,Bool.not_false,Bool.true_and,Option.isSome_some,R.bind,if_true]
        rw [t_drawB h (xs.map D.int) (by simp [BIG]; omega) c2]
        simp only [R.bind,loopK]
        rw [List.map_append] at this
        simpa [List.append_assoc] using this
theorem drawn_come:∀(n:Nat) (e:EndS),(drawn n e).2.come=e.come
  | 0,e=>rfl
  | n+1,e=>by
    unfold drawn
    split
    · rfl
    · split
      · rfl
      · exact drawn_come n _
theorem cut_len {r:List Int} {k:Int} (h:0≤k):((cutL r none (some k)).length:Int)≤k:=by
  rw [cut_to r h]
  have:=List.length_take_le k.toNat r
  omega
theorem t_layC (h:l+3 < θ.length) (hc:e.come.length≤64) (r:List Int):p_lay [.ref (l+2),il r] (upE θ l e)=.ok (.int (cutL r none (some (ourWindow e))).length) (upE θ l (layCome e r)):=by
  have h1:e.come.length+(cutL r none (some (ourWindow e))).length≤100000:=by
    have:=cut_len (r:=r) (k:=ourWindow e) (by unfold ourWindow; omega)
    unfold ourWindow at *
    omega
  simp [p_lay,b_p_lay,h,layCome,h1]
@[simp] theorem t_roomW (h:l+3 < θ.length):p_room [.ref (l+1)] (upE θ l e)=.ok (.int (64-(e.written.length:Int))) (upE θ l e):=by
  simp [p_room,b_p_room,h]
theorem t_layW (h:l+3 < θ.length) (hc:e.written.length≤64) (r:List Int):p_lay [.ref (l+1),il r] (upE θ l e)=.ok (.int (cutL r none (some (64-(e.written.length:Int)))).length) (upE θ l { e with written:=e.written++cutL r none (some (64-(e.written.length:Int))) }):=by
  have h1:e.written.length+(cutL r none (some (64-(e.written.length:Int)))).length≤100000:=by
    have:=cut_len (r:=r) (k:=64-(e.written.length:Int)) (by omega)
    omega
  simp [p_lay,b_p_lay,h,h1]
def drawIn' (e:EndS):EndS:=layCome (drawn 200 e).2 (drawn 200 e).1
theorem t_draw_in_order (h:l+3 < θ.length) (hc:e.come.length≤64) (he:e.early.length<200):p_draw_in_order [.ref l] (upE θ l e)=.ok .non (upE θ l (drawIn' e)):=by
  have g:=t_drawL h 200 e [] he (by simp)
  have g1:b_p_draw_in_order_1 [.val (.ref l),.own []] (upE θ l e)=.ok (.nx,[.val (.ref l),.own ((drawn 200 e).1.map D.int)]) (upE θ l (drawn 200 e).2):=by
    have q:b_p_draw_in_order_1=whileL drawT drawB 200:=rfl
    rw [q]
    simpa using g
  have hc1:(drawn 200 e).2.come.length≤64:=by rw [drawn_come]; exact hc
  obtain ⟨e1,he1⟩:∃q,q=(drawn 200 e).2:=⟨_,rfl⟩
  obtain ⟨r1,hr1⟩:∃q,q=(drawn 200 e).1:=⟨_,rfl⟩
  unfold drawIn'
  rw [←he1,←hr1] at g1 ⊢
  rw [←he1] at hc1
  have tl:=t_layC (e:=e1) h hc1 r1
  simp [p_draw_in_order,b_p_draw_in_order,g1,h,tl]
@[simp] theorem t_hear_fin (h:l+3 < θ.length):p_hear_fin [.ref l,.int now] (upE θ l e)=.ok .non (upE θ l (hearFin e now)):=by
  by_cases c1:e.state=.opn
  · simp [p_hear_fin,b_p_hear_fin,b_p_hear_fin_2,h,c1,hearFin]
  · by_cases c2:e.state=.waitOne<;>simp [p_hear_fin,b_p_hear_fin,b_p_hear_fin_1,b_p_hear_fin_2,h,c1,c2,hearFin]
def streamed (e:EndS) (s:Seg):EndS:=drawIn' (keepFin (keepData e s) s)
def hearStream' (e:EndS) (s:Seg) (now:Int):EndS:=
  if e.state=.opn∨e.state=.waitOne∨e.state=.waitTwo then
    (if (streamed e s).early_fin=some (streamed e s).rcv then hearFin (streamed e s) now else streamed e s)
  else e
theorem keepAll_len (num:Int):∀(r:List Int) (k:Nat) (e:EndS),(keepAll e num k r).early.length≤e.early.length+r.length
  | [],k,e=>Nat.le_refl _
  | b::r,k,e=>by
    unfold keepAll
    refine Nat.le_trans (keepAll_len num r (k+1) _) ?_
    split
    · have:=keepE_len e.early (plus num k) b
      simp only [List.length_cons]
      omega
    · simp only [List.length_cons]; omega
theorem keepFin_early (e:EndS) (s:Seg):(keepFin e s).early=e.early:=by
  unfold keepFin
  split
  · rfl
  · split<;>rfl
theorem keepData_len (e:EndS) (s:Seg):(keepData e s).early.length≤e.early.length+s.data.length:=by
  unfold keepData
  split<;>exact keepAll_len ..
theorem keepAll_come (num:Int):∀(r:List Int) (k:Nat) (e:EndS),(keepAll e num k r).come=e.come
  | [],k,e=>rfl
  | b::r,k,e=>by
    unfold keepAll
    rw [keepAll_come num r (k+1) _]
    split<;>rfl
theorem keepFin_come (e:EndS) (s:Seg):(keepFin e s).come=e.come:=by
  unfold keepFin
  split
  · rfl
  · split<;>rfl
theorem keepData_come (e:EndS) (s:Seg):(keepData e s).come=e.come:=by
  unfold keepData
  split<;>exact keepAll_come ..
theorem t_hear_stream (h:l+3 < θ.length) (hc:e.come.length≤64) (hl:e.early.length+s.data.length<200):p_hear_stream [.ref l,s.d,.int now] (upE θ l e)=.ok .non (upE θ l (hearStream' e s now)):=by
  unfold hearStream'
  by_cases c:e.state=.opn∨e.state=.waitOne∨e.state=.waitTwo
  · rw [if_pos c]
    have k1:=t_keep_data (e:=e) (s:=s) h (by omega)
    have k2:=t_keep_fin (e:=keepData e s) (s:=s) h
    have k3:=t_draw_in_order (e:=keepFin (keepData e s) s) h (by rw [keepFin_come,keepData_come]; exact hc) (by rw [keepFin_early]; have:=keepData_len e s; omega)
    have k4:drawIn' (keepFin (keepData e s) s)=streamed e s:=rfl
    rw [k4] at k3
    obtain ⟨e3,he3⟩:∃q,q=streamed e s:=⟨_,rfl⟩
    rw [←he3] at k3 ⊢
    have c':e.state∈[State.opn,.waitOne,.waitTwo]:=by simpa using c
    by_cases c2:e3.early_fin=some e3.rcv
    · simp [p_hear_stream,b_p_hear_stream,b_p_hear_stream_1,h,c,k1,k2,k3,b_p_hear_stream_2,c2]
    · simp [p_hear_stream,b_p_hear_stream,b_p_hear_stream_1,h,c,k1,k2,k3,b_p_hear_stream_2,c2]
  · rw [if_neg c]
    simp [p_hear_stream,b_p_hear_stream,b_p_hear_stream_1,h,c]
def comeStream' (e:EndS) (s:Seg) (now:Int):EndS:=
  if fitsE e s=false then turnAway e s now
  else if bears s 4=true then hearReset e s
  else if bears s 2=true then { e with owes_answer:=true }
  else if bears s 16=true then (if (goesOn e s now).1=true then hearStream' (goesOn e s now).2 s now else (goesOn e s now).2)
  else e
theorem goesOn_early (e:EndS) (s:Seg) (now:Int):(goesOn e s now).2.early=e.early:=by
  unfold goesOn
  split
  · unfold answeredSyn
    split
    · unfold oweReset; split<;>rfl
    · rfl
  · split
    · rfl
    · show (endAcked (hearAnswer e s now) now).early=e.early
      have h1:(heardOn e s now).early=e.early:=by
        unfold heardOn
        split
        · split<;>rfl
        · rfl
      have h2:(hearAnswer e s now).early=e.early:=by
        unfold hearAnswer
        simp only
        split
        · exact h1
        · split
          · split<;>exact h1
          · split<;>exact h1
      unfold endAcked
      split
      · exact h2
      · split
        · exact h2
        · split
          · exact h2
          · split<;>exact h2
theorem goesOn_come (e:EndS) (s:Seg) (now:Int):(goesOn e s now).2.come=e.come:=by
  unfold goesOn
  split
  · unfold answeredSyn
    split
    · unfold oweReset; split<;>rfl
    · rfl
  · split
    · rfl
    · show (endAcked (hearAnswer e s now) now).come=e.come
      have h1:(heardOn e s now).come=e.come:=by
        unfold heardOn
        split
        · split<;>rfl
        · rfl
      have h2:(hearAnswer e s now).come=e.come:=by
        unfold hearAnswer
        simp only
        split
        · exact h1
        · split
          · split<;>exact h1
          · split<;>exact h1
      unfold endAcked
      split
      · exact h2
      · split
        · exact h2
        · split
          · exact h2
          · split<;>exact h2
theorem t_come_to_stream (h:l+3 < θ.length) (hc:e.come.length≤64) (hl:e.early.length+s.data.length<200):p_come_to_stream [.ref l,s.d,.int now] (upE θ l e)=.ok .non (upE θ l (comeStream' e s now)):=by
  unfold comeStream'
  by_cases c1:fitsE e s=true
  · by_cases c2:bears s 4=true
    · simp [p_come_to_stream,b_p_come_to_stream,b_p_come_to_stream_4,b_p_come_to_stream_3,h,c1,c2]
    · by_cases c3:bears s 2=true
      · simp [p_come_to_stream,b_p_come_to_stream,b_p_come_to_stream_4,b_p_come_to_stream_3,b_p_come_to_stream_2,h,c1,c2,c3]
      · by_cases c4:bears s 16=true
        · have hs:=t_hear_stream (e:=(goesOn e s now).2) (s:=s) (now:=now) h (by rw [goesOn_come]; exact hc) (by rw [goesOn_early]; exact hl)
          by_cases c5:(goesOn e s now).1=true
          · simp [p_come_to_stream,b_p_come_to_stream,b_p_come_to_stream_4,b_p_come_to_stream_3,b_p_come_to_stream_2,b_p_come_to_stream_1,h,c1,c2,c3,c4,c5,hs]
          · simp [p_come_to_stream,b_p_come_to_stream,b_p_come_to_stream_4,b_p_come_to_stream_3,b_p_come_to_stream_2,b_p_come_to_stream_1,h,c1,c2,c3,c4,c5]
        · simp [p_come_to_stream,b_p_come_to_stream,b_p_come_to_stream_4,b_p_come_to_stream_3,b_p_come_to_stream_2,b_p_come_to_stream_1,h,c1,c2,c3,c4]
  · simp [p_come_to_stream,b_p_come_to_stream,b_p_come_to_stream_4,h,c1]
theorem t_arrive_stream (h:l+3 < θ.length) (hc:e.come.length≤64) {r:List Int} (hb:Byt r) (hr:isRight r=true) (hf:isFor e (getSeg r)=true) (hl:e.early.length+(getSeg r).data.length<200) (h1:¬e.state=.closed) (h2:¬e.state=.listen) (h3:¬e.state=.synSent):p_arrive [.ref l,il r,.int now] (upE θ l e)=.ok (.bl true) (upE θ l (comeStream' e (getSeg r) now)):=by
  simp [p_arrive,b_p_arrive,b_p_arrive_1,b_p_arrive_2,b_p_arrive_5,b_p_arrive_4,b_p_arrive_3,t_is_right hb,hr,t_get hb hr,h,hf,h1,h2,h3,t_come_to_stream h hc hl]
def comes (e:EndS) (s:Seg) (now:Int):EndS:=
  match e.state with
  | .closed=>oweReset e s
  | .listen=>comeListen e s
  | .synSent=>comeSynSent e s now
  | _=>comeStream' e s now
theorem t_arrive_put (h:l+3 < θ.length) (hc:e.come.length≤64) (hs:s.Ok) (hf:isFor e s=true) (hl:e.early.length<150):p_arrive [.ref l,il (putL s),.int now] (upE θ l e)=.ok (.bl true) (upE θ l (comes e s now)):=by
  have hb:=put_byt hs.put
  have hr:=put_right hs
  have hg:=get_put hs
  have hd:s.data.length≤16:=hs.data.2
  unfold comes
  cases c:e.state
  · simp only
    rw [t_arrive_closed h hb hr (by rw [hg]; exact hf) c,hg]
  · simp only
    rw [t_arrive_listen h hb hr (by rw [hg]; exact hf) c,hg]
  · simp only
    rw [t_arrive_synSent h hb hr (by rw [hg]; exact hf) c,hg]
  all_goals
    simp only
    rw [t_arrive_stream h hc hb hr (by rw [hg]; exact hf) (by rw [hg]; omega) (by rw [c]; decide) (by rw [c]; decide) (by rw [c]; decide),hg]
def canWrite (e:EndS):Bool:=!e.has_closed && decide (e.state∈[State.synSent,.synCome,.opn,.closeWait])
def wrote (e:EndS) (r:List Int):List Int:=cutL r none (some (64-(e.written.length:Int)))
def writeE (e:EndS) (r:List Int):EndS:=if canWrite e=true then { e with written:=e.written++wrote e r,behind:=plus e.behind (wrote e r).length } else e
theorem t_write (h:l+3 < θ.length) (hc:e.written.length≤64) (r:List Int):p_write [.ref l,il r] (upE θ l e)=.ok (.int (if canWrite e=true then (wrote e r).length else 0)) (upE θ l (writeE e r)):=by
  have hw:wrote e r=cutL r none (some (64-(e.written.length:Int))):=rfl
  unfold writeE canWrite
  by_cases c:e.has_closed=true
  · simp [p_write,b_p_write,b_p_write_1,h,c]
  · by_cases c2:e.state∈[State.synSent,.synCome,.opn,.closeWait]
    · have c2':e.state=State.synSent∨e.state=State.synCome∨e.state=State.opn∨e.state=State.closeWait:=by simpa using c2
      simp [p_write,b_p_write,b_p_write_1,h,c,c2',←hw,t_layW h hc]
    · have c2':¬(e.state=State.synSent∨e.state=State.synCome∨e.state=State.opn∨e.state=State.closeWait):=by simpa using c2
      simp [p_write,b_p_write,b_p_write_1,h,c,c2']
def readE (e:EndS) (n:Int):EndS:=
  if ourWindow e=0∧0<ourWindow { e with come:=e.come.drop n.toNat }∧e.state∈[State.opn,.waitOne,.waitTwo] then { e with come:=e.come.drop n.toNat,owes_answer:=true } else { e with come:=e.come.drop n.toNat }
theorem t_read (h:l+3 < θ.length):p_read [.ref l,.int n] (upE θ l e)=.ok (il (e.come.take n.toNat)) (upE θ l (readE e n)):=by
  have tk:=t_take2 (θ:=θ) (l:=l) (e:=e) (n:=n) h
  obtain ⟨e1,he1⟩:∃q:EndS,q={ e with come:=e.come.drop n.toNat }:=⟨_,rfl⟩
  obtain ⟨k1,hk1⟩:∃q,q=il (e.come.take n.toNat):=⟨_,rfl⟩
  have s1:e.state=e1.state:=by rw [he1]
  unfold readE
  have e2:({ e with come:=e.come.drop n.toNat,owes_answer:=true }:EndS)={ e1 with owes_answer:=true }:=by rw [he1]
  rw [e2,←he1,←hk1,s1]
  rw [←he1,←hk1] at tk
  by_cases c1:ourWindow e=0
  · by_cases c2:0<ourWindow e1
    · by_cases c3:e1.state∈[State.opn,.waitOne,.waitTwo]
      · have c3':e1.state=State.opn∨e1.state=State.waitOne∨e1.state=State.waitTwo:=by simpa using c3
        simp [p_read,b_p_read,b_p_read_1,h,tk,c1,c2,c3']
      · have c3':¬(e1.state=State.opn∨e1.state=State.waitOne∨e1.state=State.waitTwo):=by simpa using c3
        simp [p_read,b_p_read,b_p_read_1,h,tk,c1,c2,c3']
    · simp [p_read,b_p_read,b_p_read_1,h,tk,c1,c2]
  · simp [p_read,b_p_read,b_p_read_1,h,tk,c1]
end
end
end My
set_option Elab.async false
set_option linter.all false
set_option maxRecDepth 100000
set_option maxHeartbeats 4000000
namespace My
open PySem L2 L2.MM
noncomputable section
theorem off_plus {n k:Int} (h : -2147483648≤k∧k<2147483648):offset (plus n k) n=k:=by
  unfold offset plus; omega
theorem off_plus2 {n j k:Int} (h : -2147483648≤j-k∧j-k<2147483648):offset (plus n j) (plus n k)=j-k:=by
  unfold offset plus; omega
theorem off_minus {n k:Int} (h : -2147483648<k∧k≤2147483648):offset n (plus n k) = -k:=by
  unfold offset plus; omega
@[simp] theorem off_self (n:Int):offset n n=0:=by
  unfold offset; omega
@[simp] theorem past_self (n:Int):pastB n n=false:=by simp [pastB]
theorem plus_plus (n j k:Int):plus (plus n j) k=plus n (j+k):=by
  unfold plus; omega
theorem plus_in (n k:Int):0≤plus n k∧plus n k≤4294967295:=by
  unfold plus; omega
theorem plus_zero {n:Int} (h:0≤n∧n≤4294967295):plus n 0=n:=by
  unfold plus; omega
theorem plus_ne {n k:Int} (h:0<k∧k<4294967296):¬plus n k=n:=by
  unfold plus; omega
theorem plus_inj {n j k:Int} (h:0≤j∧0≤k∧j<4294967296∧k<4294967296):plus n j=plus n k↔j=k:=by
  unfold plus; omega
def rowE (num:Int):Nat→List Int→EL
  | _,[]=>[]
  | k,b::r=>(plus num k,b)::rowE num (k+1) r
theorem atE_cons (p:Int×Int) (m:EL) (n:Int):atE (p::m) n=if p.1=n then some p.2 else atE m n:=by
  unfold atE
  by_cases h:p.1=n<;>simp [h]
theorem atE_app (m m':EL) (n:Int) (h:atE m n=none):atE (m++m') n=atE m' n:=by
  induction m with
  | nil=>rfl
  | cons p r ih=>
    rw [atE_cons] at h
    rw [List.cons_append,atE_cons]
    by_cases e:p.1=n
    · rw [if_pos e] at h; cases h
    · rw [if_neg e] at h ⊢
      exact ih h
theorem atE_row (num:Int):∀(r:List Int) (k j:Nat),j<k→k+r.length<4294967296→atE (rowE num k r) (plus num j)=none
  | [],k,j,_,_=>rfl
  | b::r,k,j,h,hl=>by
    have hl':k+r.length+1<4294967296:=by simpa [Nat.add_assoc] using hl
    rw [rowE,atE_cons,if_neg (by rw [plus_inj (by omega)]; omega)]
    exact atE_row num r (k+1) j (by omega) (by omega)
theorem dropE_none (m:EL) (n:Int) (h:atE m n=none):dropE m n=m:=by
  induction m with
  | nil=>rfl
  | cons p r ih=>
    rw [atE_cons] at h
    by_cases e:p.1=n
    · rw [if_pos e] at h; cases h
    · rw [if_neg e] at h
      unfold dropE at *
      rw [List.filter_cons_of_pos (by simp [e]),ih h]
theorem dropE_row (num b:Int) (r:List Int) (k:Nat) (hl:k+1+r.length<4294967296):dropE ((plus num k,b)::rowE num (k+1) r) (plus num k)=rowE num (k+1) r:=by
  have:=dropE_none (rowE num (k+1) r) (plus num k) (atE_row num r (k+1) k (by omega) hl)
  unfold dropE at *
  rw [List.filter_cons_of_neg (by simp),this]
theorem keepAll_in (num:Int):∀(r:List Int) (k:Nat) (e:EndS),k+r.length<4294967296→(∀i:Nat,k≤i→i<k+r.length→inWin e (plus num i)=true∧atE e.early (plus num i)=none)→keepAll e num k r={ e with early:=e.early++rowE num k r }
  | [],k,e,_,_=>by simp [keepAll,rowE]
  | b::r,k,e,hl,h=>by
    have hl':k+r.length+1<4294967296:=by simpa [Nat.add_assoc] using hl
    obtain ⟨h1,h2⟩:=h k (Nat.le_refl _) (by simp)
    unfold keepAll
    rw [if_pos h1]
    have h3:keepE e.early (plus num k) b=e.early++[(plus num k,b)]:=by unfold keepE; rw [h2]
    rw [h3,keepAll_in num r (k+1) _ (by omega)]
    · simp [rowE]
    · intro i hi hj
      obtain ⟨g1,g2⟩:=h i (by omega) (by simp; omega)
      refine ⟨g1,?_⟩
      show atE (e.early++[(plus num k,b)]) (plus num i)=none
      rw [atE_app _ _ _ g2,atE_cons,if_neg (by rw [plus_inj (by omega)]; omega)]
      rfl
theorem drawn_in (num:Int):∀(r:List Int) (k n:Nat) (e:EndS),k+r.length<4294967296→r.length<n→e.rcv=plus num k→e.early=rowE num k r→(∀i:Nat,k≤i→i<k+r.length→¬e.early_fin=some (plus num i))→drawn n e=(r,{ e with early:=[],rcv:=plus num (k+r.length:Nat) })
  | [],k,0,e,_,hn,_,_,_=>by simp at hn
  | [],k,n+1,e,_,_,h1,h2,_=>by
    unfold drawn
    have:atE e.early e.rcv=none:=by rw [h2]; rfl
    have he:e={ e with early:=[],rcv:=plus num k }:=by
      obtain ⟨_⟩:=e
      simp only [rowE] at h1 h2
      subst h1 h2
      rfl
    split
    · simpa using he
    · rw [this]
      simpa using he
  | b::r,k,0,e,_,hn,_,_,_=>by simp at hn
  | b::r,k,n+1,e,hl,hn,h1,h2,h3=>by
    have hl':k+r.length+1<4294967296:=by simpa [Nat.add_assoc] using hl
    have hn':r.length<n:=by simpa using hn
    unfold drawn
    rw [if_neg (by rw [h1]; exact h3 k (Nat.le_refl _) (by simp))]
    have:atE e.early e.rcv=some b:=by rw [h2,h1,rowE,atE_cons]; simp
    rw [this]
    simp only
    have g:=drawn_in num r (k+1) n { e with early:=dropE e.early e.rcv,rcv:=plus e.rcv 1 } (by omega) hn' (by show plus e.rcv 1=_; rw [h1,plus_plus]; simp) (by show dropE e.early e.rcv=_; rw [h2,h1,rowE,dropE_row _ _ _ _ (by omega)]) (fun i hi hj=>h3 i (by omega) (by simp; omega))
    rw [g]
    simp [Nat.add_assoc,Nat.add_comm 1]
theorem cut_all {r:List Int} {k:Int} (h:(r.length:Int)≤k):cutL r none (some k)=r:=by
  rw [cut_to r (by omega)]
  exact List.take_of_length_le (by omega)
theorem streamed_in {e:EndS} {s:Seg} (hd:s.data.length≤16) (hn:s.num=e.rcv) (hr:0≤e.rcv∧e.rcv≤4294967295) (he:e.early=[]) (hf:e.early_fin=none) (hw:e.come.length+s.data.length+(if bears s 1=true then 1 else 0)≤64) :
    streamed e s={ e with come:=e.come++s.data,rcv:=plus e.rcv s.data.length,owes_answer:=e.owes_answer || decide (0<s.data.length) || bears s 1,early_fin:=if bears s 1=true then some (plus e.rcv s.data.length) else none }:=by
  have w:∀i:Nat,i<s.data.length∨(i=s.data.length∧bears s 1=true)→inWin e (plus e.rcv i)=true:=by
    intro i hi
    unfold inWin ourWindow
    rw [off_plus (by omega)]
    have:(i:Int)<64-e.come.length:=by
      rcases hi with hi | ⟨rfl,hi⟩
      · omega
      · rw [if_pos hi] at hw; omega
    simp; omega
  have k1:keepAll e s.num 0 s.data={ e with early:=rowE e.rcv 0 s.data }:=by
    rw [hn,keepAll_in e.rcv s.data 0 e (by omega) (fun i _ hi=>⟨w i (.inl (by omega)),by rw [he]; rfl⟩),he]
    rfl
  have k2:keepData e s={ e with early:=rowE e.rcv 0 s.data,owes_answer:=e.owes_answer || decide (0<s.data.length) }:=by
    unfold keepData
    rw [k1]
    by_cases c:0<s.data.length
    · rw [if_pos c]; simp [c]
    · rw [if_neg c]; simp [c]
  obtain ⟨oa,hoa⟩:∃x,x=(e.owes_answer || decide (0<s.data.length)):=⟨_,rfl⟩
  rw [←hoa] at k2 ⊢
  have k3:keepFin (keepData e s) s={ e with early:=rowE e.rcv 0 s.data,owes_answer:=oa || bears s 1,early_fin:=if bears s 1=true then some (plus e.rcv s.data.length) else none }:=by
    rw [k2]
    unfold keepFin
    by_cases c:bears s 1=true
    · have iw:inWin ({ e with early:=rowE e.rcv 0 s.data,owes_answer:=oa }) (plus s.num s.data.length)=true:=by
        rw [hn]; exact w _ (.inr ⟨rfl,c⟩)
      rw [if_neg (by simp [c]),if_pos ⟨hf,iw⟩,hn]
      simp [c]
    · rw [if_pos (by simpa using c)]
      simp [c,hf]
  unfold streamed drawIn'
  rw [k3]
  obtain ⟨bf,hbf⟩:∃x,x=bears s 1:=⟨_,rfl⟩
  rw [←hbf]
  rw [drawn_in e.rcv s.data 0 200 _ (by omega) (by omega) (by simpa using (plus_zero hr).symm) rfl (by
    intro i _ hi
    simp only
    cases bf
    · simp
    · simp only [if_true,Option.some.injEq]
      rw [plus_inj (by omega)]
      omega)]
  unfold layCome
  simp only
  rw [cut_all (by unfold ourWindow; simp only; split at hw<;>omega)]
  simp [he]
end
end My
set_option Elab.async false
set_option linter.all false
set_option maxRecDepth 100000
set_option maxHeartbeats 4000000
namespace My
open PySem L2 L2.MM
noncomputable section
@[simp] theorem bit_1 {f:Int} (h0:0≤f) (h1:f≤31):bit f 1=f % 2:=(bits ⟨h0,h1⟩).1
@[simp] theorem bit_2 {f:Int} (h0:0≤f) (h1:f≤31):bit f 2=f/2 % 2:=(bits ⟨h0,h1⟩).2.1
@[simp] theorem bit_4 {f:Int} (h0:0≤f) (h1:f≤31):bit f 4=f/4 % 2:=(bits ⟨h0,h1⟩).2.2.1
@[simp] theorem bit_16 {f:Int} (h0:0≤f) (h1:f≤31):bit f 16=f/16 % 2:=(bits ⟨h0,h1⟩).2.2.2.2
@[simp] theorem bears_mk {a b c d f w m k:Int} {x:List Int}:bears ⟨a,b,c,d,f,w,m,x⟩ k=decide (bit f k=1):=rfl
@[simp] theorem lenS_mk {a b c d f w m:Int} {x:List Int}:lenS ⟨a,b,c,d,f,w,m,x⟩=x.length+bit f 2+bit f 1:=rfl
def rowOf:Option Seg→List Int
  | none=>[]
  | some s=>putL s
@[simp] theorem rowOf_none:rowOf none=[]:=rfl
@[simp] theorem rowOf_some (s:Seg):rowOf (some s)=putL s:=rfl
theorem send_of {base:Sto} {l:Nat} {e:EndS} {t:Int} {r:Option Seg} {e':EndS} (hl:l+3<base.length) (g:going e t=(r,e')) (hp:∀s,r=some s→s.Put):p_send [.ref l,.int t] (upE base l e)=.ok (il (rowOf r)) (upE base l e'):=by
  rw [t_send hl (by rw [g]; exact hp),g]
  unfold sendRow
  rw [g]
  cases r<;>rfl
theorem send_none {base:Sto} {l:Nat} {e:EndS} {t:Int} {e':EndS} (hl:l+3<base.length) (g:going e t=(none,e')):p_send [.ref l,.int t] (upE base l e)=.ok (il []) (upE base l e'):=send_of hl g (fun s h=>by cases h)
theorem send_some {base:Sto} {l:Nat} {e:EndS} {t:Int} {e':EndS} {s:Seg} (hl:l+3<base.length) (g:going e t=(some s,e')) (hp:s.Ok):p_send [.ref l,.int t] (upE base l e)=.ok (il (putL s)) (upE base l e'):=send_of hl g (fun s h=>by cases h; exact hp.put)
def synE (a b f g W m:Int):EndS:={ newEnd a b f false with state:=.synCome,rcv:=plus g 1,wnd:=W,told:=g,told_by:=0,most:=if m=0 then 12 else m }
def synE' (a b f g W m t:Int):EndS:={ synE a b f g W m with nxt:=plus f 1,since:=t }
def openE (a b f g W m t:Int):EndS:={ newEnd a b f false with state:=.opn,una:=plus f 1,nxt:=plus f 1,rcv:=plus g 1,wnd:=W,told:=plus g 1,told_by:=plus f 1,most:=if m=0 then 12 else m,since:=t }
section
variable {a b f g W m t t' x:Int} {ex:List Int} {fl:Int}
theorem open1 (hf:fl=2∨fl=3):comes (newEnd a x f false) ⟨b,a,g,0,fl,W,m,ex⟩ t=synE a b f g W m:=by
  rcases hf with rfl | rfl<;>simp [comes,newEnd,comeListen,hearSyn,synE]
theorem open2:going (synE a b f g W m) t=(some ⟨a,b,f,plus g 1,18,64,16,[]⟩,synE' a b f g W m t):=by
  simp [going,goingOn,goingAsNew,newSyn,newEnd,paidSyn,startTimer,synE,synE']
theorem open3 (h:t'-t<1000):going (synE' a b f g W m t) t'=(none,synE' a b f g W m t):=by
  have h1:¬(1000:Int)≤t'-t:=by omega
  have h2:¬plus f 1=f:=plus_ne (by omega)
  simp [going,goingOn,goingAsNew,goingAsProbe,goingAsAnswer,newEnd,synE,synE',isDue,h1,h2]
theorem open4:comes (synE' a b f g W m t) ⟨b,a,plus g 1,plus f 1,16,W,0,[]⟩ t'=openE a b f g W m t:=by
  have h2:¬plus f 1=f:=plus_ne (by omega)
  have ft:fitsE (synE' a b f g W m t) ⟨b,a,plus g 1,plus f 1,16,W,0,[]⟩=true:=by
    simp [fitsE,synE',synE,newEnd]
  have go:goesOn (synE' a b f g W m t) ⟨b,a,plus g 1,plus f 1,16,W,0,[]⟩ t'=(true,openE a b f g W m t):=by
    simp [goesOn,answeredSyn,synE',synE,newEnd,h2,takeWin,openE]
  have st:streamed (openE a b f g W m t) ⟨b,a,plus g 1,plus f 1,16,W,0,[]⟩=openE a b f g W m t:=by
    rw [streamed_in (by simp) rfl (plus_in _ _) rfl rfl (by simp [openE,newEnd])]
    simp [openE,newEnd,plus_plus]
  have hs:hearStream' (openE a b f g W m t) ⟨b,a,plus g 1,plus f 1,16,W,0,[]⟩ t'=openE a b f g W m t:=by
    unfold hearStream'
    rw [st]
    simp [openE,newEnd]
  have:comes (synE' a b f g W m t) ⟨b,a,plus g 1,plus f 1,16,W,0,[]⟩ t'=comeStream' (synE' a b f g W m t) ⟨b,a,plus g 1,plus f 1,16,W,0,[]⟩ t':=rfl
  rw [this]
  unfold comeStream'
  rw [ft,go,hs]
  simp
end
section
variable {θ:Sto} {l:Nat} {e:EndS} {s:Seg} {now n:Int}
theorem t_lsegment {a b n k f w:Int} {x:List Int} (θ:Sto):l_segment [.tup [.int a,.int b],.int n,.int k,.int f,.int w,il x] θ=.ok (Seg.mk b a n k f w 0 x).d θ:=by
  simp [l_segment,b_l_segment,seg_d]
theorem ok_mk {a b n k f w m:Int} {x:List Int} (ha:0≤a∧a≤65535) (hb:0≤b∧b≤65535) (hn:0≤n∧n≤4294967295) (hk:0≤k∧k≤4294967295) (hf:0≤f∧f≤31) (hw:0≤w∧w≤65535) (hm:m=0∨(4≤m∧m≤65535∧f/2 % 2=1)) (hx:(∀z∈x,0≤z∧z≤255)∧x.length≤16):(Seg.mk a b n k f w m x).Ok:=⟨ha,hb,hn,hk,hf,hw,hm,hx⟩
theorem no_data:(∀z∈([]:List Int),0≤z∧z≤255)∧([]:List Int).length≤16:=⟨by simp,by simp⟩
theorem first_in {n:Int} (h:0≤n∧n≤4294967295):0≤firstOf n∧firstOf n≤4294967295:=by
  unfold firstOf
  split<;>omega
end
end
end My
set_option Elab.async false
set_option linter.all false
set_option maxRecDepth 100000
set_option maxHeartbeats 4000000
namespace My
open PySem L2 L2.MM
noncomputable section
end
end My
set_option Elab.async false
set_option linter.all false
set_option maxRecDepth 100000
set_option maxHeartbeats 4000000
namespace My
open PySem L2 L2.MM
noncomputable section
inductive Gives (t:Int):EndS→List Seg→EndS→Prop
  | nil {e e':EndS} (h:going e t=(none,e')):Gives t e [] e'
  | cons {e e1 e':EndS} {s:Seg} {r:List Seg} (h:going e t=(some s,e1)) (hs:s.Ok) (hr:Gives t e1 r e'):Gives t e (s::r) e'
section
variable {θ:Sto} {l:Nat} {t:Int}
end
end
end My
set_option Elab.async false
set_option linter.all false
set_option maxRecDepth 100000
set_option maxHeartbeats 4000000
namespace My
open PySem L2 L2.MM
noncomputable section
theorem comp_int {nE:EM} {src:List Nat} {elt:EM} {ρ:List Sl} {θ:Sto} {j:Int} (F:Nat→Int) (hn:nE ρ θ=.ok (.int j) θ) (h0:0≤j) (h1:j≤1000) (he:∀i:Nat,i<j.toNat→elt (inEnv src ρ (.int (i:Int))) θ=.ok (.int (F i)) θ) :
    mComp (mRng1 (mCons nE mNil)) src elt ρ θ=.ok (il ((List.range j.toNat).map F)) θ:=by
  have:=mComp_rng (ρ:=ρ) (θ:=θ) (fi:=mRng1 (mCons nE mNil)) (src:=src) (elt:=elt) (lo:=0) (n:=j.toNat) (θ':=θ) (fun k=>.int (F k.toNat)) (by simp [hn]; omega) (by simp [BIG]; omega) (by
    intro i hi
    simpa using he i hi)
  rw [this]
  simp [il]
theorem open5 {a b f g W m t t':Int}:going (openE a b f g W m t) t'=(none,openE a b f g W m t):=by
  simp [going,goingOn,goingAsNew,goingAsProbe,goingAsAnswer,openE,newEnd,hasMore,hasNewData,hasNewFin,unsent]
end
end My
namespace PySem.W.Fast
def tw5590364950609652768:=0
def tw3037839770928715904:=0
def tw5618033283947889856:=0
def tw14725710658568223936:=0
def tw13464544770323576032:=0
def tw8454543351411843360:=0
def tw5695407859782108480:=0
def tw12841668866938535296:=0
def tw14391815614831763872:=0
def tw2696218337603371520:=0
def tw13946191923853865536:=0
def tw6481804909961881152:=0
def tw16304843764870755968:=0
def tw7142694043246587616:=0
def tw75735240169877248:=0
def tw14535543381858027264:=0
def tw13179500645404597056:=0
def tw10723096772320096:=0
def tw11266472766764779424:=0
def tw15830088747205906336:=0
def tw4845968411308096448:=0
def tw12004798888384544736:=0
def tw568093204270890017:=0
def tw11887305112421740641:=0
def tw4454478590997565569:=0
def tw9609262271270086881:=0
def tw10946750987540181249:=0
def tw16474490826263819521:=0
def tw9721055410143205665:=0
def tw9834424354671066401:=0
def tw2281532472660950401:=0
def tw7775697318251178433:=0
def tw1588567182518888929:=0
def tw1889721611320236513:=0
def tw616295496280647169:=0
def tw18222374592684853793:=0
def tw12773239249866667585:=0
def tw5103698180224872033:=0
def tw10690027289217290881:=0
def tw2641712119322377953:=0
def tw7792250310822620929:=0
def tw9695285552907320129:=0
def tw8408981491158943553:=0
def tw10242406987518739329:=0
def tw16600241625070071713:=0
def tw2218953303417207745:=0
def tw6255707051538785249:=0
def tw123236342897181698:=0
def tw9198611361890125826:=0
def tw5755337876906676386:=0
def tw9071951445685996770:=0
def tw10133048520124306722:=0
def tw18276911861278062914:=0
def tw1271321053050749282:=0
def tw11134408166993870242:=0
def tw9729755632814747042:=0
def tw11749882916665890242:=0
def tw7020412518527654370:=0
def tw15703408725830373954:=0
def tw2747276193917442658:=0
def tw2986761296271017698:=0
def tw12540611814535610242:=0
def tw2724995204323875810:=0
def tw4930265958520365026:=0
def tw5741032617658389539:=0
def tw3885932935749257283:=0
def tw17510977214713319555:=0
def tw5256618594072592707:=0
def tw14579235585246573891:=0
def tw1418598878380003651:=0
def tw3239088683468521827:=0
def tw4085192857583894883:=0
def tw11813741122410686915:=0
def tw18131545625418177987:=0
def tw2277342852274772451:=0
def tw7819406600006224387:=0
def tw11520334859067146787:=0
def tw4347799713403136547:=0
def tw3711856547121570499:=0
def tw1740056780672607971:=0
def tw6082557203756325667:=0
def tw2694885581723315075:=0
def tw14223776436257376131:=0
def tw12851378161909758883:=0
def tw9802678014401193891:=0
def tw15334218616984541123:=0
def tw955136165381492675:=0
def tw10464093567172150243:=0
def tw16834292737509472324:=0
def tw2484196906537439300:=0
def tw13073683634313176164:=0
def tw17174308495812180068:=0
def tw14331377380839259364:=0
def tw1541914835032059140:=0
def tw10310472467235771716:=0
def tw9919163786666259876:=0
def tw8709408158379216324:=0
def tw9482886712942288324:=0
def tw8123354477813199332:=0
def tw10783923297620353540:=0
def tw11733564787288574500:=0
def tw10086480839843057220:=0
def tw17022151395448526436:=0
def tw4764204102831715940:=0
def tw10086219923772647044:=0
def tw9193528498312919684:=0
def tw16345598155022030468:=0
def tw14403751750296499844:=0
def tw5348408029424412324:=0
def tw10326190920442395364:=0
def tw7636564594936649476:=0
def tw7784646045691046660:=0
def tw15424203518949611300:=0
def tw3993137293166331844:=0
def tw8944052971528305604:=0
def tw16625439822270452708:=0
def tw17249252122254434276:=0
def tw12866238705478104036:=0
def tw16018909018586322021:=0
def tw10834117655685771429:=0
def tw11108824179743815845:=0
def tw5552370656942027013:=0
def tw5272734626728594725:=0
def tw11092755593206775109:=0
def tw2838108892208875845:=0
def tw10548574802756075877:=0
def tw1186509678628031845:=0
def tw1189740702470789477:=0
def tw11692656404245840261:=0
def tw10546371860225896965:=0
def tw5733854414938167941:=0
def tw16252220252200531589:=0
def tw13855386827066448613:=0
def tw2556937854437829349:=0
def tw13747048303590004453:=0
def tw9673024827713448709:=0
def tw1623360503920437029:=0
def tw11970735788735640357:=0
def tw14559886678925923141:=0
def tw13559792230456004453:=0
def tw9655946594660773733:=0
def tw16563939874219036549:=0
def tw10667397733728959397:=0
def tw7852150114999230437:=0
def tw18333259708939426822:=0
def tw3982942639403415590:=0
def tw14060568585992367174:=0
def tw7794410869703189638:=0
def tw11430381570231466118:=0
def tw4530430436526367910:=0
def tw10661677137278503110:=0
def tw3039081213136012550:=0
def tw12287067348044243334:=0
def tw17372757294619193734:=0
def tw4856658478355620262:=0
def tw9428973436520574406:=0
def tw10251543647755776454:=0
def tw8002310236564295174:=0
def tw5084674415300229766:=0
def tw15134053807114412678:=0
def tw9847382641650431622:=0
def tw8690833181057221286:=0
def tw17154717934338655910:=0
def tw4957701191764858534:=0
def tw2524723224696320710:=0
def tw12427793847553055526:=0
def tw8466537111641238374:=0
def tw12194382357361805254:=0
def tw5447038859141331910:=0
def tw13753207641606430694:=0
def tw11962551820514790439:=0
def tw12397115935115443239:=0
def tw1915025729509792839:=0
def tw7986070251304394983:=0
def tw13009275838873101543:=0
def tw15357926743480984839:=0
def tw14020325046031554919:=0
def tw12957773215866686823:=0
def tw15311232964276447623:=0
def tw11068364869497456039:=0
def tw5463280257198329255:=0
def tw19164766655184327:=0
def tw14163779453144413639:=0
def tw5484495500675892775:=0
def tw16927834262451628615:=0
def tw3616986054828850791:=0
def tw9671648300288803559:=0
def tw8207722117939515111:=0
def tw16685202863256851271:=0
def tw8066892162714566535:=0
def tw14430307822563053447:=0
def tw11608674328739586983:=0
def tw1605036354732702631:=0
def tw7990316585811272712:=0
def tw4483368254717167752:=0
def tw4812620160828867752:=0
def tw8148227427010084104:=0
def tw10133218981643147624:=0
def tw10464946694329641352:=0
def tw402476108967768456:=0
def tw2233811784461852072:=0
def tw13609380190994882216:=0
def tw3866482645474219720:=0
def tw5690619825757700840:=0
def tw18136739101879578344:=0
def tw7207867712860629768:=0
def tw9770958328822784776:=0
def tw843071794886869800:=0
def tw13373270454812632872:=0
def tw10207218220707573576:=0
def tw2721623416188568456:=0
def tw10566789822898964360:=0
def tw15734528894428273544:=0
def tw17760959570067297256:=0
def tw12064839976532714472:=0
def tw11806874563696524329:=0
def tw1574111674686554185:=0
def tw12076171102394675337:=0
def tw210867589555767433:=0
def tw15656967029857038505:=0
def tw8833140851566337257:=0
def tw13653664661321182441:=0
def tw11306792241235341705:=0
def tw9619757177713523177:=0
def tw9785030990965066313:=0
def tw9065413348095478345:=0
def tw7710081585967418953:=0
def tw17677346606231367337:=0
def tw5795491897240139433:=0
def tw8739019614209649353:=0
def tw9333353630026473:=0
def tw5336640589792770793:=0
def tw12825310887328320329:=0
def tw3575346745371958089:=0
def tw1304359918853786537:=0
def tw15435904131323804617:=0
def tw9775624014708432841:=0
def tw112437466444470249:=0
def tw7296551378021664745:=0
def tw14499976178768256010:=0
def tw6427712469756177450:=0
def tw966883467814094890:=0
def tw112139124133847146:=0
def tw4913071950848810154:=0
def tw16176167368244809898:=0
def tw17688063166833301706:=0
def tw12379112943670999274:=0
def tw16228405838608597258:=0
def tw12273330730857299242:=0
def tw12812441155094449514:=0
def tw16785521087344893354:=0
def tw6116565904829541802:=0
def tw1775820746209434058:=0
def tw2304528456798129610:=0
def tw1306612296489008586:=0
def tw15366072750930865770:=0
def tw15354964062464261770:=0
def tw10345477613746788010:=0
def tw7855220457808188106:=0
def tw5676658747255319242:=0
def tw10933549037644308234:=0
def tw16924081646611783434:=0
def tw8970737019466349322:=0
def tw18436657088440013610:=0
def tw2529164412957890378:=0
def tw4009623427025733546:=0
def tw13235522187075210186:=0
def tw1183436053088201771:=0
def tw11226682119113283627:=0
def tw14135412832672243787:=0
def tw8636963962474793099:=0
def tw11359932266595362987:=0
def tw11659152976666148011:=0
def tw16803490585607192747:=0
def tw11069083214539602155:=0
def tw6145678061527199051:=0
def tw7848561814887909803:=0
def tw17495017444127045163:=0
def tw4898479134155089611:=0
def tw11779193641462014667:=0
def tw11161012001117837003:=0
def tw5918107666195763019:=0
def tw8940350247487311723:=0
def tw3052125257200172939:=0
def tw7421535566981900235:=0
def tw15611485914346529804:=0
def tw12711635006280931372:=0
def tw14075582884141672492:=0
def tw16689852683284930764:=0
def tw16167669403960830188:=0
def tw5387013536997934380:=0
def tw7786626092513847628:=0
def tw14827178817755986252:=0
def tw11575188430677081452:=0
def tw9931435617515332012:=0
def tw614281543502789036:=0
def tw13337357554181574188:=0
def tw1289961947164811820:=0
def tw11771872139131672140:=0
def tw14646053437508375116:=0
def tw1947214439481719468:=0
def tw7605267312043093676:=0
def tw7844347441874799308:=0
def tw5862457510317338316:=0
def tw4824607025465055020:=0
def tw8651479580337221484:=0
def tw13972664709516213164:=0
def tw9352135098537548716:=0
def tw6567111556052287501:=0
def tw10658885610272523341:=0
def tw7525880797898687565:=0
def tw4610854954067996781:=0
def tw9690461510911083629:=0
def tw4522096735500867725:=0
def tw14192218221209057453:=0
def tw9952229481819666765:=0
def tw16000219248360489485:=0
def tw17145120242968117805:=0
def tw1859692697709633133:=0
def tw7568440346055819981:=0
def tw18161354300769658573:=0
def tw16036497148689986285:=0
def tw3704184281933131597:=0
def tw15771744976001975245:=0
def tw4449476953864464333:=0
def tw945200122631942254:=0
def tw15762283574829023342:=0
def tw15704991522155795630:=0
def tw18279510253600294094:=0
def tw5634180982337033614:=0
def tw16979066846061686158:=0
def tw12321859443865222574:=0
def tw10026689935953539502:=0
def tw3260210565606815310:=0
def tw7856472000708183630:=0
def tw3275245832701489870:=0
def tw2312992912883857230:=0
def tw6456443445792711598:=0
def tw14921317931339826094:=0
def tw9424623267529779118:=0
def tw15921486545818549198:=0
def tw679504267799813135:=0
def tw17602797233890194479:=0
def tw15226799791048829039:=0
def tw18216732984971349103:=0
def tw9749101093685812367:=0
def tw3777684212240863439:=0
def tw1633239985203474671:=0
def tw1864291765170997583:=0
def tw5375626777457288527:=0
def tw16667402756192637295:=0
def tw11401528579641034159:=0
def tw16316962170842693167:=0
def tw9974870805406731855:=0
def tw5741273495443951183:=0
def tw9129138932565708431:=0
def tw16029767897950461583:=0
def tw6749865272623476495:=0
def tw4447604336035906319:=0
def tw18077660733493098287:=0
def tw5004709533859729199:=0
def tw17417374465912167247:=0
def tw15422408875027398479:=0
def tw10787650785494988719:=0
def tw3683767108139233231:=0
def tw7805438530181971919:=0
def tw435667364170248175:=0
def tw4625234959950599184:=0
def tw2553380691306726448:=0
def tw8186704989068972080:=0
def tw13966072855736479824:=0
def tw3005774563675464848:=0
def tw6853098383453067408:=0
def tw15145573594967198896:=0
def tw14149655163464157424:=0
def tw7969651545502691568:=0
def tw227088332115709232:=0
def tw6158395169743921520:=0
def tw499707502253346192:=0
def tw3008131159975766416:=0
def tw14562912273301671408:=0
def tw4585451276334783984:=0
def tw8836455695551753744:=0
def tw4556513518802235920:=0
def tw14030109378349934128:=0
def tw16606228260245602896:=0
def tw8445849477922513520:=0
def tw15230647326895227536:=0
def tw17227444354189202160:=0
def tw11477092259712479984:=0
def tw6759255968077722352:=0
def tw17901533797585901296:=0
def tw2583698975229352752:=0
def tw9752709985887497072:=0
def tw9381738187533917136:=0
def tw3976642178900428784:=0
def tw11378500568088554513:=0
def tw4553583513806427153:=0
def tw9916517063501723729:=0
def tw10137739795540209745:=0
def tw769250321846998129:=0
def tw11510109942642415825:=0
def tw3074658666961557713:=0
def tw11895413557925496081:=0
def tw1896100227562456337:=0
def tw13444520501312503089:=0
def tw9540903240482809137:=0
def tw13238370697515040049:=0
def tw15349999719948554577:=0
def tw7588545339788280145:=0
def tw16837976728733335985:=0
def tw15674784413962195409:=0
def tw14554447915652305361:=0
def tw13533923892030381553:=0
def tw3398524074686727793:=0
def tw16145761391774735057:=0
def tw8678293271989383985:=0
def tw12018354501896843089:=0
def tw17447450972071291793:=0
def tw13214709928304272305:=0
def tw8841158618760459185:=0
def tw431155502988435441:=0
def tw2885050749869919282:=0
def tw10145562584243417170:=0
def tw16595004090970423378:=0
def tw13350337976303020114:=0
def tw18369375951060488370:=0
def tw2813806067632025810:=0
def tw17645979225067667698:=0
def tw1203058353028186386:=0
def tw16957075950604535090:=0
def tw16066426227666973074:=0
def tw4952049571583249842:=0
def tw10613775745630594578:=0
def tw16292668522905035346:=0
def tw17364677673179352690:=0
def tw16043177027462224498:=0
def tw5517355606526967442:=0
def tw16660302282128444050:=0
def tw8107015490136739602:=0
def tw13412064279171517234:=0
def tw11748046343056703282:=0
def tw17388409643781078866:=0
def tw3298372565242275698:=0
def tw17723797779210863602:=0
def tw7767139120920966227:=0
def tw11573624908768641139:=0
def tw13370808651399541939:=0
def tw17491495812001615059:=0
def tw6550031703868812531:=0
def tw3635496082878669075:=0
def tw15864255914064720147:=0
def tw12155090280361169299:=0
def tw4986105808564051379:=0
def tw5326441361766210035:=0
def tw16282472360945388019:=0
def tw2407465291609955891:=0
def tw8028460044127930995:=0
def tw8665609362708717267:=0
def tw5938087609163764499:=0
def tw15392382147008205619:=0
def tw3136840663186185236:=0
def tw3763839175277724724:=0
def tw6378683876325935156:=0
def tw4187979507381851188:=0
def tw7315220538712106068:=0
def tw9504420883406002484:=0
def tw368218198378882356:=0
def tw7256287941744290100:=0
def tw11546994622314376500:=0
def tw11127059136686340468:=0
def tw1988097410902191476:=0
def tw3011533067244957044:=0
def tw10236589855907287444:=0
def tw1971522855934211476:=0
def tw1657004884788011412:=0
def tw11248182033830342036:=0
def tw6710158809518714292:=0
def tw11569775482077304276:=0
def tw13262620091263187412:=0
def tw10116551154950004212:=0
def tw249938090661406228:=0
def tw10944104685010298516:=0
def tw7529923621581294260:=0
def tw16262247107840094900:=0
def tw13496234329614672596:=0
def tw15608997743373930228:=0
def tw2982789503499214612:=0
def tw8714917551857570612:=0
def tw8007244301144445876:=0
def tw8961815896453993493:=0
def tw1504493449314635861:=0
def tw1843770574486269013:=0
def tw13836560047783225493:=0
def tw18136091230767928565:=0
def tw13174257424328541525:=0
def tw14916158016072975733:=0
def tw11818223220030460373:=0
def tw2941146147088035285:=0
def tw5795454522934227445:=0
def tw3341550280523137621:=0
def tw7870722777497229909:=0
def tw11741895938103682869:=0
def tw2564723938695159701:=0
def tw7728125342860544981:=0
def tw1076504453298002966:=0
def tw4161569721537115158:=0
def tw239148425578997782:=0
def tw9892472466743670870:=0
def tw17318944754841501974:=0
def tw14085107239909905750:=0
def tw16648234085360374134:=0
def tw14921162196787649942:=0
def tw8781530069585967574:=0
def tw1688572165408986614:=0
def tw5733057295090307574:=0
def tw14586139135579597334:=0
def tw12459084818695078422:=0
def tw10002560742635300406:=0
def tw14838552633877831222:=0
def tw9949784003566623318:=0
def tw1788262521884676758:=0
def tw6277187210973650582:=0
def tw17526970120375149206:=0
def tw7651541145320113910:=0
def tw7522188464522418006:=0
def tw6535205450688775062:=0
def tw15378309592779391894:=0
def tw7301284103387905942:=0
def tw17867877553396255670:=0
def tw7086633194113245174:=0
def tw452495168394998774:=0
def tw17208306752712733686:=0
def tw8854917015760217143:=0
def tw13064064984821498967:=0
def tw11745070026818698391:=0
def tw15634535630684656951:=0
def tw2543501635722706263:=0
def tw10705898051262011767:=0
def tw15189351630966774135:=0
def tw6650256974779448759:=0
def tw5744847018932370903:=0
def tw8248887455486008887:=0
def tw11410478967228779063:=0
def tw15659117846679221847:=0
def tw4608843933395423895:=0
def tw10975634617149293239:=0
def tw968457940442218231:=0
def tw9357029736155453303:=0
def tw8545332592226987927:=0
def tw16522774728900262968:=0
def tw14847700669988887608:=0
def tw15430797837788560472:=0
def tw4052258558375763160:=0
def tw11022513794645026008:=0
def tw5213857704424767736:=0
def tw17406732995040538904:=0
def tw7398364524725293400:=0
def tw1246208549233024440:=0
def tw697715143709855192:=0
def tw9444640071945227768:=0
def tw600623080038377016:=0
def tw17701893115337099832:=0
def tw3455757950973501048:=0
def tw17793446765385131672:=0
def tw13538196250225590968:=0
def tw17825006542583586488:=0
def tw4475912121242565368:=0
def tw13349380023052470072:=0
def tw9646688488843629400:=0
def tw16331912663673855864:=0
def tw11767260418691637144:=0
def tw8603462150307365848:=0
def tw3517253330928043000:=0
def tw9493246339079643161:=0
def tw5760781351323576409:=0
def tw467077589436851321:=0
def tw14718767732987230329:=0
def tw5903893598734141593:=0
def tw5204331840070133913:=0
def tw7494514579191722169:=0
def tw16312310299169641721:=0
def tw9880293756850591065:=0
def tw5696631101206117753:=0
def tw14416112241641176441:=0
def tw5492020606202270073:=0
def tw17766086208606924281:=0
def tw4923952844751315449:=0
def tw9036009217115122169:=0
def tw16498824706719227417:=0
def tw14073729115663120921:=0
def tw7957328943909877337:=0
def tw5327156025262042745:=0
def tw2101348581664984793:=0
def tw3555410845589767929:=0
def tw13296097611995810553:=0
def tw8245985211594276601:=0
def tw7512929574013766457:=0
def tw2619432035088804665:=0
def tw14514137729152139065:=0
def tw6052835540225222457:=0
def tw5099381240761028441:=0
def tw7978533604937492313:=0
def tw18286157154128422745:=0
def tw14667574708550433625:=0
def tw2162664714103731065:=0
def tw13039572353894753177:=0
def tw15904035073998015385:=0
def tw6028431827934964665:=0
def tw2815569755640700954:=0
def tw7515459800306500794:=0
def tw6851491114918552826:=0
def tw2805548854247270682:=0
def tw8388366023308890426:=0
def tw14402468158588701018:=0
def tw9833565028618151290:=0
def tw15165533228054277498:=0
def tw7006004903541282202:=0
def tw5309366508842787290:=0
def tw2501602862785934842:=0
def tw12937727438971910650:=0
def tw4083676498105648634:=0
def tw10893940155855213082:=0
def tw1541445465103194650:=0
def tw8309110956132292186:=0
def tw4709448977103025818:=0
def tw16461255217393247962:=0
def tw11860277609537857306:=0
def tw18191717790124889914:=0
def tw245199206809172858:=0
def tw14660059359792929690:=0
def tw18247749882677767098:=0
def tw16012808830454919098:=0
def tw16201893747925459962:=0
def tw12810660265243729979:=0
def tw16086011376532377659:=0
def tw6498005553070770267:=0
def tw3759251514095967323:=0
def tw15713979463205468347:=0
def tw9819859144621958363:=0
def tw17789521952653235483:=0
def tw4697745643355756891:=0
def tw5889933752013692283:=0
def tw6619559723036758491:=0
def tw8692883226351289851:=0
def tw10840600892326129179:=0
def tw13064457018007066203:=0
def tw13154424929145607803:=0
def tw5298454147111836315:=0
def tw6162200828159831707:=0
def tw5130324790656465595:=0
def tw7565695101389295355:=0
def tw11479762159021772571:=0
def tw12948553669577125691:=0
def tw10649820617940873019:=0
def tw16889207211757206395:=0
def tw18197611079996252059:=0
def tw11383483669543842747:=0
def tw9574875796130870235:=0
def tw11615758021065610300:=0
def tw17673718921327942876:=0
def tw5394514201714037980:=0
def tw4155659306556560636:=0
def tw3208919748341216540:=0
def tw11097755428866922812:=0
def tw15712296077155151356:=0
def tw10549125448693800476:=0
def tw3507892327619058236:=0
def tw9353831527266231932:=0
def tw7094330878907182844:=0
def tw2963188688712282908:=0
def tw6669925575281618748:=0
def tw16351260339485164380:=0
def tw10881302787904157660:=0
def tw916296096163658716:=0
def tw9744748501625318396:=0
def tw1954806764770707452:=0
def tw3323430549962334237:=0
def tw15139513678138682461:=0
def tw9389076358304114877:=0
def tw7493655840631941373:=0
def tw5640164215550089469:=0
def tw3811868201961357629:=0
def tw6914823319459092797:=0
def tw3494922722282995069:=0
def tw6627868126749137341:=0
def tw13111167304659395005:=0
def tw13997645921409126877:=0
def tw2788805084607403517:=0
def tw554341952637249053:=0
def tw18333648988741134941:=0
def tw16064176237384107645:=0
def tw18414279192169811581:=0
def tw14715520494272273021:=0
def tw13377776497578110589:=0
def tw2212636062888983197:=0
def tw17386512019817628349:=0
def tw2896358240767907549:=0
def tw3360815169781798621:=0
def tw14890354482778424125:=0
def tw18436835274638040925:=0
def tw18055802626444807230:=0
def tw18406529018287285310:=0
def tw16222531194500631742:=0
def tw2997063256043978942:=0
def tw12919552893825407166:=0
def tw16099318919853708510:=0
def tw4130864253047420158:=0
def tw8931484544549370110:=0
def tw2135301547796298046:=0
def tw5769042325678083422:=0
def tw11067695297791258974:=0
def tw4340284379223063902:=0
def tw15392168973590860318:=0
def tw17347489562549987902:=0
def tw9797779412371043902:=0
def tw16663592459117917790:=0
def tw5397765411151272574:=0
def tw2224354537637578398:=0
def tw11658057760334306046:=0
def tw2779839051398384414:=0
def tw12983713264483547934:=0
def tw17001260758681281310:=0
def tw2738230904276033374:=0
def tw3557811756674048894:=0
def tw14712075458609044414:=0
def tw1215868143064231934:=0
def tw8435327084671759358:=0
def tw2058315753422494783:=0
def tw6097915885223529535:=0
def tw11127329029021964383:=0
def tw17474814289631390815:=0
def tw15677399737779684479:=0
def tw4822426490921063615:=0
def tw6400667948717653183:=0
def tw886332138712234175:=0
def tw16107429896830381311:=0
def tw12555464128629062975:=0
def tw7515254540377877951:=0
def tw16634435502412942815:=0
def tw2457758566343722495:=0
def tw6339101069558311487:=0
def tw8284311975632541311:=0
def tw52116129259244159:=0
def tw2400768466642978463:=0
def tw26846453777118911:=0
def tw9447829458981206719:=0
def tw7804864959038031583:=0
def tw4094783805442227967:=0
def tw7706630534661967711:=0
def tw14122195459870204799:=0
def tw8607861784768087935:=0
def tw5466865845871915935:=0
def tw581308709970745279:=0
def tw16518205190744603583:=0
def tw14942920420595813715:=0
end PySem.W.Fast
set_option Elab.async false
set_option linter.all false
set_option maxRecDepth 100000
set_option maxHeartbeats 4000000
namespace My
open PySem L2 L2.MM
noncomputable section
def b_l_law_1:SM:=(mIf (mOr (mTest (mOp neM (mCB p_state (mCons (mVar 6) mNil)) (mC (.str "listen")))) (mOr (mTest (mOp neM (mCB p_send (mCons (mVar 6) (mCons (mC (.int 0)) mNil))) (mLst mNil))) (mOr (mTest (mOp isNotM (mCB p_arrive (mCons (mVar 6) (mCons (mVar 9) (mCons (mC (.int 5)) mNil)))) (mC (.bl true)))) (mTest (mOp neM (mCB p_state (mCons (mVar 6) mNil)) (mC (.str "syn come"))))))) (mRet (mC (.bl false))) mSkip)
def b_l_law_2:SM:=(mIf (mOr (mTest (mOp neM (mCB p_send (mCons (mVar 6) (mCons (mC (.int 5)) mNil))) (mCB l_bytes (mCons (mVar 10) mNil)))) (mTest (mOp neM (mCB p_send (mCons (mVar 6) (mCons (mC (.int 6)) mNil))) (mLst mNil)))) (mRet (mC (.bl false))) mSkip)
def b_l_law_3:SM:=(mIf (mOr (mTest (mOp isNotM (mCB p_arrive (mCons (mVar 6) (mCons (mCB l_bytes (mCons (mVar 11) mNil)) (mCons (mC (.int 7)) mNil)))) (mC (.bl true)))) (mOr (mTest (mOp neM (mCB p_state (mCons (mVar 6) mNil)) (mC (.str "open")))) (mTest (mOp neM (mCB p_send (mCons (mVar 6) (mCons (mC (.int 7)) mNil))) (mLst mNil))))) (mRet (mC (.bl false))) mSkip)
def b_l_law_4:SM:=(mIf (mTest (mOp neM (mCB p_write (mCons (mVar 6) (mCons (mVar 13) mNil))) (mCB lenG (mCons (mVar 13) mNil)))) (mRet (mC (.bl false))) mSkip)
def b_l_law_5:SM:=(mIf (mTest (mOp neM (mCB p_send (mCons (mVar 6) (mCons (mC (.int 8)) mNil))) (mCB l_bytes (mCons (mVar 17) mNil)))) (mRet (mC (.bl false))) mSkip)
def b_l_law:SM:=(mSeq (mSet 1 (mTup (mCons (mOp modM (mCB l_mix (mCons (mVar 0) (mCons (mC (.int 0)) mNil))) (mC (.int 65536))) (mCons (mOp modM (mCB l_mix (mCons (mVar 0) (mCons (mC (.int 1)) mNil))) (mC (.int 65536))) mNil))))
  (mSeq (mSet 2 (mCB l_first (mCons (mCB l_mix (mCons (mVar 0) (mCons (mC (.int 2)) mNil))) mNil)))
  (mSeq (mSet 3 (mCB l_first (mCons (mCB l_mix (mCons (mVar 0) (mCons (mC (.int 3)) mNil))) mNil)))
  (mSeq (mSet 4 (mOp ixM (mLst (mCons (mC (.int 0)) (mCons (mC (.int 4)) (mCons (mC (.int 9)) (mCons (mC (.int 16)) (mCons (mC (.int 65535)) mNil)))))) (mOp modM (mCB l_mix (mCons (mVar 0) (mCons (mC (.int 4)) mNil))) (mC (.int 5)))))
  (mSeq (mSet 5 (mOp addM (mC (.int 40)) (mOp modM (mCB l_mix (mCons (mVar 0) (mCons (mC (.int 5)) mNil))) (mC (.int 60000)))))
  (mSeq (mSet 6 (mCB p_opened (mCons (mOp ixM (mVar 1) (mC (.int 0))) (mCons (mOp modM (mCB l_mix (mCons (mVar 0) (mCons (mC (.int 6)) mNil))) (mC (.int 65536))) (mCons (mVar 2) (mCons (mC (.bl false)) mNil))))))
  (mSeq (mSet 7 (mCB tupleG (mCons (mComp (mRng1 (mCons (mOp modM (mCB l_mix (mCons (mVar 0) (mCons (mC (.int 8)) mNil))) (mC (.int 5))) mNil)) [0] (mOp modM (mCB l_mix (mCons (mVar 1) (mCons (mC (.int 7)) mNil))) (mC (.int 256)))) mNil)))
  (mSeq (mSet 8 (mOp addM (mC (.int 2)) (mOp modM (mCB l_mix (mCons (mVar 0) (mCons (mC (.int 9)) mNil))) (mC (.int 2)))))
  (mSeq (mSet 9 (mCB l_bytes (mCons (mTup (mCons (mOp ixM (mVar 1) (mC (.int 1))) (mCons (mOp ixM (mVar 1) (mC (.int 0))) (mCons (mVar 3) (mCons (mC (.int 0)) (mCons (mVar 8) (mCons (mVar 5) (mCons (mVar 4) (mCons (mVar 7) mNil))))))))) mNil)))
  (mSeq b_l_law_1
  (mSeq (mSet 10 (mTup (mCons (mOp ixM (mVar 1) (mC (.int 0))) (mCons (mOp ixM (mVar 1) (mC (.int 1))) (mCons (mVar 2) (mCons (mCB l_plus (mCons (mVar 3) (mCons (mC (.int 1)) mNil))) (mCons (mC (.int 18)) (mCons (mC (.int 64)) (mCons (mC (.int 16)) (mCons (mTup mNil) mNil))))))))))
  (mSeq b_l_law_2
  (mSeq (mSet 11 (mCB l_segment (mCons (mVar 1) (mCons (mCB l_plus (mCons (mVar 3) (mCons (mC (.int 1)) mNil))) (mCons (mCB l_plus (mCons (mVar 2) (mCons (mC (.int 1)) mNil))) (mCons (mC (.int 16)) (mCons (mVar 5) (mCons (mLst mNil) mNil))))))))
  (mSeq b_l_law_3
  (mSeq (mSet 12 (mComp (mRng1 (mCons (mOp modM (mCB l_mix (mCons (mVar 0) (mCons (mC (.int 10)) mNil))) (mC (.int 17))) mNil)) [0] (mOp modM (mCB l_mix (mCons (mVar 1) (mCons (mOp addM (mC (.int 20)) (mVar 0)) mNil))) (mC (.int 256)))))
  (mSeq (mSet 13 (mComp (mRng1 (mCons (mOp addM (mC (.int 1)) (mOp modM (mCB l_mix (mCons (mVar 0) (mCons (mC (.int 11)) mNil))) (mC (.int 40)))) mNil)) [0] (mOp modM (mCB l_mix (mCons (mVar 1) (mCons (mOp addM (mC (.int 40)) (mVar 0)) mNil))) (mC (.int 256)))))
  (mSeq (mSet 14 (mCB minG (mCons (mOp ixM (mLst (mCons (mC (.int 12)) (mCons (mVar 4) mNil))) (mCB intG (mCons (mOp gtM (mVar 4) (mC (.int 0))) mNil))) (mCons (mC (.int 16)) mNil))))
  (mSeq b_l_law_4
  (mSeq (mSet 15 (mSl (mVar 13) mNoPart (mPart (mVar 14))))
  (mSeq (mSet 16 (mOp mulM (mC (.int 8)) (mCB intG (mCons (mOp eqM (mCB lenG (mCons (mVar 15) mNil)) (mCB lenG (mCons (mVar 13) mNil))) mNil))))
  (mSeq (mSet 17 (mTup (mCons (mOp ixM (mVar 1) (mC (.int 0))) (mCons (mOp ixM (mVar 1) (mC (.int 1))) (mCons (mCB l_plus (mCons (mVar 2) (mCons (mC (.int 1)) mNil))) (mCons (mCB l_plus (mCons (mVar 3) (mCons (mC (.int 1)) mNil))) (mCons (mOp addM (mC (.int 16)) (mVar 16)) (mCons (mC (.int 64)) (mCons (mC (.int 0)) (mCons (mCB tupleG (mCons (mVar 15) mNil)) mNil))))))))))
  (mSeq b_l_law_5
  (mSeq (mSet 18 (mCB l_segment (mCons (mVar 1) (mCons (mCB l_plus (mCons (mVar 3) (mCons (mC (.int 1)) mNil))) (mCons (mCB l_plus (mCons (mVar 2) (mCons (mC (.int 1)) mNil))) (mCons (mC (.int 16)) (mCons (mVar 5) (mCons (mVar 12) mNil))))))))
  (mSeq (mExpr (mCB p_arrive (mCons (mVar 6) (mCons (mCB l_bytes (mCons (mVar 18) mNil)) (mCons (mC (.int 9)) mNil)))))
  (mRet (mAndV (mOp eqM (mCB p_read (mCons (mVar 6) (mCons (mC (.int 100)) mNil))) (mVar 12)) (mOp eqM (mCB p_state (mCons (mVar 6) mNil)) (mC (.str "open")))))))))))))))))))))))))))))
def l_law:GM:=mDef 1 19 b_l_law
theorem mem_mod {n:Nat} {F:Nat→Int} (h:∀i,0≤F i∧F i≤255):∀z∈(List.range n).map F,0≤z∧z≤255:=by
  intro z hz
  obtain ⟨i,_,rfl⟩:=List.mem_map.mp hz
  exact h i
section
variable {a b f g W m:Int} {tk gv:List Int}
def size11 (m:Int):Int:=if 16<(if m=0 then 12 else m) then 16 else (if m=0 then 12 else m)
def cnt11 (m:Int) (tk:List Int):Int:=if (tk.length:Int)<size11 m then tk.length else size11 m
def w11 (a b f g W m:Int) (tk:List Int):EndS:={ openE a b f g W m 5 with written:=tk,behind:=plus (plus f 1) tk.length }
def x11 (a b f g W m:Int) (tk:List Int):EndS:={ w11 a b f g W m tk with nxt:=plus (plus f 1) (cnt11 m tk),since:=8 }
theorem wr11 (hl:tk.length≤40):canWrite (openE a b f g W m 5)=true∧wrote (openE a b f g W m 5) tk=tk∧writeE (openE a b f g W m 5) tk=w11 a b f g W m tk:=by
  have h1:canWrite (openE a b f g W m 5)=true:=by simp [canWrite,openE,newEnd]
  have h2:wrote (openE a b f g W m 5) tk=tk:=by
    unfold wrote
    exact cut_all (by simp [openE,newEnd]; omega)
  refine ⟨h1,h2,?_⟩
  unfold writeE
  rw [h1,h2]
  simp [w11,openE,newEnd]
theorem sd11 (hl:tk.length≤40) (h1:0<tk.length) (hm:m=0∨4≤m) (hW:40≤W):going (w11 a b f g W m tk) 8=(some ⟨a,b,plus f 1,plus g 1,16+8*(if cnt11 m tk=tk.length then 1 else 0),64,0,tk.take (cnt11 m tk).toNat⟩,x11 a b f g W m tk):=by
  have hs:4≤size11 m∧size11 m≤16:=by unfold size11; split<;>split<;>omega
  have hc:0<cnt11 m tk∧cnt11 m tk≤tk.length:=by unfold cnt11; split<;>omega
  have un:unsent (w11 a b f g W m tk)=tk.length:=by
    show offset (plus (plus f 1) tk.length) (plus f 1)=_
    exact off_plus (by omega)
  have mo:mostAtOnce (w11 a b f g W m tk)=size11 m:=rfl
  have nm:newMany (w11 a b f g W m tk) W=cnt11 m tk:=by
    unfold newMany mn3
    rw [un,mo]
    unfold cnt11
    split<;>split<;>omega
  have u2:unsent (x11 a b f g W m tk)=tk.length-cnt11 m tk:=by
    show offset (plus (plus f 1) tk.length) (plus (plus f 1) (cnt11 m tk))=_
    exact off_plus2 (by omega)
  have nd:hasNewData (w11 a b f g W m tk)=true:=by
    unfold hasNewData
    rw [un]
    simp [w11,openE]
    omega
  obtain ⟨c,hcn⟩:∃x,x=cnt11 m tk:=⟨_,rfl⟩
  have gn:goingAsNew (w11 a b f g W m tk) 8=(some ⟨a,b,plus f 1,plus g 1,16+8*(if cnt11 m tk=tk.length then 1 else 0),64,0,tk.take (cnt11 m tk).toNat⟩,x11 a b f g W m tk):=by
    have s1:¬((w11 a b f g W m tk).state=.synSent∨(w11 a b f g W m tk).state=.synCome):=by simp [w11,openE]
    have o1:offset (w11 a b f g W m tk).nxt (w11 a b f g W m tk).una=0:=off_self _
    have q:(w11 a b f g W m tk).nxt=(w11 a b f g W m tk).una:=rfl
    unfold goingAsNew
    rw [if_neg s1,if_neg (by rw [o1]; simp [hasMore,nd]; show 0<W; omega)]
    simp only [if_pos q,o1]
    have wn:(w11 a b f g W m tk).wnd-0=W:=by show W-0=W; omega
    rw [wn]
    have np:newPiece { startTimer (w11 a b f g W m tk) 8 with owes_answer:=false } W=newData { startTimer (w11 a b f g W m tk) 8 with owes_answer:=false,probes:=false } W:=by
      unfold newPiece
      rw [if_pos (show hasNewData { startTimer (w11 a b f g W m tk) 8 with owes_answer:=false }=true from nd)]
    rw [np]
    have same:({ startTimer (w11 a b f g W m tk) 8 with owes_answer:=false,probes:=false }:EndS)={ w11 a b f g W m tk with since:=8 }:=rfl
    rw [same]
    have nd2:newData { w11 a b f g W m tk with since:=8 } W=(⟨a,b,plus f 1,plus g 1,16+8*(if cnt11 m tk=tk.length then 1 else 0),64,0,tk.take (cnt11 m tk).toNat⟩,x11 a b f g W m tk):=by
      unfold newData
      have nm':newMany { w11 a b f g W m tk with since:=8 } W=cnt11 m tk:=nm
      rw [nm']
      have e1:({ ({ w11 a b f g W m tk with since:=8 }:EndS) with nxt:=plus ({ w11 a b f g W m tk with since:=8 }:EndS).nxt (cnt11 m tk) }:EndS)=x11 a b f g W m tk:=rfl
      simp only [e1,u2]
      have o2:offset ({ w11 a b f g W m tk with since:=8 }:EndS).nxt ({ w11 a b f g W m tk with since:=8 }:EndS).una=0:=off_self _
      have cu:cutL tk (some 0) (some (0+cnt11 m tk))=tk.take (cnt11 m tk).toNat:=by
        rw [cut_mid _ (by omega) (by omega)]
        simp
      show (segOf (x11 a b f g W m tk) (plus f 1) (if (tk.length:Int)-cnt11 m tk=0 then 8 else 0) (cutL tk (some (offset (plus f 1) (plus f 1))) (some (offset (plus f 1) (plus f 1)+cnt11 m tk))),x11 a b f g W m tk)=_
      rw [off_self,cu]
      by_cases c:cnt11 m tk=tk.length
      · rw [if_pos c,if_pos (by omega)]
        rfl
      · rw [if_neg c,if_neg (by omega)]
        rfl
    rw [nd2]
  have st:¬((w11 a b f g W m tk).state=.timeWait∧(120000:Int)≤8-(w11 a b f g W m tk).since):=by simp [w11,openE]
  unfold going
  have ow:(w11 a b f g W m tk).owed_reset=none:=rfl
  rw [ow]
  simp only [if_neg st]
  rw [if_neg (by simp [w11,openE]),if_neg (by simp [w11,openE])]
  unfold goingOn
  rw [gn]
theorem ar11 (hl:tk.length≤40) (h1:0<tk.length) (hm:m=0∨4≤m) (hW:40≤W) (hg:gv.length≤16):∃e7,comes (x11 a b f g W m tk) ⟨b,a,plus g 1,plus f 1,16,W,0,gv⟩ 9=e7∧e7.come=gv∧e7.state=.opn:=by
  have hs:4≤size11 m∧size11 m≤16:=by unfold size11; split<;>split<;>omega
  have hc:0<cnt11 m tk∧cnt11 m tk≤tk.length:=by unfold cnt11; split<;>omega
  obtain ⟨s,hs⟩:∃x:Seg,x=⟨b,a,plus g 1,plus f 1,16,W,0,gv⟩:=⟨_,rfl⟩
  obtain ⟨e,he⟩:∃x,x=x11 a b f g W m tk:=⟨_,rfl⟩
  have b4:bears s 4=false:=by rw [hs]; simp
  have b2:bears s 2=false:=by rw [hs]; simp
  have b1:bears s 1=false:=by rw [hs]; simp
  have b16:bears s 16=true:=by rw [hs]; simp
  have ls:lenS s=gv.length:=by rw [hs]; simp
  have nr:s.num=e.rcv:=by rw [hs,he]; rfl
  have cm:e.come=[]:=by rw [he]; rfl
  have ft:fitsE e s=true:=by
    unfold fitsE inWin ourWindow
    rw [nr,cm,off_self]
    simp
  have pa:pastB s.ans e.nxt=false:=by
    rw [hs,he]
    show decide (0<offset (plus f 1) (plus (plus f 1) (cnt11 m tk)))=false
    rw [off_minus (by omega)]
    simp; omega
  have an:s.ans=e.una:=by rw [hs,he]; rfl
  have ho:heardOn e s 9=e:=by
    unfold heardOn
    rw [an,past_self]
    simp
  have tw:takeWin e s=e:=by rw [hs,he]; rfl
  have wn:¬e.wnd=0:=by rw [he]; show ¬W=0; omega
  have ha:hearAnswer e s 9=e:=by
    unfold hearAnswer
    simp only [ho,tw]
    rw [←an,past_self]
    simp [wn]
  have sf:sentFin e=false:=by
    rw [he]
    show decide (0<offset (plus (plus f 1) (cnt11 m tk)) (plus (plus f 1) tk.length))=false
    rw [off_plus2 (by omega)]
    simp; omega
  have ea:endAcked e 9=e:=by
    unfold endAcked
    rw [if_pos (.inl sf)]
  have so:e.state=.opn:=by rw [he]; rfl
  have go:goesOn e s 9=(true,e):=by
    unfold goesOn
    rw [if_neg (by rw [so]; decide),if_neg (by rw [pa]; decide),ha,ea,so]
    rfl
  have ri:0≤e.rcv∧e.rcv≤4294967295:=by rw [he]; exact plus_in _ _
  have sda:s.data=gv:=by rw [hs]
  have stm:=streamed_in (e:=e) (s:=s) (by rw [sda]; exact hg) nr ri (by rw [he]; rfl) (by rw [he]; rfl) (by rw [cm,sda,b1]; simp; omega)
  rw [←hs,←he]
  refine ⟨_,rfl,?_⟩
  have cs:comes e s 9=comeStream' e s 9:=by unfold comes; rw [so]
  rw [cs]
  unfold comeStream'
  rw [ft,b4,b2,b16,go]
  simp only [Bool.true_eq_false,Bool.false_eq_true,if_false,if_true]
  unfold hearStream'
  rw [if_pos (.inl so),stm,b1,cm,sda]
  simp [so]
end
theorem law_true (ns:List Int) (hn:ns.length≤63):∃θ',l_law [.scr ns] []=.ok (.bl true) θ':=by
  obtain ⟨a,ha⟩:∃x,x=mix ns 0 % 65536:=⟨_,rfl⟩
  obtain ⟨b,hb⟩:∃x,x=mix ns 1 % 65536:=⟨_,rfl⟩
  obtain ⟨f,hf⟩:∃x,x=firstOf (mix ns 2):=⟨_,rfl⟩
  obtain ⟨g,hg⟩:∃x,x=firstOf (mix ns 3):=⟨_,rfl⟩
  obtain ⟨m,hm0⟩:∃x,x=gt [0,4,9,16,65535] (mix ns 4 % 5).toNat:=⟨_,rfl⟩
  obtain ⟨W,hW0⟩:∃x,x=40+mix ns 5 % 60000:=⟨_,rfl⟩
  obtain ⟨x,hx⟩:∃x,x=mix ns 6 % 65536:=⟨_,rfl⟩
  obtain ⟨ex,hex⟩:∃x,x=(List.range (mix ns 8 % 5).toNat).map fun (_:Nat)=>mix ns 7 % 256:=⟨_,rfl⟩
  obtain ⟨fl,hfl⟩:∃x,x=2+mix ns 9 % 2:=⟨_,rfl⟩
  obtain ⟨gv,hgv⟩:∃x,x=(List.range (mix ns 10 % 17).toNat).map fun (k:Nat)=>mix ns (20+(k:Int)) % 256:=⟨_,rfl⟩
  obtain ⟨tk,htk⟩:∃x,x=(List.range (1+mix ns 11 % 40).toNat).map fun (k:Nat)=>mix ns (40+(k:Int)) % 256:=⟨_,rfl⟩
  have ra:0≤a∧a≤65535:=by omega
  have rb:0≤b∧b≤65535:=by omega
  have rf:0≤f∧f≤4294967295:=by rw [hf]; exact first_in (by have:=mix_in ns 2; omega)
  have rg:0≤g∧g≤4294967295:=by rw [hg]; exact first_in (by have:=mix_in ns 3; omega)
  have rW:40≤W∧W≤65535:=by omega
  have rm:m=0∨(4≤m∧m≤65535):=by
    rw [hm0]
    exact lt_cases5 (P:=fun n=>gt [0,4,9,16,65535] n=0∨(4≤gt [0,4,9,16,65535] n∧gt [0,4,9,16,65535] n≤65535)) (by omega) (by decide) (by decide) (by decide) (by decide) (by decide)
  have rfl':fl=2∨fl=3:=by omega
  have rex:(∀z∈ex,0≤z∧z≤255)∧ex.length≤16:=by
    rw [hex]
    exact ⟨mem_mod fun i=>by omega,by simp; omega⟩
  have rgv:(∀z∈gv,0≤z∧z≤255)∧gv.length≤16:=by
    rw [hgv]
    exact ⟨mem_mod fun i=>by omega,by simp; omega⟩
  have rtk:(∀z∈tk,0≤z∧z≤255)∧tk.length≤40∧0<tk.length:=by
    rw [htk]
    exact ⟨mem_mod fun i=>by omega,by simp; omega,by simp; omega⟩
  have rm':m=0∨4≤m:=rm.imp id fun h=>h.1
  have hs:4≤size11 m∧size11 m≤16:=by unfold size11; split<;>split<;>omega
  have hc:0<cnt11 m tk∧cnt11 m tk≤tk.length:=by unfold cnt11; split<;>omega
  have k1:(Seg.mk b a g 0 fl W m ex).Ok:=ok_mk rb ra rg (by omega) (by omega) (by omega) (rm.imp id fun h=>⟨h.1,h.2,by omega⟩) rex
  have k2:(Seg.mk a b f (plus g 1) 18 64 16 []).Ok:=ok_mk ra rb rf (plus_in _ _) (by omega) (by omega) (.inr (by decide)) no_data
  have k3:(Seg.mk b a (plus g 1) (plus f 1) 16 W 0 []).Ok:=ok_mk rb ra (plus_in _ _) (plus_in _ _) (by omega) (by omega) (.inl rfl) no_data
  have dt:(∀z∈tk.take (cnt11 m tk).toNat,0≤z∧z≤255)∧(tk.take (cnt11 m tk).toNat).length≤16:=by
    refine ⟨fun z hz=>rtk.1 z (List.mem_of_mem_take hz),?_⟩
    rw [List.length_take]
    have:cnt11 m tk≤16:=by unfold cnt11; split<;>omega
    omega
  have k4:(Seg.mk a b (plus f 1) (plus g 1) (16+8*(if cnt11 m tk=tk.length then 1 else 0)) 64 0 (tk.take (cnt11 m tk).toNat)).Ok:=ok_mk ra rb (plus_in _ _) (plus_in _ _) (by split<;>omega) (by omega) (.inl rfl) dt
  have k5:(Seg.mk b a (plus g 1) (plus f 1) 16 W 0 gv).Ok:=ok_mk rb ra (plus_in _ _) (plus_in _ _) (by omega) (by omega) (.inl rfl) rgv
  have hl:0+3<(cells 0 (newEnd a x f false)).length:=by simp [cells]
  have q1:=t_opened (a:=a) (b:=x) (c:=f) (act:=false) []
  have q2:=send_none (e:=newEnd a x f false) (t:=0) hl (e':=newEnd a x f false) (by simp [going,newEnd])
  have q3:=t_arrive_put (e:=newEnd a x f false) (now:=5) hl (by simp [newEnd]) k1 (by simp [isFor,newEnd]) (by simp [newEnd])
  rw [open1 rfl'] at q3
  have q4:=send_some hl (open2 (a:=a) (b:=b) (f:=f) (g:=g) (W:=W) (m:=m) (t:=5)) k2
  have q5:=send_none hl (open3 (a:=a) (b:=b) (f:=f) (g:=g) (W:=W) (m:=m) (t:=5) (t':=6) (by omega))
  have q6:=t_arrive_put (e:=synE' a b f g W m 5) (now:=7) hl (by simp [synE',synE,newEnd]) k3 (by simp [isFor,newEnd,synE',synE]) (by simp [newEnd,synE',synE])
  rw [open4] at q6
  have q7:=send_none hl (open5 (a:=a) (b:=b) (f:=f) (g:=g) (W:=W) (m:=m) (t:=5) (t':=7))
  obtain ⟨w1,w2,w3⟩:=wr11 (a:=a) (b:=b) (f:=f) (g:=g) (W:=W) (m:=m) rtk.2.1
  have q8:=t_write (e:=openE a b f g W m 5) hl (by simp [openE,newEnd]) tk
  rw [w1,w2,w3] at q8
  simp only [if_true] at q8
  have q9:=send_some hl (sd11 (a:=a) (b:=b) (f:=f) (g:=g) rtk.2.1 rtk.2.2 rm' rW.1) k4
  obtain ⟨e7,a1,a2,a3⟩:=ar11 (a:=a) (b:=b) (f:=f) (g:=g) (W:=W) (m:=m) rtk.2.1 rtk.2.2 rm' rW.1 rgv.2
  have q10:=t_arrive_put (e:=x11 a b f g W m tk) (now:=9) hl (by simp [x11,w11,openE,newEnd]) k5 (by simp [isFor,newEnd,x11,w11,openE]) (by simp [newEnd,x11,w11,openE])
  rw [a1] at q10
  have q11:=t_read (e:=e7) (n:=100) hl
  have tkg:e7.come.take (100:Int).toNat=gv:=by
    rw [a2]
    exact List.take_of_length_le (by have:=rgv.2; omega)
  rw [tkg] at q11
  have st8:(readE e7 100).state=.opn:=by
    unfold readE
    split<;>exact a3
  obtain ⟨e8,he8⟩:∃x,x=readE e7 100:=⟨_,rfl⟩
  rw [←he8] at q11 st8
  have b1:=fun θ=>t_lbytes k1 θ
  have b2:=fun θ=>t_lbytes k2 θ
  have b3:=fun θ=>t_lbytes k3 θ
  have b4:=fun θ=>t_lbytes k4 θ
  have b5:=fun θ=>t_lbytes k5 θ
  have s0:(newEnd a x f false).state=.listen:=rfl
  have s2:(synE a b f g W m).state=.synCome:=rfl
  have s4:(openE a b f g W m 5).state=.opn:=rfl
  have up:=cells_up (newEnd a x f false)
  obtain ⟨e0,he0⟩:∃y,y=newEnd a x f false:=⟨_,rfl⟩
  obtain ⟨e1,he1⟩:∃x,x=synE a b f g W m:=⟨_,rfl⟩
  obtain ⟨e2,he2⟩:∃x,x=synE' a b f g W m 5:=⟨_,rfl⟩
  obtain ⟨e3,he3⟩:∃x,x=openE a b f g W m 5:=⟨_,rfl⟩
  obtain ⟨e4,he4⟩:∃x,x=w11 a b f g W m tk:=⟨_,rfl⟩
  obtain ⟨e5,he5⟩:∃x,x=x11 a b f g W m tk:=⟨_,rfl⟩
  have q1':p_opened [.int a,.int x,.int f,.bl false] []=.ok (.ref 0) (cells 0 e0):=by rw [he0]; exact q1
  obtain ⟨B,hB⟩:∃y,y=cells 0 (newEnd a x f false):=⟨_,rfl⟩
  rw [←hB] at hl q2 q3 q4 q5 q6 q7 q8 q9 q10 q11
  rw [←he0] at q2 q3 s0 up hB
  rw [←hB] at q1' up
  rw [←he1] at q3 q4 s2
  rw [←he2] at q4 q5 q6
  rw [←he3] at q6 q7 q8 s4
  rw [←he4] at q8 q9
  rw [←he5] at q9 q10
  rw [up] at q1'
  clear he0 he1 he2 he3 he4 he5 he8 q1 a1 a2 a3 tkg up hB w1 w2 w3
  have i4:=il_get (a:=[0,4,9,16,65535]) (i:=mix ns 4 % 5) (θ:=([]:Sto)) (by omega) (by simp; omega)
  rw [←hm0] at i4
  have cx:=fun ρ (h0:ρ[0]?=some (Sl.val (D.scr ns))) θ=>comp_int (nE:=mOp modM (mCB l_mix (mCons (mVar 0) (mCons (mC (.int 8)) mNil))) (mC (.int 5))) (src:=[0]) (elt:=mOp modM (mCB l_mix (mCons (mVar 1) (mCons (mC (.int 7)) mNil))) (mC (.int 256))) (ρ:=ρ) (θ:=θ) (j:=mix ns 8 % 5) (fun _=>mix ns 7 % 256) (by simp [h0]) (by omega) (by omega) (by intro i hi; simp [h0])
  have cg:=fun ρ (h0:ρ[0]?=some (Sl.val (D.scr ns))) θ=>comp_int (nE:=mOp modM (mCB l_mix (mCons (mVar 0) (mCons (mC (.int 10)) mNil))) (mC (.int 17))) (src:=[0]) (elt:=mOp modM (mCB l_mix (mCons (mVar 1) (mCons (mOp addM (mC (.int 20)) (mVar 0)) mNil))) (mC (.int 256))) (ρ:=ρ) (θ:=θ) (j:=mix ns 10 % 17) (fun k=>mix ns (20+(k:Int)) % 256) (by simp [h0]) (by omega) (by omega) (by intro i hi; simp [h0])
  have ct:=fun ρ (h0:ρ[0]?=some (Sl.val (D.scr ns))) θ=>comp_int (nE:=mOp addM (mC (.int 1)) (mOp modM (mCB l_mix (mCons (mVar 0) (mCons (mC (.int 11)) mNil))) (mC (.int 40)))) (src:=[0]) (elt:=mOp modM (mCB l_mix (mCons (mVar 1) (mCons (mOp addM (mC (.int 40)) (mVar 0)) mNil))) (mC (.int 256))) (ρ:=ρ) (θ:=θ) (j:=1+mix ns 11 % 40) (fun k=>mix ns (40+(k:Int)) % 256) (by simp [h0]) (by omega) (by omega) (by intro i hi; simp [h0])
  simp only [←hex] at cx
  simp only [←hgv] at cg
  simp only [←htk] at ct
  have sz:∀θ:Sto,ixM (il [12,m]) (.int (if 0<m then 1 else 0)) θ=.ok (.int (if m=0 then 12 else m)) θ:=by
    intro θ
    rcases rm' with h | h
    · simp [h]
    · rw [if_pos (by omega),if_neg (by omega)]; simp
  have sl:∀θ:Sto,sliceD θ (il tk) none (some (size11 m))=some (il (tk.take (cnt11 m tk).toNat)):=by
    intro θ
    have:tk.take (size11 m).toNat=tk.take (cnt11 m tk).toNat:=by
      by_cases c:(tk.length:Int)<size11 m
      · have e:cnt11 m tk=tk.length:=by unfold cnt11; rw [if_pos c]
        rw [e,List.take_of_length_le (by omega),List.take_of_length_le (by omega)]
      · have e:cnt11 m tk=size11 m:=by unfold cnt11; rw [if_neg c]
        rw [e]
    rw [il_sl,cut_to tk (by omega),this]
  have szd:(if 16<(if m=0 then 12 else m) then 16 else (if m=0 then 12 else m))=size11 m:=rfl
  obtain ⟨pt,hpt⟩:∃x,x=tk.take (cnt11 m tk).toNat:=⟨_,rfl⟩
  have pl:(pt.length:Int)=cnt11 m tk:=by rw [hpt,List.length_take]; omega
  rw [←hpt] at b4 q9
  simp only [←hpt] at sl
  have mb:∀x:Int,MulB 8 x:=fun x=>.inl (by omega)
  simp [mb,l_law,b_l_law,←ha,←hb,←hf,←hg,i4,←hW0,←hx,q1',cx,←hfl,b1,b_l_law_1,s0,hl,q2,q3,s2,seg_d0,seg_d,b2,b_l_law_2,q4,q5,t_lsegment,il_nil,b3,b_l_law_3,q6,s4,q7,cg,ct,sz,szd,b_l_law_4,q8,sl,pl,b_l_law_5,b4,q9,b5,q10,q11,st8]
end
def top (i:Nat):Stmt:=PySem.Challenge.pw_wirestream_k11_three_ways.main.body.getD i (.Pass ⟨0,0,0,0⟩)
abbrev zs0:Stmt:=inClass (top 2) 0
abbrev zs1:Stmt:=top 3
abbrev zs2:Stmt:=top 4
abbrev zs3:Stmt:=top 5
abbrev zs4:Stmt:=top 9
abbrev zs5:Stmt:=top 10
abbrev zs6:Stmt:=top 11
abbrev zs7:Stmt:=inClass (top 30) 0
abbrev zs8:Stmt:=top 31
abbrev zs9:Stmt:=top 32
abbrev zs10:Stmt:=top 33
abbrev zs11:Stmt:=top 34
abbrev zs12:Stmt:=top 41
abbrev zs13:Stmt:=top 42
abbrev zs14:Stmt:=top 63
abbrev zs15:Stmt:=top 64
abbrev zs16:Stmt:=top 65
abbrev zs17:Stmt:=top 66
abbrev zs18:Stmt:=top 67
abbrev zs19:Stmt:=top 68
abbrev zs20:Stmt:=top 69
abbrev zs21:Stmt:=top 70
abbrev zs22:Stmt:=top 71
abbrev zs23:Stmt:=top 72
abbrev zs24:Stmt:=top 73
abbrev zs25:Stmt:=top 74
abbrev zs26:Stmt:=top 75
abbrev zs27:Stmt:=top 76
abbrev zs28:Stmt:=top 77
abbrev zs29:Stmt:=top 79
abbrev zs30:Stmt:=top 80
abbrev zs31:Stmt:=top 81
abbrev zs32:Stmt:=top 82
abbrev zs33:Stmt:=top 83
abbrev zs34:Stmt:=top 84
abbrev zs35:Stmt:=top 85
abbrev zs36:Stmt:=top 86
abbrev zs37:Stmt:=top 87
abbrev zs38:Stmt:=top 89
abbrev zs39:Stmt:=top 90
abbrev zs40:Stmt:=top 91
abbrev zs41:Stmt:=top 92
abbrev zs42:Stmt:=top 93
abbrev zs43:Stmt:=top 94
abbrev zs44:Stmt:=top 95
abbrev zs45:Stmt:=top 96
abbrev zs46:Stmt:=top 97
abbrev zs47:Stmt:=top 98
abbrev zs48:Stmt:=top 99
abbrev zs49:Stmt:=top 100
abbrev zs50:Stmt:=top 101
abbrev zs51:Stmt:=top 102
abbrev zs52:Stmt:=top 103
abbrev zs53:Stmt:=top 104
abbrev zs54:Stmt:=top 105
abbrev zs55:Stmt:=top 106
abbrev zs56:Stmt:=top 108
abbrev zs57:Stmt:=top 109
abbrev zs58:Stmt:=top 110
abbrev zs59:Stmt:=top 115
abbrev zs60:Stmt:=top 116
abbrev zs61:Stmt:=top 117
abbrev zs62:Stmt:=top 118
abbrev zs63:Stmt:=top 119
abbrev zs64:Stmt:=top 120
abbrev zs65:Stmt:=top 121
abbrev zs66:Stmt:=top 122
abbrev zs67:Stmt:=top 123
abbrev zs68:Stmt:=top 124
abbrev zs69:Stmt:=top 125
abbrev zs70:Stmt:=top 126
abbrev zs71:Stmt:=top 127
abbrev zs72:Stmt:=top 128
abbrev zs73:Stmt:=top 129
abbrev zs74:Stmt:=top 130
abbrev zs75:Stmt:=top 131
abbrev zs76:Stmt:=top 132
abbrev zs77:Stmt:=top 133
abbrev zs78:Stmt:=top 135
abbrev zs79:Stmt:=top 136
abbrev zs80:Stmt:=top 139
abbrev zs81:Stmt:=top 140
abbrev zs82:Stmt:=top 141
abbrev zs83:Stmt:=top 144
abbrev zs84:Stmt:=top 145
abbrev zs85:Stmt:=top 146
abbrev zs86:Stmt:=top 149
abbrev zP0:List Str:=["self"]
theorem zc0:FnScope ["self"] zP0 (defScope zs0):=⟨rfl,rfl,rfl,by decide +kernel,rfl,by decide +kernel,by decide +kernel⟩
abbrev zP1:List Str:=["pile"]
theorem zc1:FnScope ["pile"] zP1 (defScope zs1):=⟨rfl,rfl,rfl,by decide +kernel,rfl,by decide +kernel,by decide +kernel⟩
abbrev zP2:List Str:=["pile","row"]
theorem zc2:FnScope ["pile","row","laid"] zP2 (defScope zs2):=⟨rfl,rfl,rfl,by decide +kernel,rfl,by decide +kernel,by decide +kernel⟩
abbrev zP3:List Str:=["pile","many"]
theorem zc3:FnScope ["pile","many","size","taken"] zP3 (defScope zs3):=⟨rfl,rfl,rfl,by decide +kernel,rfl,by decide +kernel,by decide +kernel⟩
abbrev zP4:List Str:=["number","step"]
theorem zc4:FnScope ["number","step"] zP4 (defScope zs4):=⟨rfl,rfl,rfl,by decide +kernel,rfl,by decide +kernel,by decide +kernel⟩
abbrev zP5:List Str:=["number","base"]
theorem zc5:FnScope ["number","base"] zP5 (defScope zs5):=⟨rfl,rfl,rfl,by decide +kernel,rfl,by decide +kernel,by decide +kernel⟩
abbrev zP6:List Str:=["number","base"]
theorem zc6:FnScope ["number","base"] zP6 (defScope zs6):=⟨rfl,rfl,rfl,by decide +kernel,rfl,by decide +kernel,by decide +kernel⟩
abbrev zP7:List Str:=["self","ours","theirs","first","active"]
theorem zc7:FnScope ["self","ours","theirs","first","active"] zP7 (defScope zs7):=⟨rfl,rfl,rfl,by decide +kernel,rfl,by decide +kernel,by decide +kernel⟩
abbrev zP8:List Str:=["end","now"]
theorem zc8:FnScope ["end","now"] zP8 (defScope zs8):=⟨rfl,rfl,rfl,by decide +kernel,rfl,by decide +kernel,by decide +kernel⟩
abbrev zP9:List Str:=["end"]
theorem zc9:FnScope ["end"] zP9 (defScope zs9):=⟨rfl,rfl,rfl,by decide +kernel,rfl,by decide +kernel,by decide +kernel⟩
abbrev zP10:List Str:=["end"]
theorem zc10:FnScope ["end"] zP10 (defScope zs10):=⟨rfl,rfl,rfl,by decide +kernel,rfl,by decide +kernel,by decide +kernel⟩
abbrev zP11:List Str:=["end"]
theorem zc11:FnScope ["end"] zP11 (defScope zs11):=⟨rfl,rfl,rfl,by decide +kernel,rfl,by decide +kernel,by decide +kernel⟩
abbrev zP12:List Str:=["row"]
theorem zc12:FnScope ["row","total"] zP12 (defScope zs12):=⟨rfl,rfl,rfl,by decide +kernel,rfl,by decide +kernel,by decide +kernel⟩
abbrev zP13:List Str:=["row"]
theorem zc13:FnScope ["row"] zP13 (defScope zs13):=⟨rfl,rfl,rfl,by decide +kernel,rfl,by decide +kernel,by decide +kernel⟩
abbrev zP14:List Str:=["segment"]
theorem zc14:FnScope ["segment","flags"] zP14 (defScope zs14):=⟨rfl,rfl,rfl,by decide +kernel,rfl,by decide +kernel,by decide +kernel⟩
abbrev zP15:List Str:=["flags","flag"]
theorem zc15:FnScope ["flags","flag"] zP15 (defScope zs15):=⟨rfl,rfl,rfl,by decide +kernel,rfl,by decide +kernel,by decide +kernel⟩
abbrev zP16:List Str:=["segment","flag"]
theorem zc16:FnScope ["segment","flag"] zP16 (defScope zs16):=⟨rfl,rfl,rfl,by decide +kernel,rfl,by decide +kernel,by decide +kernel⟩
abbrev zP17:List Str:=["segment"]
theorem zc17:FnScope ["segment","ahead","behind"] zP17 (defScope zs17):=⟨rfl,rfl,rfl,by decide +kernel,rfl,by decide +kernel,by decide +kernel⟩
abbrev zP18:List Str:=["segment"]
theorem zc18:FnScope ["segment","ports","numbers","head"] zP18 (defScope zs18):=⟨rfl,rfl,rfl,by decide +kernel,rfl,by decide +kernel,by decide +kernel⟩
abbrev zP19:List Str:=["head"]
theorem zc19:FnScope ["head"] zP19 (defScope zs19):=⟨rfl,rfl,rfl,by decide +kernel,rfl,by decide +kernel,by decide +kernel⟩
abbrev zP20:List Str:=["most"]
theorem zc20:FnScope ["most"] zP20 (defScope zs20):=⟨rfl,rfl,rfl,by decide +kernel,rfl,by decide +kernel,by decide +kernel⟩
abbrev zP21:List Str:=["number"]
theorem zc21:FnScope ["number"] zP21 (defScope zs21):=⟨rfl,rfl,rfl,by decide +kernel,rfl,by decide +kernel,by decide +kernel⟩
abbrev zP22:List Str:=["number"]
theorem zc22:FnScope ["number"] zP22 (defScope zs22):=⟨rfl,rfl,rfl,by decide +kernel,rfl,by decide +kernel,by decide +kernel⟩
abbrev zP23:List Str:=["row"]
theorem zc23:FnScope ["row"] zP23 (defScope zs23):=⟨rfl,rfl,rfl,by decide +kernel,rfl,by decide +kernel,by decide +kernel⟩
abbrev zP24:List Str:=["row"]
theorem zc24:FnScope ["row"] zP24 (defScope zs24):=⟨rfl,rfl,rfl,by decide +kernel,rfl,by decide +kernel,by decide +kernel⟩
abbrev zP25:List Str:=["row"]
theorem zc25:FnScope ["row"] zP25 (defScope zs25):=⟨rfl,rfl,rfl,by decide +kernel,rfl,by decide +kernel,by decide +kernel⟩
abbrev zP26:List Str:=["row"]
theorem zc26:FnScope ["row","head","most","ports","numbers"] zP26 (defScope zs26):=⟨rfl,rfl,rfl,by decide +kernel,rfl,by decide +kernel,by decide +kernel⟩
abbrev zP27:List Str:=["row","place"]
theorem zc27:FnScope ["row","place"] zP27 (defScope zs27):=⟨rfl,rfl,rfl,by decide +kernel,rfl,by decide +kernel,by decide +kernel⟩
abbrev zP28:List Str:=["row","place"]
theorem zc28:FnScope ["row","place"] zP28 (defScope zs28):=⟨rfl,rfl,rfl,by decide +kernel,rfl,by decide +kernel,by decide +kernel⟩
abbrev zP29:List Str:=["segment"]
theorem zc29:FnScope ["segment","ports"] zP29 (defScope zs29):=⟨rfl,rfl,rfl,by decide +kernel,rfl,by decide +kernel,by decide +kernel⟩
abbrev zP30:List Str:=["end","segment"]
theorem zc30:FnScope ["end","segment"] zP30 (defScope zs30):=⟨rfl,rfl,rfl,by decide +kernel,rfl,by decide +kernel,by decide +kernel⟩
abbrev zP31:List Str:=["end","segment"]
theorem zc31:FnScope ["end","segment"] zP31 (defScope zs31):=⟨rfl,rfl,rfl,by decide +kernel,rfl,by decide +kernel,by decide +kernel⟩
abbrev zP32:List Str:=["end","segment"]
theorem zc32:FnScope ["end","segment"] zP32 (defScope zs32):=⟨rfl,rfl,rfl,by decide +kernel,rfl,by decide +kernel,by decide +kernel⟩
abbrev zP33:List Str:=["end","segment"]
theorem zc33:FnScope ["end","segment"] zP33 (defScope zs33):=⟨rfl,rfl,rfl,by decide +kernel,rfl,by decide +kernel,by decide +kernel⟩
abbrev zP34:List Str:=["end","segment","now"]
theorem zc34:FnScope ["end","segment","now"] zP34 (defScope zs34):=⟨rfl,rfl,rfl,by decide +kernel,rfl,by decide +kernel,by decide +kernel⟩
abbrev zP35:List Str:=["end","segment"]
theorem zc35:FnScope ["end","segment"] zP35 (defScope zs35):=⟨rfl,rfl,rfl,by decide +kernel,rfl,by decide +kernel,by decide +kernel⟩
abbrev zP36:List Str:=["end","segment"]
theorem zc36:FnScope ["end","segment"] zP36 (defScope zs36):=⟨rfl,rfl,rfl,by decide +kernel,rfl,by decide +kernel,by decide +kernel⟩
abbrev zP37:List Str:=["end","segment","now"]
theorem zc37:FnScope ["end","segment","now"] zP37 (defScope zs37):=⟨rfl,rfl,rfl,by decide +kernel,rfl,by decide +kernel,by decide +kernel⟩
abbrev zP38:List Str:=["end","row","now"]
theorem zc38:FnScope ["end","row","now","segment"] zP38 (defScope zs38):=⟨rfl,rfl,rfl,by decide +kernel,rfl,by decide +kernel,by decide +kernel⟩
abbrev zP39:List Str:=["end","segment"]
theorem zc39:FnScope ["end","segment"] zP39 (defScope zs39):=⟨rfl,rfl,rfl,by decide +kernel,rfl,by decide +kernel,by decide +kernel⟩
abbrev zP40:List Str:=["end","segment","now"]
theorem zc40:FnScope ["end","segment","now"] zP40 (defScope zs40):=⟨rfl,rfl,rfl,by decide +kernel,rfl,by decide +kernel,by decide +kernel⟩
abbrev zP41:List Str:=["end","segment"]
theorem zc41:FnScope ["end","segment","size","last"] zP41 (defScope zs41):=⟨rfl,rfl,rfl,by decide +kernel,rfl,by decide +kernel,by decide +kernel⟩
abbrev zP42:List Str:=["end","number"]
theorem zc42:FnScope ["end","number"] zP42 (defScope zs42):=⟨rfl,rfl,rfl,by decide +kernel,rfl,by decide +kernel,by decide +kernel⟩
abbrev zP43:List Str:=["end","segment","now"]
theorem zc43:FnScope ["end","segment","now"] zP43 (defScope zs43):=⟨rfl,rfl,rfl,by decide +kernel,rfl,by decide +kernel,by decide +kernel⟩
abbrev zP44:List Str:=["end","segment"]
theorem zc44:FnScope ["end","segment"] zP44 (defScope zs44):=⟨rfl,rfl,rfl,by decide +kernel,rfl,by decide +kernel,by decide +kernel⟩
abbrev zP45:List Str:=["end","segment","now"]
theorem zc45:FnScope ["end","segment","now"] zP45 (defScope zs45):=⟨rfl,rfl,rfl,by decide +kernel,rfl,by decide +kernel,by decide +kernel⟩
abbrev zP46:List Str:=["end","segment"]
theorem zc46:FnScope ["end","segment"] zP46 (defScope zs46):=⟨rfl,rfl,rfl,by decide +kernel,rfl,by decide +kernel,by decide +kernel⟩
abbrev zP47:List Str:=["end","segment"]
theorem zc47:FnScope ["end","segment"] zP47 (defScope zs47):=⟨rfl,rfl,rfl,by decide +kernel,rfl,by decide +kernel,by decide +kernel⟩
abbrev zP48:List Str:=["end","segment","now"]
theorem zc48:FnScope ["end","segment","now","answer","has_gone_on","was_shut"] zP48 (defScope zs48):=⟨rfl,rfl,rfl,by decide +kernel,rfl,by decide +kernel,by decide +kernel⟩
abbrev zP49:List Str:=["end","segment"]
theorem zc49:FnScope ["end","segment"] zP49 (defScope zs49):=⟨rfl,rfl,rfl,by decide +kernel,rfl,by decide +kernel,by decide +kernel⟩
abbrev zP50:List Str:=["end","now"]
theorem zc50:FnScope ["end","now"] zP50 (defScope zs50):=⟨rfl,rfl,rfl,by decide +kernel,rfl,by decide +kernel,by decide +kernel⟩
abbrev zP51:List Str:=["end","segment","now"]
theorem zc51:FnScope ["end","segment","now"] zP51 (defScope zs51):=⟨rfl,rfl,rfl,by decide +kernel,rfl,by decide +kernel,by decide +kernel⟩
abbrev zP52:List Str:=["end","segment"]
theorem zc52:FnScope ["end","segment","place","byte","number"] zP52 (defScope zs52):=⟨rfl,rfl,rfl,by decide +kernel,rfl,by decide +kernel,by decide +kernel⟩
abbrev zP53:List Str:=["end","segment"]
theorem zc53:FnScope ["end","segment","number"] zP53 (defScope zs53):=⟨rfl,rfl,rfl,by decide +kernel,rfl,by decide +kernel,by decide +kernel⟩
abbrev zP54:List Str:=["end"]
theorem zc54:FnScope ["end","row"] zP54 (defScope zs54):=⟨rfl,rfl,rfl,by decide +kernel,rfl,by decide +kernel,by decide +kernel⟩
abbrev zP55:List Str:=["end","now"]
theorem zc55:FnScope ["end","now"] zP55 (defScope zs55):=⟨rfl,rfl,rfl,by decide +kernel,rfl,by decide +kernel,by decide +kernel⟩
abbrev zP56:List Str:=["ours","theirs","first","active"]
theorem zc56:FnScope ["ours","theirs","first","active"] zP56 (defScope zs56):=⟨rfl,rfl,rfl,by decide +kernel,rfl,by decide +kernel,by decide +kernel⟩
abbrev zP57:List Str:=["end","row"]
theorem zc57:FnScope ["end","row","taken"] zP57 (defScope zs57):=⟨rfl,rfl,rfl,by decide +kernel,rfl,by decide +kernel,by decide +kernel⟩
abbrev zP58:List Str:=["end","many"]
theorem zc58:FnScope ["end","many","was_shut","row"] zP58 (defScope zs58):=⟨rfl,rfl,rfl,by decide +kernel,rfl,by decide +kernel,by decide +kernel⟩
abbrev zP59:List Str:=["end","now"]
theorem zc59:FnScope ["end","now","segment"] zP59 (defScope zs59):=⟨rfl,rfl,rfl,by decide +kernel,rfl,by decide +kernel,by decide +kernel⟩
abbrev zP60:List Str:=["end","now"]
theorem zc60:FnScope ["end","now","segment"] zP60 (defScope zs60):=⟨rfl,rfl,rfl,by decide +kernel,rfl,by decide +kernel,by decide +kernel⟩
abbrev zP61:List Str:=["end"]
theorem zc61:FnScope ["end","segment"] zP61 (defScope zs61):=⟨rfl,rfl,rfl,by decide +kernel,rfl,by decide +kernel,by decide +kernel⟩
abbrev zP62:List Str:=["end","now"]
theorem zc62:FnScope ["end","now"] zP62 (defScope zs62):=⟨rfl,rfl,rfl,by decide +kernel,rfl,by decide +kernel,by decide +kernel⟩
abbrev zP63:List Str:=["end","now"]
theorem zc63:FnScope ["end","now","data"] zP63 (defScope zs63):=⟨rfl,rfl,rfl,by decide +kernel,rfl,by decide +kernel,by decide +kernel⟩
abbrev zP64:List Str:=["end"]
theorem zc64:FnScope ["end"] zP64 (defScope zs64):=⟨rfl,rfl,rfl,by decide +kernel,rfl,by decide +kernel,by decide +kernel⟩
abbrev zP65:List Str:=["end"]
theorem zc65:FnScope ["end"] zP65 (defScope zs65):=⟨rfl,rfl,rfl,by decide +kernel,rfl,by decide +kernel,by decide +kernel⟩
abbrev zP66:List Str:=["end","number","flags","data"]
theorem zc66:FnScope ["end","number","flags","data"] zP66 (defScope zs66):=⟨rfl,rfl,rfl,by decide +kernel,rfl,by decide +kernel,by decide +kernel⟩
abbrev zP67:List Str:=["end","now"]
theorem zc67:FnScope ["end","now","room"] zP67 (defScope zs67):=⟨rfl,rfl,rfl,by decide +kernel,rfl,by decide +kernel,by decide +kernel⟩
abbrev zP68:List Str:=["end","now"]
theorem zc68:FnScope ["end","now"] zP68 (defScope zs68):=⟨rfl,rfl,rfl,by decide +kernel,rfl,by decide +kernel,by decide +kernel⟩
abbrev zP69:List Str:=["end"]
theorem zc69:FnScope ["end"] zP69 (defScope zs69):=⟨rfl,rfl,rfl,by decide +kernel,rfl,by decide +kernel,by decide +kernel⟩
abbrev zP70:List Str:=["end"]
theorem zc70:FnScope ["end"] zP70 (defScope zs70):=⟨rfl,rfl,rfl,by decide +kernel,rfl,by decide +kernel,by decide +kernel⟩
abbrev zP71:List Str:=["end"]
theorem zc71:FnScope ["end"] zP71 (defScope zs71):=⟨rfl,rfl,rfl,by decide +kernel,rfl,by decide +kernel,by decide +kernel⟩
abbrev zP72:List Str:=["end"]
theorem zc72:FnScope ["end"] zP72 (defScope zs72):=⟨rfl,rfl,rfl,by decide +kernel,rfl,by decide +kernel,by decide +kernel⟩
abbrev zP73:List Str:=["end","room"]
theorem zc73:FnScope ["end","room"] zP73 (defScope zs73):=⟨rfl,rfl,rfl,by decide +kernel,rfl,by decide +kernel,by decide +kernel⟩
abbrev zP74:List Str:=["end","room"]
theorem zc74:FnScope ["end","room","number","many","place"] zP74 (defScope zs74):=⟨rfl,rfl,rfl,by decide +kernel,rfl,by decide +kernel,by decide +kernel⟩
abbrev zP75:List Str:=["end"]
theorem zc75:FnScope ["end","number"] zP75 (defScope zs75):=⟨rfl,rfl,rfl,by decide +kernel,rfl,by decide +kernel,by decide +kernel⟩
abbrev zP76:List Str:=["end","now"]
theorem zc76:FnScope ["end","now"] zP76 (defScope zs76):=⟨rfl,rfl,rfl,by decide +kernel,rfl,by decide +kernel,by decide +kernel⟩
abbrev zP77:List Str:=["end"]
theorem zc77:FnScope ["end"] zP77 (defScope zs77):=⟨rfl,rfl,rfl,by decide +kernel,rfl,by decide +kernel,by decide +kernel⟩
abbrev zP78:List Str:=["_law_script","_law_k"]
theorem zc78:FnScope ["_law_script","_law_k"] zP78 (defScope zs78):=⟨rfl,rfl,rfl,by decide +kernel,rfl,by decide +kernel,by decide +kernel⟩
abbrev zP79:List Str:=["_law_script","_law_k"]
theorem zc79:FnScope ["_law_script","_law_k","_law_number"] zP79 (defScope zs79):=⟨rfl,rfl,rfl,by decide +kernel,rfl,by decide +kernel,by decide +kernel⟩
abbrev zP80:List Str:=["_law_number"]
theorem zc80:FnScope ["_law_number"] zP80 (defScope zs80):=⟨rfl,rfl,rfl,by decide +kernel,rfl,by decide +kernel,by decide +kernel⟩
abbrev zP81:List Str:=["_law_row"]
theorem zc81:FnScope ["_law_row","_law_total","_law_k"] zP81 (defScope zs81):=⟨rfl,rfl,rfl,by decide +kernel,rfl,by decide +kernel,by decide +kernel⟩
abbrev zP82:List Str:=["_law_segment_here"]
theorem zc82:FnScope ["_law_segment_here","_law_row","_law_number"] zP82 (defScope zs82):=⟨rfl,rfl,rfl,by decide +kernel,rfl,by decide +kernel,by decide +kernel⟩
abbrev zP83:List Str:=["_law_number","_law_step"]
theorem zc83:FnScope ["_law_number","_law_step"] zP83 (defScope zs83):=⟨rfl,rfl,rfl,by decide +kernel,rfl,by decide +kernel,by decide +kernel⟩
abbrev zP84:List Str:=["_law_number"]
theorem zc84:FnScope ["_law_number"] zP84 (defScope zs84):=⟨rfl,rfl,rfl,by decide +kernel,rfl,by decide +kernel,by decide +kernel⟩
abbrev zP85:List Str:=["_law_talk","_law_number","_law_answer","_law_flags","_law_window","_law_data"]
theorem zc85:FnScope ["_law_talk","_law_number","_law_answer","_law_flags","_law_window","_law_data"] zP85 (defScope zs85):=⟨rfl,rfl,rfl,by decide +kernel,rfl,by decide +kernel,by decide +kernel⟩
abbrev zP86:List Str:=["_law_script"]
theorem zc86:FnScope ["_law_script","_law_talk","_law_mine","_law_other","_law_most","_law_window","_law_end","_law_extra","_law_flags","_law_syn","_law_due","_law_last","_law_given_here","_law_taken","_law_size","_law_part","_law_push","_law_goes","_law_comes"] zP86 (defScope zs86):=⟨rfl,rfl,rfl,by decide +kernel,rfl,by decide +kernel,by decide +kernel⟩
structure Glb (K:PySem.W.Frag) (mg:Str→Option Value):Prop where
  zc0:∃t,mg "ACK"=some (.int 16 t)
  zc1:∃t,mg "ANSWER"=some (.int 3 t)
  zc2:∃t,mg "CLOSED"=some (.str "closed" t)
  zc3:∃t,mg "CLOSE_WAIT"=some (.str "close wait" t)
  zc4:∃t,mg "CLOSING"=some (.str "closing" t)
  zc5:∃t,mg "DATA"=some (.int 7 t)
  zc6:∃t,mg "FIN"=some (.int 1 t)
  zc7:∃t,mg "FIRST_WAIT"=some (.int 1000 t)
  zc8:∃t,mg "FLAGS"=some (.int 4 t)
  zc9:∃t,mg "GOAL"=some (.int 1 t)
  zc10:∃t,mg "GREATEST_DATA"=some (.int 16 t)
  zc11:∃t,mg "GREATEST_FLAGS"=some (.int 31 t)
  zc12:∃t,mg "GREATEST_WORD"=some (.int 65535 t)
  zc13:∃t,mg "HALF_ROUND"=some (.int 2147483648 t)
  zc14:∃t,mg "LAST_ACK"=some (.str "last ack" t)
  zc15:∃t,mg "LAST_WAIT"=some (.int 120000 t)
  zc16:∃t,mg "LEAST_MOST"=some (.int 4 t)
  zc17:∃t,mg "LISTEN"=some (.str "listen" t)
  zc18:∃t,mg "LONGEST_WAIT"=some (.int 16000 t)
  zc19:∃t,mg "LONG_HEAD"=some (.int 24 t)
  zc20:∃t,mg "MOST"=some (.int 6 t)
  zc21:∃t,mg "MOST_TRIES"=some (.int 6 t)
  zc22:∃t,mg "MOST_UNTOLD"=some (.int 12 t)
  zc23:∃t,mg "NO_ERROR"=some (.str "" t)
  zc24:∃t,mg "NUMBER"=some (.int 2 t)
  zc25:∃t,mg "OPEN"=some (.str "open" t)
  zc26:∃t,mg "PSH"=some (.int 8 t)
  zc27:∃t,mg "REFUSED"=some (.str "refused" t)
  zc28:∃t,mg "RESET"=some (.str "reset" t)
  zc29:∃t,mg "RIGHT_SUM"=some (.int 65535 t)
  zc30:∃t,mg "ROOM"=some (.int 64 t)
  zc31:∃t,mg "ROUND"=some (.int 4294967296 t)
  zc32:∃t,mg "RST"=some (.int 4 t)
  zc33:∃t,mg "SHORT_HEAD"=some (.int 20 t)
  zc34:∃t,mg "SOURCE"=some (.int 0 t)
  zc35:∃t,mg "SYN"=some (.int 2 t)
  zc36:∃t,mg "SYN_COME"=some (.str "syn come" t)
  zc37:∃t,mg "SYN_SENT"=some (.str "syn sent" t)
  zc38:∃t,mg "TIME"=some (.str "time" t)
  zc39:∃t,mg "TIME_WAIT"=some (.str "time wait" t)
  zc40:∃t,mg "WAIT_ONE"=some (.str "wait one" t)
  zc41:∃t,mg "WAIT_TWO"=some (.str "wait two" t)
  zc42:∃t,mg "WINDOW"=some (.int 5 t)
  zc43:∃t,mg "WORDS"=some (.int 65536 t)
  b_enumerate:mg "enumerate"=none
  b_int:mg "int"=none
  b_len:mg "len"=none
  b_list:mg "list"=none
  b_max:mg "max"=none
  b_min:mg "min"=none
  b_range:mg "range"=none
  b_sum:mg "sum"=none
  b_tuple:mg "tuple"=none
  k_End:Cls K (clOf mg "End")
  k_Pile:Cls K (clOf mg "Pile")
  zn0:NoAttr K (clOf mg "End") "behind"
  zn1:NoAttr K (clOf mg "End") "come"
  zn2:NoAttr K (clOf mg "End") "early"
  zn3:NoAttr K (clOf mg "End") "early_fin"
  zn4:NoAttr K (clOf mg "End") "error"
  zn5:NoAttr K (clOf mg "End") "first"
  zn6:NoAttr K (clOf mg "End") "has_closed"
  zn7:NoAttr K (clOf mg "End") "most"
  zn8:NoAttr K (clOf mg "End") "nxt"
  zn9:NoAttr K (clOf mg "End") "ours"
  zn10:NoAttr K (clOf mg "End") "owed_reset"
  zn11:NoAttr K (clOf mg "End") "owes_answer"
  zn12:NoAttr K (clOf mg "End") "owes_syn"
  zn13:NoAttr K (clOf mg "End") "probes"
  zn14:NoAttr K (clOf mg "End") "rcv"
  zn15:NoAttr K (clOf mg "End") "since"
  zn16:NoAttr K (clOf mg "End") "state"
  zn17:NoAttr K (clOf mg "End") "theirs"
  zn18:NoAttr K (clOf mg "End") "told"
  zn19:NoAttr K (clOf mg "End") "told_by"
  zn20:NoAttr K (clOf mg "End") "tries"
  zn21:NoAttr K (clOf mg "End") "una"
  zn22:NoAttr K (clOf mg "End") "wait"
  zn23:NoAttr K (clOf mg "End") "wnd"
  zn24:NoAttr K (clOf mg "End") "written"
  zn25:NoAttr K (clOf mg "Pile") "row"
section
variable {P:Program} {w:World} {K:PySem.W.Frag} {mg:Str→Option Value} {base:Heap}
theorem zo0 (D:Mk0 K mg "Pile" "Pile.__init__" zs0 zP0) (g:Glb K mg) :MMk P w K mg base 1 "Pile" p_Pile_init:=
  mk0 D zc0 1 1 rfl rfl fun f cdv A outer s H E hr=>(mss_one (ms_fld (all1 ⟨g.k_Pile,g.zn25⟩) (me_var 0) (me_lst ma_nil)))
theorem zo1 (D:Def0 K mg "room" zs1 zP1) (g:Glb K mg) :MDef P w K mg base 1 "room" p_room:=
  mdef D zc1 1 1 rfl rfl fun f cdv A outer s H E hr=>(mss_one (ms_ret (me_op o_sub (me_gint g.zc30) (me_callB c_len g.b_len PySem.boot_len (ma_cons (me_fld (all1 ⟨g.k_Pile,g.zn25⟩) (me_var 0)) ma_nil)))))
theorem zo2 (D:Def0 K mg "lay" zs2 zP2) (g:Glb K mg) (zd1:MDef P w K mg base 1 "room" p_room):MDef P w K mg base 2 "lay" p_lay:=
  mdef D zc2 2 3 rfl rfl fun f cdv A outer s H E hr=>(mss_cons (ms_set 2 zc2.nd (me_slice (me_var 1) mo_none (mo_some (me_call zd1 hr (by decide) (ma_cons (me_var 0) ma_nil)))))
  (mss_cons (ms_fld (all1 ⟨g.k_Pile,g.zn25⟩) (me_var 0) (me_op o_add (me_fld (all1 ⟨g.k_Pile,g.zn25⟩) (me_var 0)) (me_var 2)))
  (mss_one (ms_ret (me_callB c_len g.b_len PySem.boot_len (ma_cons (me_var 2) ma_nil))))))
theorem zo3 (D:Def0 K mg "take" zs3 zP3) (g:Glb K mg) :MDef P w K mg base 1 "take" p_take:=
  mdef D zc3 2 4 rfl rfl fun f cdv A outer s H E hr=>(mss_cons (ms_set 2 zc3.nd (me_callB c_max g.b_max PyProof.Rows.boot_max (ma_cons (me_var 1) (ma_cons me_int ma_nil))))
  (mss_cons (ms_set 3 zc3.nd (me_slice (me_fld (all1 ⟨g.k_Pile,g.zn25⟩) (me_var 0)) mo_none (mo_some (me_var 2))))
  (mss_cons (ms_fld (all1 ⟨g.k_Pile,g.zn25⟩) (me_var 0) (me_slice (me_fld (all1 ⟨g.k_Pile,g.zn25⟩) (me_var 0)) (mo_some (me_var 2)) mo_none))
  (mss_one (ms_ret (me_var 3))))))
theorem zo4 (D:Def0 K mg "plus" zs4 zP4) (g:Glb K mg) :MDef P w K mg base 1 "plus" p_plus:=
  mdef D zc4 2 2 rfl rfl fun f cdv A outer s H E hr=>(mss_one (ms_ret (me_op o_mod (me_op o_add (me_var 0) (me_var 1)) (me_gint g.zc31))))
theorem zo5 (D:Def0 K mg "offset" zs5 zP5) (g:Glb K mg) :MDef P w K mg base 1 "offset" p_offset:=
  mdef D zc5 2 2 rfl rfl fun f cdv A outer s H E hr=>(mss_one (ms_ret (me_op o_sub (me_op o_mod (me_op o_add (me_op o_sub (me_var 0) (me_var 1)) (me_gint g.zc13)) (me_gint g.zc31)) (me_gint g.zc13))))
theorem zo6 (D:Def0 K mg "past" zs6 zP6) (g:Glb K mg) (zd5:MDef P w K mg base 1 "offset" p_offset):MDef P w K mg base 2 "past" p_past:=
  mdef D zc6 2 2 rfl rfl fun f cdv A outer s H E hr=>(mss_one (ms_ret (me_cmp o_gt (me_call zd5 hr (by decide) (ma_cons (me_var 0) (ma_cons (me_var 1) ma_nil))) me_int)))
theorem zo7 (D:Mk0 K mg "End" "End.__init__" zs7 zP7) (g:Glb K mg) (zd0:MMk P w K mg base 1 "Pile" p_Pile_init) (zd4:MDef P w K mg base 1 "plus" p_plus):MMk P w K mg base 3 "End" p_End_init:=
  mk0 D zc7 5 5 rfl rfl fun f cdv A outer s H E hr=>(mss_cons (ms_fld (all1 ⟨g.k_End,g.zn9⟩) (me_var 0) (me_var 1))
  (mss_cons (ms_fld (all1 ⟨g.k_End,g.zn17⟩) (me_var 0) (me_var 2))
  (mss_cons (ms_fld (all1 ⟨g.k_End,g.zn16⟩) (me_var 0) (me_ite (mt_truth (me_var 4)) (me_gstr g.zc37) (me_gstr g.zc17)))
  (mss_cons (ms_fld (all1 ⟨g.k_End,g.zn4⟩) (me_var 0) (me_gstr g.zc23))
  (mss_cons (ms_fld (all1 ⟨g.k_End,g.zn5⟩) (me_var 0) (me_var 3))
  (mss_cons (ms_fld (all1 ⟨g.k_End,g.zn21⟩) (me_var 0) (me_var 3))
  (mss_cons (ms_fld (all1 ⟨g.k_End,g.zn8⟩) (me_var 0) (me_var 3))
  (mss_cons (ms_fld (all1 ⟨g.k_End,g.zn14⟩) (me_var 0) me_int)
  (mss_cons (ms_fld (all1 ⟨g.k_End,g.zn23⟩) (me_var 0) me_int)
  (mss_cons (ms_fld (all1 ⟨g.k_End,g.zn18⟩) (me_var 0) me_int)
  (mss_cons (ms_fld (all1 ⟨g.k_End,g.zn19⟩) (me_var 0) me_int)
  (mss_cons (ms_fld (all1 ⟨g.k_End,g.zn7⟩) (me_var 0) (me_gint g.zc22))
  (mss_cons (ms_fld (all1 ⟨g.k_End,g.zn24⟩) (me_var 0) (me_make0 zd0 hr (by decide)))
  (mss_cons (ms_fld (all1 ⟨g.k_End,g.zn1⟩) (me_var 0) (me_make0 zd0 hr (by decide)))
  (mss_cons (ms_fld (all1 ⟨g.k_End,g.zn2⟩) (me_var 0) me_dict0)
  (mss_cons (ms_fld (all1 ⟨g.k_End,g.zn3⟩) (me_var 0) me_non)
  (mss_cons (ms_fld (all1 ⟨g.k_End,g.zn6⟩) (me_var 0) me_bl)
  (mss_cons (ms_fld (all1 ⟨g.k_End,g.zn0⟩) (me_var 0) (me_call zd4 hr (by decide) (ma_cons (me_var 3) (ma_cons me_int ma_nil))))
  (mss_cons (ms_fld (all1 ⟨g.k_End,g.zn10⟩) (me_var 0) me_non)
  (mss_cons (ms_fld (all1 ⟨g.k_End,g.zn12⟩) (me_var 0) me_bl)
  (mss_cons (ms_fld (all1 ⟨g.k_End,g.zn11⟩) (me_var 0) me_bl)
  (mss_cons (ms_fld (all1 ⟨g.k_End,g.zn13⟩) (me_var 0) me_bl)
  (mss_cons (ms_fld (all1 ⟨g.k_End,g.zn15⟩) (me_var 0) me_int)
  (mss_cons (ms_fld (all1 ⟨g.k_End,g.zn22⟩) (me_var 0) (me_gint g.zc7))
  (mss_one (ms_fld (all1 ⟨g.k_End,g.zn20⟩) (me_var 0) me_int))))))))))))))))))))))))))
theorem zo8 (D:Def0 K mg "start_timer" zs8 zP8) (g:Glb K mg) :MDef P w K mg base 1 "start_timer" p_start_timer:=
  mdef D zc8 2 2 rfl rfl fun f cdv A outer s H E hr=>(mss_cons (ms_fld (all1 ⟨g.k_End,g.zn15⟩) (me_var 0) (me_var 1))
  (mss_cons (ms_fld (all1 ⟨g.k_End,g.zn22⟩) (me_var 0) (me_gint g.zc7))
  (mss_one (ms_fld (all1 ⟨g.k_End,g.zn20⟩) (me_var 0) me_int))))
theorem zo9 (D:Def0 K mg "state" zs9 zP9) (g:Glb K mg) :MDef P w K mg base 1 "state" p_state:=
  mdef D zc9 1 1 rfl rfl fun f cdv A outer s H E hr=>(mss_one (ms_ret (me_fld (all1 ⟨g.k_End,g.zn16⟩) (me_var 0))))
theorem zo10 (D:Def0 K mg "our_window" zs10 zP10) (g:Glb K mg) (zd1:MDef P w K mg base 1 "room" p_room):MDef P w K mg base 2 "our_window" p_our_window:=
  mdef D zc10 1 1 rfl rfl fun f cdv A outer s H E hr=>(mss_one (ms_ret (me_call zd1 hr (by decide) (ma_cons (me_fld (all1 ⟨g.k_End,g.zn1⟩) (me_var 0)) ma_nil))))
theorem zo11 (D:Def0 K mg "has_sent_fin" zs11 zP11) (g:Glb K mg) (zd6:MDef P w K mg base 2 "past" p_past):MDef P w K mg base 3 "has_sent_fin" p_has_sent_fin:=
  mdef D zc11 1 1 rfl rfl fun f cdv A outer s H E hr=>(mss_one (ms_ret (me_call zd6 hr (by decide) (ma_cons (me_fld (all1 ⟨g.k_End,g.zn8⟩) (me_var 0)) (ma_cons (me_fld (all1 ⟨g.k_End,g.zn0⟩) (me_var 0)) ma_nil)))))
theorem zo12 (D:Def0 K mg "folded" zs12 zP12) (g:Glb K mg) :MDef P w K mg base 1 "folded" p_folded:=
  mdef D zc12 1 2 rfl rfl fun f cdv A outer s H E hr=>(mss_cons (ms_set 1 zc12.nd (me_op o_add (me_op o_mul me_int (me_callB c_sum g.b_sum PyProof.Rows.boot_sum (ma_cons (me_slice3 (me_var 0) mo_none mo_none (mo_some me_int)) ma_nil))) (me_callB c_sum g.b_sum PyProof.Rows.boot_sum (ma_cons (me_slice3 (me_var 0) (mo_some me_int) mo_none (mo_some me_int)) ma_nil))))
  (mss_cons (ms_while 200 PassesOwn.never (mt_cmp o_gt (me_var 1) (me_gint g.zc12)) (mss_one (ms_set 1 zc12.nd (me_op o_add (me_op o_mod (me_var 1) (me_gint g.zc43)) (me_op o_div (me_var 1) (me_gint g.zc43))))))
  (mss_one (ms_ret (me_var 1)))))
theorem zo13 (D:Def0 K mg "sum_of" zs13 zP13) (g:Glb K mg) (zd12:MDef P w K mg base 1 "folded" p_folded):MDef P w K mg base 2 "sum_of" p_sum_of:=
  mdef D zc13 1 1 rfl rfl fun f cdv A outer s H E hr=>(mss_one (ms_ret (me_op o_sub (me_gint g.zc12) (me_call zd12 hr (by decide) (ma_cons (me_var 0) ma_nil)))))
theorem zo15 (D:Def0 K mg "has" zs15 zP15) (g:Glb K mg) :MDef P w K mg base 1 "has" p_has:=
  mdef D zc15 2 2 rfl rfl fun f cdv A outer s H E hr=>(mss_one (ms_ret (me_ite (mt_cmp (o_ne hr.units) (me_op o_and (me_var 0) (me_var 1)) me_int) me_int me_int)))
theorem zo14 (D:Def0 K mg "length" zs14 zP14) (g:Glb K mg) (zd15:MDef P w K mg base 1 "has" p_has):MDef P w K mg base 2 "length" p_length:=
  mdef D zc14 1 2 rfl rfl fun f cdv A outer s H E hr=>(mss_cons (ms_set 1 zc14.nd (me_ix ix_ok (me_var 0) (me_gint g.zc8)))
  (mss_one (ms_ret (me_op o_add (me_op o_add (me_callB c_len g.b_len PySem.boot_len (ma_cons (me_ix ix_ok (me_var 0) (me_gint g.zc5)) ma_nil)) (me_call zd15 hr (by decide) (ma_cons (me_var 1) (ma_cons (me_gint g.zc35) ma_nil)))) (me_call zd15 hr (by decide) (ma_cons (me_var 1) (ma_cons (me_gint g.zc6) ma_nil)))))))
theorem zo16 (D:Def0 K mg "bears" zs16 zP16) (g:Glb K mg) (zd15:MDef P w K mg base 1 "has" p_has):MDef P w K mg base 2 "bears" p_bears:=
  mdef D zc16 2 2 rfl rfl fun f cdv A outer s H E hr=>(mss_one (ms_ret (me_cmp (o_eq hr.units) (me_call zd15 hr (by decide) (ma_cons (me_ix ix_ok (me_var 0) (me_gint g.zc8)) (ma_cons (me_var 1) ma_nil))) me_int)))
theorem zo19 (D:Def0 K mg "byte_of_head" zs19 zP19) (g:Glb K mg) :MDef P w K mg base 1 "byte_of_head" p_byte_of_head:=
  mdef D zc19 1 1 rfl rfl fun f cdv A outer s H E hr=>(mss_one (ms_ret (me_op o_mul me_int (me_op o_div (me_var 0) me_int))))
theorem zo21 (D:Def0 K mg "two_bytes" zs21 zP21) (g:Glb K mg) :MDef P w K mg base 1 "two_bytes" p_two_bytes:=
  mdef D zc21 1 1 rfl rfl fun f cdv A outer s H E hr=>(mss_one (ms_ret (me_lst (ma_cons (me_op o_mod (me_op o_div (me_var 0) me_int) me_int) (ma_cons (me_op o_mod (me_var 0) me_int) ma_nil)))))
theorem zo22 (D:Def0 K mg "four_bytes" zs22 zP22) (g:Glb K mg) (zd21:MDef P w K mg base 1 "two_bytes" p_two_bytes):MDef P w K mg base 2 "four_bytes" p_four_bytes:=
  mdef D zc22 1 1 rfl rfl fun f cdv A outer s H E hr=>(mss_one (ms_ret (me_op o_add (me_call zd21 hr (by decide) (ma_cons (me_op o_div (me_var 0) me_int) ma_nil)) (me_call zd21 hr (by decide) (ma_cons (me_var 0) ma_nil)))))
theorem zo18 (D:Def0 K mg "bytes_ahead_of_sum" zs18 zP18) (g:Glb K mg) (zd19:MDef P w K mg base 1 "byte_of_head" p_byte_of_head) (zd22:MDef P w K mg base 2 "four_bytes" p_four_bytes) (zd21:MDef P w K mg base 1 "two_bytes" p_two_bytes):MDef P w K mg base 3 "bytes_ahead_of_sum" p_bytes_ahead_of_sum:=
  mdef D zc18 1 4 rfl rfl fun f cdv A outer s H E hr=>(mss_cons (ms_set 1 zc18.nd (me_op o_add (me_call zd21 hr (by decide) (ma_cons (me_ix ix_ok (me_var 0) (me_gint g.zc34)) ma_nil)) (me_call zd21 hr (by decide) (ma_cons (me_ix ix_ok (me_var 0) (me_gint g.zc9)) ma_nil))))
  (mss_cons (ms_set 2 zc18.nd (me_op o_add (me_call zd22 hr (by decide) (ma_cons (me_ix ix_ok (me_var 0) (me_gint g.zc24)) ma_nil)) (me_call zd22 hr (by decide) (ma_cons (me_ix ix_ok (me_var 0) (me_gint g.zc1)) ma_nil))))
  (mss_cons (ms_set 3 zc18.nd (me_ite (mt_cmp (o_eq hr.units) (me_ix ix_ok (me_var 0) (me_gint g.zc20)) me_int) (me_gint g.zc33) (me_gint g.zc19)))
  (mss_one (ms_ret (me_op o_add (me_op o_add (me_op o_add (me_var 1) (me_var 2)) (me_lst (ma_cons (me_call zd19 hr (by decide) (ma_cons (me_var 3) ma_nil)) (ma_cons (me_ix ix_ok (me_var 0) (me_gint g.zc8)) ma_nil)))) (me_call zd21 hr (by decide) (ma_cons (me_ix ix_ok (me_var 0) (me_gint g.zc42)) ma_nil))))))))
theorem zo20 (D:Def0 K mg "bytes_of_most" zs20 zP20) (g:Glb K mg) (zd21:MDef P w K mg base 1 "two_bytes" p_two_bytes):MDef P w K mg base 2 "bytes_of_most" p_bytes_of_most:=
  mdef D zc20 1 1 rfl rfl fun f cdv A outer s H E hr=>(mss_one (ms_ret (me_ite (mt_cmp (o_eq hr.units) (me_var 0) me_int) (me_lst ma_nil) (me_op o_add (me_lst (ma_cons me_int (ma_cons me_int ma_nil))) (me_call zd21 hr (by decide) (ma_cons (me_var 0) ma_nil))))))
theorem zo17 (D:Def0 K mg "put" zs17 zP17) (g:Glb K mg) (zd18:MDef P w K mg base 3 "bytes_ahead_of_sum" p_bytes_ahead_of_sum) (zd20:MDef P w K mg base 2 "bytes_of_most" p_bytes_of_most) (zd13:MDef P w K mg base 2 "sum_of" p_sum_of) (zd21:MDef P w K mg base 1 "two_bytes" p_two_bytes):MDef P w K mg base 4 "put" p_put:=
  mdef D zc17 1 3 rfl rfl fun f cdv A outer s H E hr=>(mss_cons (ms_set 1 zc17.nd (me_call zd18 hr (by decide) (ma_cons (me_var 0) ma_nil)))
  (mss_cons (ms_set 2 zc17.nd (me_op o_add (me_op o_add (me_lst (ma_cons me_int (ma_cons me_int ma_nil))) (me_call zd20 hr (by decide) (ma_cons (me_ix ix_ok (me_var 0) (me_gint g.zc20)) ma_nil))) (me_callTy c_list g.b_list PyProof.Rows.boot_list (ma_cons (me_ix ix_ok (me_var 0) (me_gint g.zc5)) ma_nil))))
  (mss_one (ms_ret (me_op o_add (me_op o_add (me_var 1) (me_call zd21 hr (by decide) (ma_cons (me_call zd13 hr (by decide) (ma_cons (me_op o_add (me_op o_add (me_var 1) (me_lst (ma_cons me_int (ma_cons me_int ma_nil)))) (me_var 2)) ma_nil)) ma_nil))) (me_var 2))))))
theorem zo24 (D:Def0 K mg "head_of" zs24 zP24) (g:Glb K mg) :MDef P w K mg base 1 "head_of" p_head_of:=
  mdef D zc24 1 1 rfl rfl fun f cdv A outer s H E hr=>(mss_one (ms_ret (me_op o_mul (me_op o_div (me_ix ix_ok (me_var 0) me_int) me_int) me_int)))
theorem zo27 (D:Def0 K mg "two_at" zs27 zP27) (g:Glb K mg) :MDef P w K mg base 1 "two_at" p_two_at:=
  mdef D zc27 2 2 rfl rfl fun f cdv A outer s H E hr=>(mss_one (ms_ret (me_op o_add (me_op o_mul me_int (me_ix ix_ok (me_var 0) (me_var 1))) (me_ix ix_ok (me_var 0) (me_op o_add (me_var 1) me_int)))))
theorem zo25 (D:Def0 K mg "is_right_long_head" zs25 zP25) (g:Glb K mg) (zd15:MDef P w K mg base 1 "has" p_has) (zd27:MDef P w K mg base 1 "two_at" p_two_at):MDef P w K mg base 2 "is_right_long_head" p_is_right_long_head:=
  mdef D zc25 1 1 rfl rfl fun f cdv A outer s H E hr=>(mss_one (ms_ret (me_and (me_cmp (o_eq hr.units) (me_call zd15 hr (by decide) (ma_cons (me_ix ix_ok (me_var 0) me_int) (ma_cons (me_gint g.zc35) ma_nil))) me_int) (me_and (me_cmp (o_eq hr.units) (me_ix ix_ok (me_var 0) me_int) me_int) (me_and (me_cmp (o_eq hr.units) (me_ix ix_ok (me_var 0) me_int) me_int) (me_one (me_cmp o_ge (me_call zd27 hr (by decide) (ma_cons (me_var 0) (ma_cons me_int ma_nil))) (me_gint g.zc16))))))))
theorem zo23 (D:Def0 K mg "is_right" zs23 zP23) (g:Glb K mg) (zd19:MDef P w K mg base 1 "byte_of_head" p_byte_of_head) (zd12:MDef P w K mg base 1 "folded" p_folded) (zd24:MDef P w K mg base 1 "head_of" p_head_of) (zd25:MDef P w K mg base 2 "is_right_long_head" p_is_right_long_head) (zd27:MDef P w K mg base 1 "two_at" p_two_at):MDef P w K mg base 3 "is_right" p_is_right:=
  mdef D zc23 1 1 rfl rfl fun f cdv A outer s H E hr=>(mss_one (ms_ret (me_and (me_cmp o_ge (me_callB c_len g.b_len PySem.boot_len (ma_cons (me_var 0) ma_nil)) (me_gint g.zc33)) (me_and (me_cmp o_in (me_ix ix_ok (me_var 0) me_int) (me_tup (ma_cons (me_call zd19 hr (by decide) (ma_cons (me_gint g.zc33) ma_nil)) (ma_cons (me_call zd19 hr (by decide) (ma_cons (me_gint g.zc19) ma_nil)) ma_nil))) (by with_unfolding_all rfl)) (me_and (me_cmp o_le (me_ix ix_ok (me_var 0) me_int) (me_gint g.zc11)) (me_and (me_chain o_le o_le me_int (me_op o_sub (me_callB c_len g.b_len PySem.boot_len (ma_cons (me_var 0) ma_nil)) (me_call zd24 hr (by decide) (ma_cons (me_var 0) ma_nil))) (me_gint g.zc10)) (me_and (me_cmp (o_eq hr.units) (me_call zd27 hr (by decide) (ma_cons (me_var 0) (ma_cons me_int ma_nil))) me_int) (me_and (me_or (me_cmp (o_eq hr.units) (me_call zd24 hr (by decide) (ma_cons (me_var 0) ma_nil)) (me_gint g.zc33)) (me_one (me_call zd25 hr (by decide) (ma_cons (me_var 0) ma_nil)))) (me_one (me_cmp (o_eq hr.units) (me_call zd12 hr (by decide) (ma_cons (me_var 0) ma_nil)) (me_gint g.zc29)))))))))))
theorem zo28 (D:Def0 K mg "four_at" zs28 zP28) (g:Glb K mg) (zd27:MDef P w K mg base 1 "two_at" p_two_at):MDef P w K mg base 2 "four_at" p_four_at:=
  mdef D zc28 2 2 rfl rfl fun f cdv A outer s H E hr=>(mss_one (ms_ret (me_op o_add (me_op o_mul me_int (me_call zd27 hr (by decide) (ma_cons (me_var 0) (ma_cons (me_var 1) ma_nil)))) (me_call zd27 hr (by decide) (ma_cons (me_var 0) (ma_cons (me_op o_add (me_var 1) me_int) ma_nil))))))
theorem zo26 (D:Def0 K mg "get" zs26 zP26) (g:Glb K mg) (zd28:MDef P w K mg base 2 "four_at" p_four_at) (zd24:MDef P w K mg base 1 "head_of" p_head_of) (zd23:MDef P w K mg base 3 "is_right" p_is_right) (zd27:MDef P w K mg base 1 "two_at" p_two_at):MDef P w K mg base 4 "get" p_get:=
  mdef D zc26 1 5 rfl rfl fun f cdv A outer s H E hr=>(mss_cons (ms_if (mt_not (mt_truth (me_call zd23 hr (by decide) (ma_cons (me_var 0) ma_nil)))) (mss_one ms_never) mss_nil)
  (mss_cons (ms_set 1 zc26.nd (me_call zd24 hr (by decide) (ma_cons (me_var 0) ma_nil)))
  (mss_cons (ms_set 2 zc26.nd (me_ite (mt_cmp (o_eq hr.units) (me_var 1) (me_gint g.zc19)) (me_call zd27 hr (by decide) (ma_cons (me_var 0) (ma_cons me_int ma_nil))) me_int))
  (mss_cons (ms_set 3 zc26.nd (me_tup (ma_cons (me_call zd27 hr (by decide) (ma_cons (me_var 0) (ma_cons me_int ma_nil))) (ma_cons (me_call zd27 hr (by decide) (ma_cons (me_var 0) (ma_cons me_int ma_nil))) ma_nil))))
  (mss_cons (ms_set 4 zc26.nd (me_tup (ma_cons (me_call zd28 hr (by decide) (ma_cons (me_var 0) (ma_cons me_int ma_nil))) (ma_cons (me_call zd28 hr (by decide) (ma_cons (me_var 0) (ma_cons me_int ma_nil))) ma_nil))))
  (mss_one (ms_ret (me_op o_add (me_op o_add (me_var 3) (me_var 4)) (me_tup (ma_cons (me_ix ix_ok (me_var 0) me_int) (ma_cons (me_call zd27 hr (by decide) (ma_cons (me_var 0) (ma_cons me_int ma_nil))) (ma_cons (me_var 2) (ma_cons (me_callTy c_tuple g.b_tuple PyProof.Rows.boot_tuple (ma_cons (me_slice (me_var 0) (mo_some (me_var 1)) mo_none) ma_nil)) ma_nil)))))))))))))
theorem zo29 (D:Def0 K mg "reset_for" zs29 zP29) (g:Glb K mg) (zd16:MDef P w K mg base 2 "bears" p_bears) (zd14:MDef P w K mg base 2 "length" p_length) (zd4:MDef P w K mg base 1 "plus" p_plus):MDef P w K mg base 3 "reset_for" p_reset_for:=
  mdef D zc29 1 2 rfl rfl fun f cdv A outer s H E hr=>(mss_cons (ms_set 1 zc29.nd (me_tup (ma_cons (me_ix ix_ok (me_var 0) (me_gint g.zc9)) (ma_cons (me_ix ix_ok (me_var 0) (me_gint g.zc34)) ma_nil))))
  (mss_cons (ms_if (mt_truth (me_call zd16 hr (by decide) (ma_cons (me_var 0) (ma_cons (me_gint g.zc0) ma_nil)))) (mss_one (ms_ret (me_op o_add (me_var 1) (me_tup (ma_cons (me_ix ix_ok (me_var 0) (me_gint g.zc1)) (ma_cons me_int (ma_cons (me_gint g.zc32) (ma_cons me_int (ma_cons me_int (ma_cons (me_tup ma_nil) ma_nil)))))))))) mss_nil)
  (mss_one (ms_ret (me_op o_add (me_var 1) (me_tup (ma_cons me_int (ma_cons (me_call zd4 hr (by decide) (ma_cons (me_ix ix_ok (me_var 0) (me_gint g.zc24)) (ma_cons (me_call zd14 hr (by decide) (ma_cons (me_var 0) ma_nil)) ma_nil))) (ma_cons (me_op o_add (me_gint g.zc32) (me_gint g.zc0)) (ma_cons me_int (ma_cons me_int (ma_cons (me_tup ma_nil) ma_nil))))))))))))
theorem zo30 (D:Def0 K mg "owe_reset_for" zs30 zP30) (g:Glb K mg) (zd16:MDef P w K mg base 2 "bears" p_bears) (zd29:MDef P w K mg base 3 "reset_for" p_reset_for):MDef P w K mg base 4 "owe_reset_for" p_owe_reset_for:=
  mdef D zc30 2 2 rfl rfl fun f cdv A outer s H E hr=>(mss_one (ms_if (mt_not (mt_truth (me_call zd16 hr (by decide) (ma_cons (me_var 1) (ma_cons (me_gint g.zc32) ma_nil))))) (mss_one (ms_fld (all1 ⟨g.k_End,g.zn10⟩) (me_var 0) (me_call zd29 hr (by decide) (ma_cons (me_var 1) ma_nil)))) mss_nil))
theorem zo31 (D:Def0 K mg "come_to_closed" zs31 zP31) (g:Glb K mg) (zd30:MDef P w K mg base 4 "owe_reset_for" p_owe_reset_for):MDef P w K mg base 5 "come_to_closed" p_come_to_closed:=
  mdef D zc31 2 2 rfl rfl fun f cdv A outer s H E hr=>(mss_one (ms_expr (me_call zd30 hr (by decide) (ma_cons (me_var 0) (ma_cons (me_var 1) ma_nil)))))
theorem zo33 (D:Def0 K mg "hear_syn" zs33 zP33) (g:Glb K mg) (zd16:MDef P w K mg base 2 "bears" p_bears) (zd4:MDef P w K mg base 1 "plus" p_plus):MDef P w K mg base 3 "hear_syn" p_hear_syn:=
  mdef D zc33 2 2 rfl rfl fun f cdv A outer s H E hr=>(mss_cons (ms_fld (all1 ⟨g.k_End,g.zn14⟩) (me_var 0) (me_call zd4 hr (by decide) (ma_cons (me_ix ix_ok (me_var 1) (me_gint g.zc24)) (ma_cons me_int ma_nil))))
  (mss_cons (ms_fld (all1 ⟨g.k_End,g.zn23⟩) (me_var 0) (me_ix ix_ok (me_var 1) (me_gint g.zc42)))
  (mss_cons (ms_fld (all1 ⟨g.k_End,g.zn18⟩) (me_var 0) (me_ix ix_ok (me_var 1) (me_gint g.zc24)))
  (mss_cons (ms_fld (all1 ⟨g.k_End,g.zn19⟩) (me_var 0) (me_ite (mt_truth (me_call zd16 hr (by decide) (ma_cons (me_var 1) (ma_cons (me_gint g.zc0) ma_nil)))) (me_ix ix_ok (me_var 1) (me_gint g.zc1)) me_int))
  (mss_one (ms_if (mt_cmp (o_ne hr.units) (me_ix ix_ok (me_var 1) (me_gint g.zc20)) me_int) (mss_one (ms_fld (all1 ⟨g.k_End,g.zn7⟩) (me_var 0) (me_ix ix_ok (me_var 1) (me_gint g.zc20)))) mss_nil))))))
theorem zo32 (D:Def0 K mg "come_to_listen" zs32 zP32) (g:Glb K mg) (zd16:MDef P w K mg base 2 "bears" p_bears) (zd33:MDef P w K mg base 3 "hear_syn" p_hear_syn) (zd30:MDef P w K mg base 4 "owe_reset_for" p_owe_reset_for):MDef P w K mg base 5 "come_to_listen" p_come_to_listen:=
  mdef D zc32 2 2 rfl rfl fun f cdv A outer s H E hr=>(mss_cons (ms_if (mt_truth (me_call zd16 hr (by decide) (ma_cons (me_var 1) (ma_cons (me_gint g.zc32) ma_nil)))) (mss_one ms_retN) mss_nil)
  (mss_one (ms_if (mt_truth (me_call zd16 hr (by decide) (ma_cons (me_var 1) (ma_cons (me_gint g.zc0) ma_nil)))) (mss_one (ms_expr (me_call zd30 hr (by decide) (ma_cons (me_var 0) (ma_cons (me_var 1) ma_nil))))) (mss_one (ms_if (mt_truth (me_call zd16 hr (by decide) (ma_cons (me_var 1) (ma_cons (me_gint g.zc35) ma_nil)))) (mss_cons (ms_fld (all1 ⟨g.k_End,g.zn17⟩) (me_var 0) (me_ix ix_ok (me_var 1) (me_gint g.zc34)))
      (mss_cons (ms_expr (me_call zd33 hr (by decide) (ma_cons (me_var 0) (ma_cons (me_var 1) ma_nil))))
      (mss_one (ms_fld (all1 ⟨g.k_End,g.zn16⟩) (me_var 0) (me_gstr g.zc36))))) mss_nil)))))
theorem zo35 (D:Def0 K mg "answers_syn" zs35 zP35) (g:Glb K mg) (zd4:MDef P w K mg base 1 "plus" p_plus):MDef P w K mg base 2 "answers_syn" p_answers_syn:=
  mdef D zc35 2 2 rfl rfl fun f cdv A outer s H E hr=>(mss_one (ms_ret (me_and (me_cmp (o_ne hr.units) (me_fld (all1 ⟨g.k_End,g.zn8⟩) (me_var 0)) (me_fld (all1 ⟨g.k_End,g.zn5⟩) (me_var 0))) (me_one (me_cmp (o_eq hr.units) (me_ix ix_ok (me_var 1) (me_gint g.zc1)) (me_call zd4 hr (by decide) (ma_cons (me_fld (all1 ⟨g.k_End,g.zn5⟩) (me_var 0)) (ma_cons me_int ma_nil))))))))
theorem zo37 (D:Def0 K mg "go_on_from_syn_sent" zs37 zP37) (g:Glb K mg) (zd16:MDef P w K mg base 2 "bears" p_bears) (zd8:MDef P w K mg base 1 "start_timer" p_start_timer):MDef P w K mg base 3 "go_on_from_syn_sent" p_go_on_from_syn_sent:=
  mdef D zc37 3 3 rfl rfl fun f cdv A outer s H E hr=>(mss_one (ms_if (mt_truth (me_call zd16 hr (by decide) (ma_cons (me_var 1) (ma_cons (me_gint g.zc0) ma_nil)))) (mss_cons (ms_fld (all1 ⟨g.k_End,g.zn21⟩) (me_var 0) (me_ix ix_ok (me_var 1) (me_gint g.zc1)))
    (mss_cons (ms_fld (all1 ⟨g.k_End,g.zn16⟩) (me_var 0) (me_gstr g.zc25))
    (mss_one (ms_fld (all1 ⟨g.k_End,g.zn11⟩) (me_var 0) me_bl)))) (mss_cons (ms_fld (all1 ⟨g.k_End,g.zn16⟩) (me_var 0) (me_gstr g.zc36))
    (mss_cons (ms_expr (me_call zd8 hr (by decide) (ma_cons (me_var 0) (ma_cons (me_var 2) ma_nil))))
    (mss_one (ms_fld (all1 ⟨g.k_End,g.zn12⟩) (me_var 0) me_bl))))))
theorem zo36 (D:Def0 K mg "refuse" zs36 zP36) (g:Glb K mg) (zd16:MDef P w K mg base 2 "bears" p_bears):MDef P w K mg base 3 "refuse" p_refuse:=
  mdef D zc36 2 2 rfl rfl fun f cdv A outer s H E hr=>(mss_one (ms_if (mt_truth (me_call zd16 hr (by decide) (ma_cons (me_var 1) (ma_cons (me_gint g.zc0) ma_nil)))) (mss_cons (ms_fld (all1 ⟨g.k_End,g.zn16⟩) (me_var 0) (me_gstr g.zc2))
    (mss_one (ms_fld (all1 ⟨g.k_End,g.zn4⟩) (me_var 0) (me_gstr g.zc27)))) mss_nil))
theorem zo34 (D:Def0 K mg "come_to_syn_sent" zs34 zP34) (g:Glb K mg) (zd35:MDef P w K mg base 2 "answers_syn" p_answers_syn) (zd16:MDef P w K mg base 2 "bears" p_bears) (zd37:MDef P w K mg base 3 "go_on_from_syn_sent" p_go_on_from_syn_sent) (zd33:MDef P w K mg base 3 "hear_syn" p_hear_syn) (zd30:MDef P w K mg base 4 "owe_reset_for" p_owe_reset_for) (zd36:MDef P w K mg base 3 "refuse" p_refuse):MDef P w K mg base 5 "come_to_syn_sent" p_come_to_syn_sent:=
  mdef D zc34 3 3 rfl rfl fun f cdv A outer s H E hr=>(mss_one (ms_if (MW.mt (mw_and (mt_truth (me_call zd16 hr (by decide) (ma_cons (me_var 1) (ma_cons (me_gint g.zc0) ma_nil)))) (mw_one_and (mt_not (mt_truth (me_call zd35 hr (by decide) (ma_cons (me_var 0) (ma_cons (me_var 1) ma_nil)))))))) (mss_one (ms_expr (me_call zd30 hr (by decide) (ma_cons (me_var 0) (ma_cons (me_var 1) ma_nil))))) (mss_one (ms_if (mt_truth (me_call zd16 hr (by decide) (ma_cons (me_var 1) (ma_cons (me_gint g.zc32) ma_nil)))) (mss_one (ms_expr (me_call zd36 hr (by decide) (ma_cons (me_var 0) (ma_cons (me_var 1) ma_nil))))) (mss_one (ms_if (mt_truth (me_call zd16 hr (by decide) (ma_cons (me_var 1) (ma_cons (me_gint g.zc35) ma_nil)))) (mss_cons (ms_expr (me_call zd33 hr (by decide) (ma_cons (me_var 0) (ma_cons (me_var 1) ma_nil))))
        (mss_one (ms_expr (me_call zd37 hr (by decide) (ma_cons (me_var 0) (ma_cons (me_var 1) (ma_cons (me_var 2) ma_nil))))))) mss_nil))))))
theorem zo42 (D:Def0 K mg "is_in_window" zs42 zP42) (g:Glb K mg) (zd5:MDef P w K mg base 1 "offset" p_offset) (zd10:MDef P w K mg base 2 "our_window" p_our_window):MDef P w K mg base 3 "is_in_window" p_is_in_window:=
  mdef D zc42 2 2 rfl rfl fun f cdv A outer s H E hr=>(mss_one (ms_ret (me_chain o_le o_lt me_int (me_call zd5 hr (by decide) (ma_cons (me_var 1) (ma_cons (me_fld (all1 ⟨g.k_End,g.zn14⟩) (me_var 0)) ma_nil))) (me_call zd10 hr (by decide) (ma_cons (me_var 0) ma_nil)))))
theorem zo41 (D:Def0 K mg "fits" zs41 zP41) (g:Glb K mg) (zd42:MDef P w K mg base 3 "is_in_window" p_is_in_window) (zd14:MDef P w K mg base 2 "length" p_length) (zd5:MDef P w K mg base 1 "offset" p_offset) (zd4:MDef P w K mg base 1 "plus" p_plus):MDef P w K mg base 4 "fits" p_fits:=
  mdef D zc41 2 4 rfl rfl fun f cdv A outer s H E hr=>(mss_cons (ms_set 2 zc41.nd (me_call zd14 hr (by decide) (ma_cons (me_var 1) ma_nil)))
  (mss_cons (ms_if (mt_cmp (o_eq hr.units) (me_var 2) me_int) (mss_one (ms_ret (me_chain o_le o_le me_int (me_call zd5 hr (by decide) (ma_cons (me_ix ix_ok (me_var 1) (me_gint g.zc24)) (ma_cons (me_fld (all1 ⟨g.k_End,g.zn14⟩) (me_var 0)) ma_nil))) (me_gint g.zc30)))) mss_nil)
  (mss_cons (ms_set 3 zc41.nd (me_call zd4 hr (by decide) (ma_cons (me_ix ix_ok (me_var 1) (me_gint g.zc24)) (ma_cons (me_op o_sub (me_var 2) me_int) ma_nil))))
  (mss_one (ms_ret (me_or (me_call zd42 hr (by decide) (ma_cons (me_var 0) (ma_cons (me_ix ix_ok (me_var 1) (me_gint g.zc24)) ma_nil))) (me_one (me_call zd42 hr (by decide) (ma_cons (me_var 0) (ma_cons (me_var 3) ma_nil))))))))))
theorem zo50 (D:Def0 K mg "end_what_is_acknowledged" zs50 zP50) (g:Glb K mg) (zd11:MDef P w K mg base 3 "has_sent_fin" p_has_sent_fin):MDef P w K mg base 4 "end_what_is_acknowledged" p_end_what_is_acknowledged:=
  mdef D zc50 2 2 rfl rfl fun f cdv A outer s H E hr=>(mss_cons (ms_if (MW.mt (mw_or (mt_not (mt_truth (me_call zd11 hr (by decide) (ma_cons (me_var 0) ma_nil)))) (mw_one_or (mt_cmp (o_ne hr.units) (me_fld (all1 ⟨g.k_End,g.zn21⟩) (me_var 0)) (me_fld (all1 ⟨g.k_End,g.zn8⟩) (me_var 0)))))) (mss_one ms_retN) mss_nil)
  (mss_one (ms_if (mt_cmp (o_eq hr.units) (me_fld (all1 ⟨g.k_End,g.zn16⟩) (me_var 0)) (me_gstr g.zc40)) (mss_one (ms_fld (all1 ⟨g.k_End,g.zn16⟩) (me_var 0) (me_gstr g.zc41))) (mss_one (ms_if (mt_cmp (o_eq hr.units) (me_fld (all1 ⟨g.k_End,g.zn16⟩) (me_var 0)) (me_gstr g.zc4)) (mss_cons (ms_fld (all1 ⟨g.k_End,g.zn16⟩) (me_var 0) (me_gstr g.zc39))
      (mss_one (ms_fld (all1 ⟨g.k_End,g.zn15⟩) (me_var 0) (me_var 1)))) (mss_one (ms_if (mt_cmp (o_eq hr.units) (me_fld (all1 ⟨g.k_End,g.zn16⟩) (me_var 0)) (me_gstr g.zc14)) (mss_one (ms_fld (all1 ⟨g.k_End,g.zn16⟩) (me_var 0) (me_gstr g.zc2))) mss_nil)))))))
theorem zo47 (D:Def0 K mg "take_window" zs47 zP47) (g:Glb K mg) :MDef P w K mg base 1 "take_window" p_take_window:=
  mdef D zc47 2 2 rfl rfl fun f cdv A outer s H E hr=>(mss_cons (ms_fld (all1 ⟨g.k_End,g.zn23⟩) (me_var 0) (me_ix ix_ok (me_var 1) (me_gint g.zc42)))
  (mss_cons (ms_fld (all1 ⟨g.k_End,g.zn18⟩) (me_var 0) (me_ix ix_ok (me_var 1) (me_gint g.zc24)))
  (mss_one (ms_fld (all1 ⟨g.k_End,g.zn19⟩) (me_var 0) (me_ix ix_ok (me_var 1) (me_gint g.zc1))))))
theorem zo46 (D:Def0 K mg "has_answered_syn" zs46 zP46) (g:Glb K mg) (zd30:MDef P w K mg base 4 "owe_reset_for" p_owe_reset_for) (zd47:MDef P w K mg base 1 "take_window" p_take_window):MDef P w K mg base 5 "has_answered_syn" p_has_answered_syn:=
  mdef D zc46 2 2 rfl rfl fun f cdv A outer s H E hr=>(mss_cons (ms_if (MW.mt (mw_or (mt_cmp (o_eq hr.units) (me_fld (all1 ⟨g.k_End,g.zn8⟩) (me_var 0)) (me_fld (all1 ⟨g.k_End,g.zn5⟩) (me_var 0))) (mw_one_or (mt_cmp (o_ne hr.units) (me_ix ix_ok (me_var 1) (me_gint g.zc1)) (me_fld (all1 ⟨g.k_End,g.zn8⟩) (me_var 0)))))) (mss_cons (ms_expr (me_call zd30 hr (by decide) (ma_cons (me_var 0) (ma_cons (me_var 1) ma_nil))))
    (mss_one (ms_ret me_bl))) mss_nil)
  (mss_cons (ms_fld (all1 ⟨g.k_End,g.zn21⟩) (me_var 0) (me_ix ix_ok (me_var 1) (me_gint g.zc1)))
  (mss_cons (ms_fld (all1 ⟨g.k_End,g.zn16⟩) (me_var 0) (me_ite (mt_truth (me_fld (all1 ⟨g.k_End,g.zn6⟩) (me_var 0))) (me_gstr g.zc40) (me_gstr g.zc25)))
  (mss_cons (ms_expr (me_call zd47 hr (by decide) (ma_cons (me_var 0) (ma_cons (me_var 1) ma_nil))))
  (mss_one (ms_ret me_bl))))))
theorem zo49 (D:Def0 K mg "is_newer" zs49 zP49) (g:Glb K mg) (zd6:MDef P w K mg base 2 "past" p_past):MDef P w K mg base 3 "is_newer" p_is_newer:=
  mdef D zc49 2 2 rfl rfl fun f cdv A outer s H E hr=>(mss_cons (ms_if (mt_cmp (o_eq hr.units) (me_ix ix_ok (me_var 1) (me_gint g.zc24)) (me_fld (all1 ⟨g.k_End,g.zn18⟩) (me_var 0))) (mss_one (ms_ret (me_not (me_call zd6 hr (by decide) (ma_cons (me_fld (all1 ⟨g.k_End,g.zn19⟩) (me_var 0)) (ma_cons (me_ix ix_ok (me_var 1) (me_gint g.zc1)) ma_nil)))))) mss_nil)
  (mss_one (ms_ret (me_call zd6 hr (by decide) (ma_cons (me_ix ix_ok (me_var 1) (me_gint g.zc24)) (ma_cons (me_fld (all1 ⟨g.k_End,g.zn18⟩) (me_var 0)) ma_nil))))))
theorem zo48 (D:Def0 K mg "hear_answer" zs48 zP48) (g:Glb K mg) (zd49:MDef P w K mg base 3 "is_newer" p_is_newer) (zd5:MDef P w K mg base 1 "offset" p_offset) (zd6:MDef P w K mg base 2 "past" p_past) (zd8:MDef P w K mg base 1 "start_timer" p_start_timer) (zd3:MDef P w K mg base 1 "take" p_take) (zd47:MDef P w K mg base 1 "take_window" p_take_window):MDef P w K mg base 4 "hear_answer" p_hear_answer:=
  mdef D zc48 3 6 rfl rfl fun f cdv A outer s H E hr=>(mss_cons (ms_set 3 zc48.nd (me_ix ix_ok (me_var 1) (me_gint g.zc1)))
  (mss_cons (ms_set 4 zc48.nd (me_call zd6 hr (by decide) (ma_cons (me_var 3) (ma_cons (me_fld (all1 ⟨g.k_End,g.zn21⟩) (me_var 0)) ma_nil))))
  (mss_cons (ms_if (mt_truth (me_var 4)) (mss_cons (ms_expr (me_call zd3 hr (by decide) (ma_cons (me_fld (all1 ⟨g.k_End,g.zn24⟩) (me_var 0)) (ma_cons (me_call zd5 hr (by decide) (ma_cons (me_var 3) (ma_cons (me_fld (all1 ⟨g.k_End,g.zn21⟩) (me_var 0)) ma_nil))) ma_nil))))
    (mss_cons (ms_fld (all1 ⟨g.k_End,g.zn21⟩) (me_var 0) (me_var 3))
    (mss_one (ms_if (mt_cmp (o_ne hr.units) (me_fld (all1 ⟨g.k_End,g.zn21⟩) (me_var 0)) (me_fld (all1 ⟨g.k_End,g.zn8⟩) (me_var 0))) (mss_one (ms_expr (me_call zd8 hr (by decide) (ma_cons (me_var 0) (ma_cons (me_var 2) ma_nil))))) mss_nil)))) mss_nil)
  (mss_cons (ms_if (mt_truth (me_call zd6 hr (by decide) (ma_cons (me_fld (all1 ⟨g.k_End,g.zn21⟩) (me_var 0)) (ma_cons (me_var 3) ma_nil)))) (mss_one ms_retN) mss_nil)
  (mss_cons (ms_set 5 zc48.nd (me_cmp (o_eq hr.units) (me_fld (all1 ⟨g.k_End,g.zn23⟩) (me_var 0)) me_int))
  (mss_cons (ms_if (MW.mt (mw_or (mt_truth (me_var 4)) (mw_one_or (mt_truth (me_call zd49 hr (by decide) (ma_cons (me_var 0) (ma_cons (me_var 1) ma_nil))))))) (mss_one (ms_expr (me_call zd47 hr (by decide) (ma_cons (me_var 0) (ma_cons (me_var 1) ma_nil))))) mss_nil)
  (mss_one (ms_if (MW.mt (mw_or (mt_truth (me_var 5)) (mw_one_or (mt_cmp (o_eq hr.units) (me_fld (all1 ⟨g.k_End,g.zn23⟩) (me_var 0)) me_int)))) (mss_one (ms_fld (all1 ⟨g.k_End,g.zn20⟩) (me_var 0) me_int)) mss_nil))))))))
theorem zo45 (D:Def0 K mg "goes_on_behind_answer" zs45 zP45) (g:Glb K mg) (zd50:MDef P w K mg base 4 "end_what_is_acknowledged" p_end_what_is_acknowledged) (zd46:MDef P w K mg base 5 "has_answered_syn" p_has_answered_syn) (zd48:MDef P w K mg base 4 "hear_answer" p_hear_answer) (zd6:MDef P w K mg base 2 "past" p_past):MDef P w K mg base 6 "goes_on_behind_answer" p_goes_on_behind_answer:=
  mdef D zc45 3 3 rfl rfl fun f cdv A outer s H E hr=>(mss_cons (ms_if (mt_cmp (o_eq hr.units) (me_fld (all1 ⟨g.k_End,g.zn16⟩) (me_var 0)) (me_gstr g.zc36)) (mss_one (ms_ret (me_call zd46 hr (by decide) (ma_cons (me_var 0) (ma_cons (me_var 1) ma_nil))))) mss_nil)
  (mss_cons (ms_if (mt_truth (me_call zd6 hr (by decide) (ma_cons (me_ix ix_ok (me_var 1) (me_gint g.zc1)) (ma_cons (me_fld (all1 ⟨g.k_End,g.zn8⟩) (me_var 0)) ma_nil)))) (mss_cons (ms_fld (all1 ⟨g.k_End,g.zn11⟩) (me_var 0) me_bl)
    (mss_one (ms_ret me_bl))) mss_nil)
  (mss_cons (ms_expr (me_call zd48 hr (by decide) (ma_cons (me_var 0) (ma_cons (me_var 1) (ma_cons (me_var 2) ma_nil)))))
  (mss_cons (ms_expr (me_call zd50 hr (by decide) (ma_cons (me_var 0) (ma_cons (me_var 2) ma_nil))))
  (mss_one (ms_ret (me_cmp (o_ne hr.units) (me_fld (all1 ⟨g.k_End,g.zn16⟩) (me_var 0)) (me_gstr g.zc2))))))))
theorem zo44 (D:Def0 K mg "hear_reset" zs44 zP44) (g:Glb K mg) :MDef P w K mg base 1 "hear_reset" p_hear_reset:=
  mdef D zc44 2 2 rfl rfl fun f cdv A outer s H E hr=>(mss_cons (ms_if (mt_cmp (o_eq hr.units) (me_fld (all1 ⟨g.k_End,g.zn16⟩) (me_var 0)) (me_gstr g.zc39)) (mss_one ms_retN) mss_nil)
  (mss_one (ms_if (mt_cmp (o_eq hr.units) (me_ix ix_ok (me_var 1) (me_gint g.zc24)) (me_fld (all1 ⟨g.k_End,g.zn14⟩) (me_var 0))) (mss_cons (ms_fld (all1 ⟨g.k_End,g.zn16⟩) (me_var 0) (me_gstr g.zc2))
    (mss_one (ms_fld (all1 ⟨g.k_End,g.zn4⟩) (me_var 0) (me_gstr g.zc28)))) (mss_one (ms_fld (all1 ⟨g.k_End,g.zn11⟩) (me_var 0) me_bl)))))
theorem zo54 (D:Def0 K mg "draw_in_order" zs54 zP54) (g:Glb K mg) (zd2:MDef P w K mg base 2 "lay" p_lay) (zd4:MDef P w K mg base 1 "plus" p_plus):MDef P w K mg base 3 "draw_in_order" p_draw_in_order:=
  mdef D zc54 1 2 rfl rfl fun f cdv A outer s H E hr=>(mss_cons (ms_setOwn 1 zc54.nd ma_nil)
  (mss_cons (ms_while 200 PassesOwn.never (MW.mt (mw_and (mt_cmp (o_ne hr.units) (me_fld (all1 ⟨g.k_End,g.zn14⟩) (me_var 0)) (me_fld (all1 ⟨g.k_End,g.zn3⟩) (me_var 0))) (mw_one_and (mt_din hr (me_fld (all1 ⟨g.k_End,g.zn14⟩) (me_var 0)) (me_fld (all1 ⟨g.k_End,g.zn2⟩) (me_var 0)))))) (mss_cons (ms_append 1 (me_dpop (me_fld (all1 ⟨g.k_End,g.zn2⟩) (me_var 0)) (me_fld (all1 ⟨g.k_End,g.zn14⟩) (me_var 0)) ⟨rfl,rfl,rfl,rfl⟩) (hpe:=fun h=>pe_bm PySem.F.plainAttrs_list PySem.F.slot_list_append PySem.F.type_list_append mt_append h (pa_cons (me_dpop (me_fld (all1 ⟨g.k_End,g.zn2⟩) (me_var 0)) (me_fld (all1 ⟨g.k_End,g.zn14⟩) (me_var 0)) ⟨rfl,rfl,rfl,rfl⟩) pa_nil)))
    (mss_one (ms_fld (all1 ⟨g.k_End,g.zn14⟩) (me_var 0) (me_call zd4 hr (by decide) (ma_cons (me_fld (all1 ⟨g.k_End,g.zn14⟩) (me_var 0)) (ma_cons me_int ma_nil)))))))
  (mss_one (ms_freeze 1 (ms_expr (me_call zd2 hr (by decide) (ma_cons (me_fld (all1 ⟨g.k_End,g.zn1⟩) (me_var 0)) (ma_cons (me_var 1) ma_nil))))))))
theorem zo55 (D:Def0 K mg "hear_fin" zs55 zP55) (g:Glb K mg) (zd4:MDef P w K mg base 1 "plus" p_plus):MDef P w K mg base 2 "hear_fin" p_hear_fin:=
  mdef D zc55 2 2 rfl rfl fun f cdv A outer s H E hr=>(mss_cons (ms_fld (all1 ⟨g.k_End,g.zn14⟩) (me_var 0) (me_call zd4 hr (by decide) (ma_cons (me_fld (all1 ⟨g.k_End,g.zn14⟩) (me_var 0)) (ma_cons me_int ma_nil))))
  (mss_one (ms_if (mt_cmp (o_eq hr.units) (me_fld (all1 ⟨g.k_End,g.zn16⟩) (me_var 0)) (me_gstr g.zc25)) (mss_one (ms_fld (all1 ⟨g.k_End,g.zn16⟩) (me_var 0) (me_gstr g.zc3))) (mss_one (ms_if (mt_cmp (o_eq hr.units) (me_fld (all1 ⟨g.k_End,g.zn16⟩) (me_var 0)) (me_gstr g.zc40)) (mss_one (ms_fld (all1 ⟨g.k_End,g.zn16⟩) (me_var 0) (me_gstr g.zc4))) (mss_cons (ms_fld (all1 ⟨g.k_End,g.zn16⟩) (me_var 0) (me_gstr g.zc39))
      (mss_one (ms_fld (all1 ⟨g.k_End,g.zn15⟩) (me_var 0) (me_var 1)))))))))
theorem zo52 (D:Def0 K mg "keep_data" zs52 zP52) (g:Glb K mg) (zd42:MDef P w K mg base 3 "is_in_window" p_is_in_window) (zd4:MDef P w K mg base 1 "plus" p_plus):MDef P w K mg base 4 "keep_data" p_keep_data:=
  mdef D zc52 2 5 rfl rfl fun f cdv A outer s H E hr=>(mss_cons (ms_forE 2 3 zc52.nd PassesOwn.never g.b_enumerate (ma_cons (me_ix ix_ok (me_var 1) (me_gint g.zc5)) ma_nil) (mss_cons (ms_set 4 zc52.nd (me_call zd4 hr (by decide) (ma_cons (me_ix ix_ok (me_var 1) (me_gint g.zc24)) (ma_cons (me_var 2) ma_nil))))
    (mss_one (ms_if (mt_truth (me_call zd42 hr (by decide) (ma_cons (me_var 0) (ma_cons (me_var 4) ma_nil)))) (mss_one (ms_expr (me_dsetd (me_fld (all1 ⟨g.k_End,g.zn2⟩) (me_var 0)) (me_var 4) (me_var 3) ⟨rfl,rfl,rfl,rfl⟩))) mss_nil))))
  (mss_one (ms_if (mt_cmp o_gt (me_callB c_len g.b_len PySem.boot_len (ma_cons (me_ix ix_ok (me_var 1) (me_gint g.zc5)) ma_nil)) me_int) (mss_one (ms_fld (all1 ⟨g.k_End,g.zn11⟩) (me_var 0) me_bl)) mss_nil)))
theorem zo53 (D:Def0 K mg "keep_fin" zs53 zP53) (g:Glb K mg) (zd16:MDef P w K mg base 2 "bears" p_bears) (zd42:MDef P w K mg base 3 "is_in_window" p_is_in_window) (zd4:MDef P w K mg base 1 "plus" p_plus):MDef P w K mg base 4 "keep_fin" p_keep_fin:=
  mdef D zc53 2 3 rfl rfl fun f cdv A outer s H E hr=>(mss_cons (ms_if (mt_not (mt_truth (me_call zd16 hr (by decide) (ma_cons (me_var 1) (ma_cons (me_gint g.zc6) ma_nil))))) (mss_one ms_retN) mss_nil)
  (mss_cons (ms_fld (all1 ⟨g.k_End,g.zn11⟩) (me_var 0) me_bl)
  (mss_cons (ms_set 2 zc53.nd (me_call zd4 hr (by decide) (ma_cons (me_ix ix_ok (me_var 1) (me_gint g.zc24)) (ma_cons (me_callB c_len g.b_len PySem.boot_len (ma_cons (me_ix ix_ok (me_var 1) (me_gint g.zc5)) ma_nil)) ma_nil))))
  (mss_one (ms_if (MW.mt (mw_and (mt_cmp o_is (me_fld (all1 ⟨g.k_End,g.zn3⟩) (me_var 0)) me_non) (mw_one_and (mt_truth (me_call zd42 hr (by decide) (ma_cons (me_var 0) (ma_cons (me_var 2) ma_nil))))))) (mss_one (ms_fld (all1 ⟨g.k_End,g.zn3⟩) (me_var 0) (me_var 2))) mss_nil)))))
theorem zo51 (D:Def0 K mg "hear_stream" zs51 zP51) (g:Glb K mg) (zd54:MDef P w K mg base 3 "draw_in_order" p_draw_in_order) (zd55:MDef P w K mg base 2 "hear_fin" p_hear_fin) (zd52:MDef P w K mg base 4 "keep_data" p_keep_data) (zd53:MDef P w K mg base 4 "keep_fin" p_keep_fin):MDef P w K mg base 5 "hear_stream" p_hear_stream:=
  mdef D zc51 3 3 rfl rfl fun f cdv A outer s H E hr=>(mss_cons (ms_if (mt_cmp o_notin (me_fld (all1 ⟨g.k_End,g.zn16⟩) (me_var 0)) (me_tup (ma_cons (me_gstr g.zc25) (ma_cons (me_gstr g.zc40) (ma_cons (me_gstr g.zc41) ma_nil)))) (by with_unfolding_all rfl)) (mss_one ms_retN) mss_nil)
  (mss_cons (ms_expr (me_call zd52 hr (by decide) (ma_cons (me_var 0) (ma_cons (me_var 1) ma_nil))))
  (mss_cons (ms_expr (me_call zd53 hr (by decide) (ma_cons (me_var 0) (ma_cons (me_var 1) ma_nil))))
  (mss_cons (ms_expr (me_call zd54 hr (by decide) (ma_cons (me_var 0) ma_nil)))
  (mss_one (ms_if (mt_cmp (o_eq hr.units) (me_fld (all1 ⟨g.k_End,g.zn14⟩) (me_var 0)) (me_fld (all1 ⟨g.k_End,g.zn3⟩) (me_var 0))) (mss_one (ms_expr (me_call zd55 hr (by decide) (ma_cons (me_var 0) (ma_cons (me_var 2) ma_nil))))) mss_nil))))))
theorem zo43 (D:Def0 K mg "turn_away" zs43 zP43) (g:Glb K mg) (zd16:MDef P w K mg base 2 "bears" p_bears):MDef P w K mg base 3 "turn_away" p_turn_away:=
  mdef D zc43 3 3 rfl rfl fun f cdv A outer s H E hr=>(mss_cons (ms_if (mt_truth (me_call zd16 hr (by decide) (ma_cons (me_var 1) (ma_cons (me_gint g.zc32) ma_nil)))) (mss_one ms_retN) mss_nil)
  (mss_cons (ms_if (MW.mt (mw_and (mt_cmp (o_eq hr.units) (me_fld (all1 ⟨g.k_End,g.zn16⟩) (me_var 0)) (me_gstr g.zc36)) (mw_and (mt_truth (me_call zd16 hr (by decide) (ma_cons (me_var 1) (ma_cons (me_gint g.zc35) ma_nil)))) (mw_one_and (mt_not (mt_truth (me_call zd16 hr (by decide) (ma_cons (me_var 1) (ma_cons (me_gint g.zc0) ma_nil))))))))) (mss_one (ms_fld (all1 ⟨g.k_End,g.zn12⟩) (me_var 0) me_bl)) (mss_one (ms_fld (all1 ⟨g.k_End,g.zn11⟩) (me_var 0) me_bl)))
  (mss_one (ms_if (mt_cmp (o_eq hr.units) (me_fld (all1 ⟨g.k_End,g.zn16⟩) (me_var 0)) (me_gstr g.zc39)) (mss_one (ms_fld (all1 ⟨g.k_End,g.zn15⟩) (me_var 0) (me_var 2))) mss_nil))))
theorem zo40 (D:Def0 K mg "come_to_stream" zs40 zP40) (g:Glb K mg) (zd16:MDef P w K mg base 2 "bears" p_bears) (zd41:MDef P w K mg base 4 "fits" p_fits) (zd45:MDef P w K mg base 6 "goes_on_behind_answer" p_goes_on_behind_answer) (zd44:MDef P w K mg base 1 "hear_reset" p_hear_reset) (zd51:MDef P w K mg base 5 "hear_stream" p_hear_stream) (zd43:MDef P w K mg base 3 "turn_away" p_turn_away):MDef P w K mg base 7 "come_to_stream" p_come_to_stream:=
  mdef D zc40 3 3 rfl rfl fun f cdv A outer s H E hr=>(mss_one (ms_if (mt_not (mt_truth (me_call zd41 hr (by decide) (ma_cons (me_var 0) (ma_cons (me_var 1) ma_nil))))) (mss_one (ms_expr (me_call zd43 hr (by decide) (ma_cons (me_var 0) (ma_cons (me_var 1) (ma_cons (me_var 2) ma_nil)))))) (mss_one (ms_if (mt_truth (me_call zd16 hr (by decide) (ma_cons (me_var 1) (ma_cons (me_gint g.zc32) ma_nil)))) (mss_one (ms_expr (me_call zd44 hr (by decide) (ma_cons (me_var 0) (ma_cons (me_var 1) ma_nil))))) (mss_one (ms_if (mt_truth (me_call zd16 hr (by decide) (ma_cons (me_var 1) (ma_cons (me_gint g.zc35) ma_nil)))) (mss_one (ms_fld (all1 ⟨g.k_End,g.zn11⟩) (me_var 0) me_bl)) (mss_one (ms_if (MW.mt (mw_and (mt_truth (me_call zd16 hr (by decide) (ma_cons (me_var 1) (ma_cons (me_gint g.zc0) ma_nil)))) (mw_one_and (mt_truth (me_call zd45 hr (by decide) (ma_cons (me_var 0) (ma_cons (me_var 1) (ma_cons (me_var 2) ma_nil)))))))) (mss_one (ms_expr (me_call zd51 hr (by decide) (ma_cons (me_var 0) (ma_cons (me_var 1) (ma_cons (me_var 2) ma_nil)))))) mss_nil))))))))
theorem zo39 (D:Def0 K mg "is_for" zs39 zP39) (g:Glb K mg) :MDef P w K mg base 1 "is_for" p_is_for:=
  mdef D zc39 2 2 rfl rfl fun f cdv A outer s H E hr=>(mss_one (ms_ret (me_and (me_cmp (o_eq hr.units) (me_ix ix_ok (me_var 1) (me_gint g.zc9)) (me_fld (all1 ⟨g.k_End,g.zn9⟩) (me_var 0))) (me_one (me_or (me_cmp o_in (me_fld (all1 ⟨g.k_End,g.zn16⟩) (me_var 0)) (me_tup (ma_cons (me_gstr g.zc2) (ma_cons (me_gstr g.zc17) ma_nil))) (by with_unfolding_all rfl)) (me_one (me_cmp (o_eq hr.units) (me_ix ix_ok (me_var 1) (me_gint g.zc34)) (me_fld (all1 ⟨g.k_End,g.zn17⟩) (me_var 0)))))))))
theorem zo38 (D:Def0 K mg "arrive" zs38 zP38) (g:Glb K mg) (zd31:MDef P w K mg base 5 "come_to_closed" p_come_to_closed) (zd32:MDef P w K mg base 5 "come_to_listen" p_come_to_listen) (zd40:MDef P w K mg base 7 "come_to_stream" p_come_to_stream) (zd34:MDef P w K mg base 5 "come_to_syn_sent" p_come_to_syn_sent) (zd26:MDef P w K mg base 4 "get" p_get) (zd39:MDef P w K mg base 1 "is_for" p_is_for) (zd23:MDef P w K mg base 3 "is_right" p_is_right):MDef P w K mg base 8 "arrive" p_arrive:=
  mdef D zc38 3 4 rfl rfl fun f cdv A outer s H E hr=>(mss_cons (ms_if (mt_not (mt_truth (me_call zd23 hr (by decide) (ma_cons (me_var 1) ma_nil)))) (mss_one (ms_ret me_bl)) mss_nil)
  (mss_cons (ms_set 3 zc38.nd (me_call zd26 hr (by decide) (ma_cons (me_var 1) ma_nil)))
  (mss_cons (ms_if (mt_not (mt_truth (me_call zd39 hr (by decide) (ma_cons (me_var 0) (ma_cons (me_var 3) ma_nil))))) (mss_one (ms_ret me_bl)) mss_nil)
  (mss_cons (ms_if (mt_cmp (o_eq hr.units) (me_fld (all1 ⟨g.k_End,g.zn16⟩) (me_var 0)) (me_gstr g.zc2)) (mss_one (ms_expr (me_call zd31 hr (by decide) (ma_cons (me_var 0) (ma_cons (me_var 3) ma_nil))))) (mss_one (ms_if (mt_cmp (o_eq hr.units) (me_fld (all1 ⟨g.k_End,g.zn16⟩) (me_var 0)) (me_gstr g.zc17)) (mss_one (ms_expr (me_call zd32 hr (by decide) (ma_cons (me_var 0) (ma_cons (me_var 3) ma_nil))))) (mss_one (ms_if (mt_cmp (o_eq hr.units) (me_fld (all1 ⟨g.k_End,g.zn16⟩) (me_var 0)) (me_gstr g.zc37)) (mss_one (ms_expr (me_call zd34 hr (by decide) (ma_cons (me_var 0) (ma_cons (me_var 3) (ma_cons (me_var 2) ma_nil)))))) (mss_one (ms_expr (me_call zd40 hr (by decide) (ma_cons (me_var 0) (ma_cons (me_var 3) (ma_cons (me_var 2) ma_nil)))))))))))
  (mss_one (ms_ret me_bl))))))
theorem zo56 (D:Def0 K mg "opened" zs56 zP56) (g:Glb K mg) (zd7:MMk P w K mg base 3 "End" p_End_init):MDef P w K mg base 5 "opened" p_opened:=
  mdef D zc56 4 4 rfl rfl fun f cdv A outer s H E hr=>(mss_one (ms_ret (me_make zd7 hr (by decide) (ma_cons (me_var 0) (ma_cons (me_var 1) (ma_cons (me_var 2) (ma_cons (me_var 3) ma_nil)))))))
theorem zo57 (D:Def0 K mg "write" zs57 zP57) (g:Glb K mg) (zd2:MDef P w K mg base 2 "lay" p_lay) (zd4:MDef P w K mg base 1 "plus" p_plus):MDef P w K mg base 3 "write" p_write:=
  mdef D zc57 2 3 rfl rfl fun f cdv A outer s H E hr=>(mss_cons (ms_if (MW.mt (mw_or (mt_truth (me_fld (all1 ⟨g.k_End,g.zn6⟩) (me_var 0))) (mw_one_or (mt_cmp o_notin (me_fld (all1 ⟨g.k_End,g.zn16⟩) (me_var 0)) (me_tup (ma_cons (me_gstr g.zc37) (ma_cons (me_gstr g.zc36) (ma_cons (me_gstr g.zc25) (ma_cons (me_gstr g.zc3) ma_nil))))) (by with_unfolding_all rfl))))) (mss_one (ms_ret me_int)) mss_nil)
  (mss_cons (ms_set 2 zc57.nd (me_call zd2 hr (by decide) (ma_cons (me_fld (all1 ⟨g.k_End,g.zn24⟩) (me_var 0)) (ma_cons (me_var 1) ma_nil))))
  (mss_cons (ms_fld (all1 ⟨g.k_End,g.zn0⟩) (me_var 0) (me_call zd4 hr (by decide) (ma_cons (me_fld (all1 ⟨g.k_End,g.zn0⟩) (me_var 0)) (ma_cons (me_var 2) ma_nil))))
  (mss_one (ms_ret (me_var 2))))))
theorem zo58 (D:Def0 K mg "read" zs58 zP58) (g:Glb K mg) (zd10:MDef P w K mg base 2 "our_window" p_our_window) (zd3:MDef P w K mg base 1 "take" p_take):MDef P w K mg base 3 "read" p_read:=
  mdef D zc58 2 4 rfl rfl fun f cdv A outer s H E hr=>(mss_cons (ms_set 2 zc58.nd (me_cmp (o_eq hr.units) (me_call zd10 hr (by decide) (ma_cons (me_var 0) ma_nil)) me_int))
  (mss_cons (ms_set 3 zc58.nd (me_call zd3 hr (by decide) (ma_cons (me_fld (all1 ⟨g.k_End,g.zn1⟩) (me_var 0)) (ma_cons (me_var 1) ma_nil))))
  (mss_cons (ms_if (MW.mt (mw_and (mt_truth (me_var 2)) (mw_and (mt_cmp o_gt (me_call zd10 hr (by decide) (ma_cons (me_var 0) ma_nil)) me_int) (mw_one_and (mt_cmp o_in (me_fld (all1 ⟨g.k_End,g.zn16⟩) (me_var 0)) (me_tup (ma_cons (me_gstr g.zc25) (ma_cons (me_gstr g.zc40) (ma_cons (me_gstr g.zc41) ma_nil)))) (by with_unfolding_all rfl)))))) (mss_one (ms_fld (all1 ⟨g.k_End,g.zn11⟩) (me_var 0) me_bl)) mss_nil)
  (mss_one (ms_ret (me_var 3))))))
theorem zo64 (D:Def0 K mg "most_at_once" zs64 zP64) (g:Glb K mg) :MDef P w K mg base 1 "most_at_once" p_most_at_once:=
  mdef D zc64 1 1 rfl rfl fun f cdv A outer s H E hr=>(mss_one (ms_ret (me_callB c_min g.b_min PyProof.Rows.boot_min (ma_cons (me_fld (all1 ⟨g.k_End,g.zn7⟩) (me_var 0)) (ma_cons (me_gint g.zc10) ma_nil)))))
theorem zo65 (D:Def0 K mg "paid_syn" zs65 zP65) (g:Glb K mg) :MDef P w K mg base 1 "paid_syn" p_paid_syn:=
  mdef D zc65 1 1 rfl rfl fun f cdv A outer s H E hr=>(mss_cons (ms_fld (all1 ⟨g.k_End,g.zn12⟩) (me_var 0) me_bl)
  (mss_cons (ms_if (mt_cmp (o_eq hr.units) (me_fld (all1 ⟨g.k_End,g.zn16⟩) (me_var 0)) (me_gstr g.zc37)) (mss_one (ms_ret (me_tup (ma_cons (me_fld (all1 ⟨g.k_End,g.zn9⟩) (me_var 0)) (ma_cons (me_fld (all1 ⟨g.k_End,g.zn17⟩) (me_var 0)) (ma_cons (me_fld (all1 ⟨g.k_End,g.zn5⟩) (me_var 0)) (ma_cons me_int (ma_cons (me_gint g.zc35) (ma_cons (me_gint g.zc30) (ma_cons (me_gint g.zc10) (ma_cons (me_tup ma_nil) ma_nil))))))))))) mss_nil)
  (mss_one (ms_ret (me_tup (ma_cons (me_fld (all1 ⟨g.k_End,g.zn9⟩) (me_var 0)) (ma_cons (me_fld (all1 ⟨g.k_End,g.zn17⟩) (me_var 0)) (ma_cons (me_fld (all1 ⟨g.k_End,g.zn5⟩) (me_var 0)) (ma_cons (me_fld (all1 ⟨g.k_End,g.zn14⟩) (me_var 0)) (ma_cons (me_op o_add (me_gint g.zc35) (me_gint g.zc0)) (ma_cons (me_gint g.zc30) (ma_cons (me_gint g.zc10) (ma_cons (me_tup ma_nil) ma_nil)))))))))))))
theorem zo66 (D:Def0 K mg "segment_of" zs66 zP66) (g:Glb K mg) (zd10:MDef P w K mg base 2 "our_window" p_our_window):MDef P w K mg base 3 "segment_of" p_segment_of:=
  mdef D zc66 4 4 rfl rfl fun f cdv A outer s H E hr=>(mss_one (ms_ret (me_tup (ma_cons (me_fld (all1 ⟨g.k_End,g.zn9⟩) (me_var 0)) (ma_cons (me_fld (all1 ⟨g.k_End,g.zn17⟩) (me_var 0)) (ma_cons (me_var 1) (ma_cons (me_fld (all1 ⟨g.k_End,g.zn14⟩) (me_var 0)) (ma_cons (me_op o_add (me_var 2) (me_gint g.zc0)) (ma_cons (me_call zd10 hr (by decide) (ma_cons (me_var 0) ma_nil)) (ma_cons me_int (ma_cons (me_callTy c_tuple g.b_tuple PyProof.Rows.boot_tuple (ma_cons (me_var 3) ma_nil)) ma_nil)))))))))))
theorem zo63 (D:Def0 K mg "again" zs63 zP63) (g:Glb K mg) (zd64:MDef P w K mg base 1 "most_at_once" p_most_at_once) (zd5:MDef P w K mg base 1 "offset" p_offset) (zd65:MDef P w K mg base 1 "paid_syn" p_paid_syn) (zd66:MDef P w K mg base 3 "segment_of" p_segment_of):MDef P w K mg base 4 "again" p_again:=
  mdef D zc63 2 3 rfl rfl fun f cdv A outer s H E hr=>(mss_cons (ms_if (mt_cmp (o_eq hr.units) (me_fld (all1 ⟨g.k_End,g.zn20⟩) (me_var 0)) (me_gint g.zc21)) (mss_cons (ms_fld (all1 ⟨g.k_End,g.zn16⟩) (me_var 0) (me_gstr g.zc2))
    (mss_cons (ms_fld (all1 ⟨g.k_End,g.zn4⟩) (me_var 0) (me_gstr g.zc38))
    (mss_one (ms_ret me_non)))) mss_nil)
  (mss_cons (ms_fld (all1 ⟨g.k_End,g.zn20⟩) (me_var 0) (me_op o_add (me_fld (all1 ⟨g.k_End,g.zn20⟩) (me_var 0)) me_int))
  (mss_cons (ms_fld (all1 ⟨g.k_End,g.zn22⟩) (me_var 0) (me_callB c_min g.b_min PyProof.Rows.boot_min (ma_cons (me_op o_mul me_int (me_fld (all1 ⟨g.k_End,g.zn22⟩) (me_var 0))) (ma_cons (me_gint g.zc18) ma_nil))))
  (mss_cons (ms_fld (all1 ⟨g.k_End,g.zn15⟩) (me_var 0) (me_var 1))
  (mss_cons (ms_if (mt_cmp o_in (me_fld (all1 ⟨g.k_End,g.zn16⟩) (me_var 0)) (me_tup (ma_cons (me_gstr g.zc37) (ma_cons (me_gstr g.zc36) ma_nil))) (by with_unfolding_all rfl)) (mss_one (ms_ret (me_call zd65 hr (by decide) (ma_cons (me_var 0) ma_nil)))) mss_nil)
  (mss_cons (ms_set 2 zc63.nd (me_slice (me_fld (all1 ⟨g.k_Pile,g.zn25⟩) (me_fld (all1 ⟨g.k_End,g.zn24⟩) (me_var 0))) mo_none (mo_some (me_callB c_min g.b_min PyProof.Rows.boot_min (ma_cons (me_call zd5 hr (by decide) (ma_cons (me_fld (all1 ⟨g.k_End,g.zn8⟩) (me_var 0)) (ma_cons (me_fld (all1 ⟨g.k_End,g.zn21⟩) (me_var 0)) ma_nil))) (ma_cons (me_call zd64 hr (by decide) (ma_cons (me_var 0) ma_nil)) ma_nil))))))
  (mss_one (ms_ret (me_call zd66 hr (by decide) (ma_cons (me_var 0) (ma_cons (me_fld (all1 ⟨g.k_End,g.zn21⟩) (me_var 0)) (ma_cons (me_ite (mt_cmp o_gt (me_callB c_len g.b_len PySem.boot_len (ma_cons (me_var 2) ma_nil)) me_int) me_int (me_gint g.zc6)) (ma_cons (me_var 2) ma_nil)))))))))))))
theorem zo77 (D:Def0 K mg "going_as_answer" zs77 zP77) (g:Glb K mg) (zd66:MDef P w K mg base 3 "segment_of" p_segment_of):MDef P w K mg base 4 "going_as_answer" p_going_as_answer:=
  mdef D zc77 1 1 rfl rfl fun f cdv A outer s H E hr=>(mss_cons (ms_if (mt_not (mt_truth (me_fld (all1 ⟨g.k_End,g.zn11⟩) (me_var 0)))) (mss_one (ms_ret me_non)) mss_nil)
  (mss_cons (ms_fld (all1 ⟨g.k_End,g.zn11⟩) (me_var 0) me_bl)
  (mss_one (ms_ret (me_call zd66 hr (by decide) (ma_cons (me_var 0) (ma_cons (me_fld (all1 ⟨g.k_End,g.zn8⟩) (me_var 0)) (ma_cons me_int (ma_cons (me_lst ma_nil) ma_nil)))))))))
theorem zo71 (D:Def0 K mg "unsent" zs71 zP71) (g:Glb K mg) (zd5:MDef P w K mg base 1 "offset" p_offset):MDef P w K mg base 2 "unsent" p_unsent:=
  mdef D zc71 1 1 rfl rfl fun f cdv A outer s H E hr=>(mss_one (ms_ret (me_call zd5 hr (by decide) (ma_cons (me_fld (all1 ⟨g.k_End,g.zn0⟩) (me_var 0)) (ma_cons (me_fld (all1 ⟨g.k_End,g.zn8⟩) (me_var 0)) ma_nil)))))
theorem zo70 (D:Def0 K mg "has_new_data" zs70 zP70) (g:Glb K mg) (zd71:MDef P w K mg base 2 "unsent" p_unsent):MDef P w K mg base 3 "has_new_data" p_has_new_data:=
  mdef D zc70 1 1 rfl rfl fun f cdv A outer s H E hr=>(mss_one (ms_ret (me_and (me_cmp o_in (me_fld (all1 ⟨g.k_End,g.zn16⟩) (me_var 0)) (me_tup (ma_cons (me_gstr g.zc25) (ma_cons (me_gstr g.zc40) (ma_cons (me_gstr g.zc3) (ma_cons (me_gstr g.zc4) (ma_cons (me_gstr g.zc14) ma_nil)))))) (by with_unfolding_all rfl)) (me_one (me_cmp o_gt (me_call zd71 hr (by decide) (ma_cons (me_var 0) ma_nil)) me_int)))))
theorem zo72 (D:Def0 K mg "has_new_fin" zs72 zP72) (g:Glb K mg) (zd71:MDef P w K mg base 2 "unsent" p_unsent):MDef P w K mg base 3 "has_new_fin" p_has_new_fin:=
  mdef D zc72 1 1 rfl rfl fun f cdv A outer s H E hr=>(mss_one (ms_ret (me_and (me_cmp o_in (me_fld (all1 ⟨g.k_End,g.zn16⟩) (me_var 0)) (me_tup (ma_cons (me_gstr g.zc40) (ma_cons (me_gstr g.zc4) (ma_cons (me_gstr g.zc14) ma_nil)))) (by with_unfolding_all rfl)) (me_one (me_cmp (o_eq hr.units) (me_call zd71 hr (by decide) (ma_cons (me_var 0) ma_nil)) me_int)))))
theorem zo69 (D:Def0 K mg "has_more" zs69 zP69) (g:Glb K mg) (zd70:MDef P w K mg base 3 "has_new_data" p_has_new_data) (zd72:MDef P w K mg base 3 "has_new_fin" p_has_new_fin):MDef P w K mg base 4 "has_more" p_has_more:=
  mdef D zc69 1 1 rfl rfl fun f cdv A outer s H E hr=>(mss_one (ms_ret (me_or (me_call zd70 hr (by decide) (ma_cons (me_var 0) ma_nil)) (me_one (me_call zd72 hr (by decide) (ma_cons (me_var 0) ma_nil))))))
theorem zo74 (D:Def0 K mg "new_data" zs74 zP74) (g:Glb K mg) (zd64:MDef P w K mg base 1 "most_at_once" p_most_at_once) (zd5:MDef P w K mg base 1 "offset" p_offset) (zd4:MDef P w K mg base 1 "plus" p_plus) (zd66:MDef P w K mg base 3 "segment_of" p_segment_of) (zd71:MDef P w K mg base 2 "unsent" p_unsent):MDef P w K mg base 4 "new_data" p_new_data:=
  mdef D zc74 2 5 rfl rfl fun f cdv A outer s H E hr=>(mss_cons (ms_set 2 zc74.nd (me_fld (all1 ⟨g.k_End,g.zn8⟩) (me_var 0)))
  (mss_cons (ms_set 3 zc74.nd (me_callB c_min g.b_min PyProof.Rows.boot_min (ma_cons (me_call zd64 hr (by decide) (ma_cons (me_var 0) ma_nil)) (ma_cons (me_call zd71 hr (by decide) (ma_cons (me_var 0) ma_nil)) (ma_cons (me_var 1) ma_nil)))))
  (mss_cons (ms_set 4 zc74.nd (me_call zd5 hr (by decide) (ma_cons (me_var 2) (ma_cons (me_fld (all1 ⟨g.k_End,g.zn21⟩) (me_var 0)) ma_nil))))
  (mss_cons (ms_fld (all1 ⟨g.k_End,g.zn8⟩) (me_var 0) (me_call zd4 hr (by decide) (ma_cons (me_var 2) (ma_cons (me_var 3) ma_nil))))
  (mss_one (ms_ret (me_call zd66 hr (by decide) (ma_cons (me_var 0) (ma_cons (me_var 2) (ma_cons (me_ite (mt_cmp (o_eq hr.units) (me_call zd71 hr (by decide) (ma_cons (me_var 0) ma_nil)) me_int) (me_gint g.zc26) me_int) (ma_cons (me_slice (me_fld (all1 ⟨g.k_Pile,g.zn25⟩) (me_fld (all1 ⟨g.k_End,g.zn24⟩) (me_var 0))) (mo_some (me_var 4)) (mo_some (me_op o_add (me_var 4) (me_var 3)))) ma_nil)))))))))))
theorem zo75 (D:Def0 K mg "new_fin" zs75 zP75) (g:Glb K mg) (zd4:MDef P w K mg base 1 "plus" p_plus) (zd66:MDef P w K mg base 3 "segment_of" p_segment_of):MDef P w K mg base 4 "new_fin" p_new_fin:=
  mdef D zc75 1 2 rfl rfl fun f cdv A outer s H E hr=>(mss_cons (ms_set 1 zc75.nd (me_fld (all1 ⟨g.k_End,g.zn8⟩) (me_var 0)))
  (mss_cons (ms_fld (all1 ⟨g.k_End,g.zn8⟩) (me_var 0) (me_call zd4 hr (by decide) (ma_cons (me_var 1) (ma_cons me_int ma_nil))))
  (mss_one (ms_ret (me_call zd66 hr (by decide) (ma_cons (me_var 0) (ma_cons (me_var 1) (ma_cons (me_gint g.zc6) (ma_cons (me_lst ma_nil) ma_nil)))))))))
theorem zo73 (D:Def0 K mg "new_piece" zs73 zP73) (g:Glb K mg) (zd70:MDef P w K mg base 3 "has_new_data" p_has_new_data) (zd74:MDef P w K mg base 4 "new_data" p_new_data) (zd75:MDef P w K mg base 4 "new_fin" p_new_fin):MDef P w K mg base 5 "new_piece" p_new_piece:=
  mdef D zc73 2 2 rfl rfl fun f cdv A outer s H E hr=>(mss_cons (ms_fld (all1 ⟨g.k_End,g.zn13⟩) (me_var 0) me_bl)
  (mss_one (ms_ret (me_ite (mt_truth (me_call zd70 hr (by decide) (ma_cons (me_var 0) ma_nil))) (me_call zd74 hr (by decide) (ma_cons (me_var 0) (ma_cons (me_var 1) ma_nil))) (me_call zd75 hr (by decide) (ma_cons (me_var 0) ma_nil))))))
theorem zo68 (D:Def0 K mg "new_syn" zs68 zP68) (g:Glb K mg) (zd65:MDef P w K mg base 1 "paid_syn" p_paid_syn) (zd4:MDef P w K mg base 1 "plus" p_plus) (zd8:MDef P w K mg base 1 "start_timer" p_start_timer):MDef P w K mg base 2 "new_syn" p_new_syn:=
  mdef D zc68 2 2 rfl rfl fun f cdv A outer s H E hr=>(mss_cons (ms_if (mt_cmp (o_eq hr.units) (me_fld (all1 ⟨g.k_End,g.zn8⟩) (me_var 0)) (me_fld (all1 ⟨g.k_End,g.zn21⟩) (me_var 0))) (mss_one (ms_expr (me_call zd8 hr (by decide) (ma_cons (me_var 0) (ma_cons (me_var 1) ma_nil))))) mss_nil)
  (mss_cons (ms_fld (all1 ⟨g.k_End,g.zn8⟩) (me_var 0) (me_call zd4 hr (by decide) (ma_cons (me_fld (all1 ⟨g.k_End,g.zn5⟩) (me_var 0)) (ma_cons me_int ma_nil))))
  (mss_one (ms_ret (me_call zd65 hr (by decide) (ma_cons (me_var 0) ma_nil))))))
theorem zo67 (D:Def0 K mg "going_as_new" zs67 zP67) (g:Glb K mg) (zd69:MDef P w K mg base 4 "has_more" p_has_more) (zd73:MDef P w K mg base 5 "new_piece" p_new_piece) (zd68:MDef P w K mg base 2 "new_syn" p_new_syn) (zd5:MDef P w K mg base 1 "offset" p_offset) (zd8:MDef P w K mg base 1 "start_timer" p_start_timer):MDef P w K mg base 6 "going_as_new" p_going_as_new:=
  mdef D zc67 2 3 rfl rfl fun f cdv A outer s H E hr=>(mss_cons (ms_if (mt_cmp o_in (me_fld (all1 ⟨g.k_End,g.zn16⟩) (me_var 0)) (me_tup (ma_cons (me_gstr g.zc37) (ma_cons (me_gstr g.zc36) ma_nil))) (by with_unfolding_all rfl)) (mss_one (ms_ret (me_ite (MW.mt (mw_or (mt_cmp (o_eq hr.units) (me_fld (all1 ⟨g.k_End,g.zn8⟩) (me_var 0)) (me_fld (all1 ⟨g.k_End,g.zn5⟩) (me_var 0))) (mw_one_or (mt_truth (me_fld (all1 ⟨g.k_End,g.zn12⟩) (me_var 0)))))) (me_call zd68 hr (by decide) (ma_cons (me_var 0) (ma_cons (me_var 1) ma_nil))) me_non))) mss_nil)
  (mss_cons (ms_set 2 zc67.nd (me_op o_sub (me_fld (all1 ⟨g.k_End,g.zn23⟩) (me_var 0)) (me_call zd5 hr (by decide) (ma_cons (me_fld (all1 ⟨g.k_End,g.zn8⟩) (me_var 0)) (ma_cons (me_fld (all1 ⟨g.k_End,g.zn21⟩) (me_var 0)) ma_nil)))))
  (mss_cons (ms_if (MW.mt (mw_or (mt_cmp o_le (me_var 2) me_int) (mw_one_or (mt_not (mt_truth (me_call zd69 hr (by decide) (ma_cons (me_var 0) ma_nil))))))) (mss_one (ms_ret me_non)) mss_nil)
  (mss_cons (ms_if (mt_cmp (o_eq hr.units) (me_fld (all1 ⟨g.k_End,g.zn8⟩) (me_var 0)) (me_fld (all1 ⟨g.k_End,g.zn21⟩) (me_var 0))) (mss_one (ms_expr (me_call zd8 hr (by decide) (ma_cons (me_var 0) (ma_cons (me_var 1) ma_nil))))) mss_nil)
  (mss_cons (ms_fld (all1 ⟨g.k_End,g.zn11⟩) (me_var 0) me_bl)
  (mss_one (ms_ret (me_call zd73 hr (by decide) (ma_cons (me_var 0) (ma_cons (me_var 2) ma_nil))))))))))
theorem zo62 (D:Def0 K mg "is_due" zs62 zP62) (g:Glb K mg) :MDef P w K mg base 1 "is_due" p_is_due:=
  mdef D zc62 2 2 rfl rfl fun f cdv A outer s H E hr=>(mss_one (ms_ret (me_cmp o_ge (me_op o_sub (me_var 1) (me_fld (all1 ⟨g.k_End,g.zn15⟩) (me_var 0))) (me_fld (all1 ⟨g.k_End,g.zn22⟩) (me_var 0)))))
theorem zo76 (D:Def0 K mg "going_as_probe" zs76 zP76) (g:Glb K mg) (zd69:MDef P w K mg base 4 "has_more" p_has_more) (zd62:MDef P w K mg base 1 "is_due" p_is_due) (zd73:MDef P w K mg base 5 "new_piece" p_new_piece) (zd8:MDef P w K mg base 1 "start_timer" p_start_timer):MDef P w K mg base 6 "going_as_probe" p_going_as_probe:=
  mdef D zc76 2 2 rfl rfl fun f cdv A outer s H E hr=>(mss_cons (ms_if (MW.mt (mw_or (mt_cmp (o_ne hr.units) (me_fld (all1 ⟨g.k_End,g.zn8⟩) (me_var 0)) (me_fld (all1 ⟨g.k_End,g.zn21⟩) (me_var 0))) (mw_or (mt_cmp (o_ne hr.units) (me_fld (all1 ⟨g.k_End,g.zn23⟩) (me_var 0)) me_int) (mw_one_or (mt_not (mt_truth (me_call zd69 hr (by decide) (ma_cons (me_var 0) ma_nil)))))))) (mss_cons (ms_fld (all1 ⟨g.k_End,g.zn13⟩) (me_var 0) me_bl)
    (mss_one (ms_ret me_non))) mss_nil)
  (mss_cons (ms_if (mt_not (mt_truth (me_fld (all1 ⟨g.k_End,g.zn13⟩) (me_var 0)))) (mss_cons (ms_fld (all1 ⟨g.k_End,g.zn13⟩) (me_var 0) me_bl)
    (mss_one (ms_expr (me_call zd8 hr (by decide) (ma_cons (me_var 0) (ma_cons (me_var 1) ma_nil)))))) mss_nil)
  (mss_cons (ms_if (mt_not (mt_truth (me_call zd62 hr (by decide) (ma_cons (me_var 0) (ma_cons (me_var 1) ma_nil))))) (mss_one (ms_ret me_non)) mss_nil)
  (mss_cons (ms_fld (all1 ⟨g.k_End,g.zn15⟩) (me_var 0) (me_var 1))
  (mss_one (ms_ret (me_call zd73 hr (by decide) (ma_cons (me_var 0) (ma_cons me_int ma_nil)))))))))
theorem zo61 (D:Def0 K mg "paid_reset" zs61 zP61) (g:Glb K mg) :MDef P w K mg base 1 "paid_reset" p_paid_reset:=
  mdef D zc61 1 2 rfl rfl fun f cdv A outer s H E hr=>(mss_cons (ms_set 1 zc61.nd (me_fld (all1 ⟨g.k_End,g.zn10⟩) (me_var 0)))
  (mss_cons (ms_fld (all1 ⟨g.k_End,g.zn10⟩) (me_var 0) me_non)
  (mss_one (ms_ret (me_var 1)))))
theorem zo60 (D:Def0 K mg "going" zs60 zP60) (g:Glb K mg) (zd63:MDef P w K mg base 4 "again" p_again) (zd77:MDef P w K mg base 4 "going_as_answer" p_going_as_answer) (zd67:MDef P w K mg base 6 "going_as_new" p_going_as_new) (zd76:MDef P w K mg base 6 "going_as_probe" p_going_as_probe) (zd62:MDef P w K mg base 1 "is_due" p_is_due) (zd61:MDef P w K mg base 1 "paid_reset" p_paid_reset):MDef P w K mg base 7 "going" p_going:=
  mdef D zc60 2 3 rfl rfl fun f cdv A outer s H E hr=>(mss_cons (ms_if (mt_cmp o_isnot (me_fld (all1 ⟨g.k_End,g.zn10⟩) (me_var 0)) me_non) (mss_one (ms_ret (me_call zd61 hr (by decide) (ma_cons (me_var 0) ma_nil)))) mss_nil)
  (mss_cons (ms_if (MW.mt (mw_and (mt_cmp (o_eq hr.units) (me_fld (all1 ⟨g.k_End,g.zn16⟩) (me_var 0)) (me_gstr g.zc39)) (mw_one_and (mt_cmp o_ge (me_op o_sub (me_var 1) (me_fld (all1 ⟨g.k_End,g.zn15⟩) (me_var 0))) (me_gint g.zc15))))) (mss_one (ms_fld (all1 ⟨g.k_End,g.zn16⟩) (me_var 0) (me_gstr g.zc2))) mss_nil)
  (mss_cons (ms_if (mt_cmp o_in (me_fld (all1 ⟨g.k_End,g.zn16⟩) (me_var 0)) (me_tup (ma_cons (me_gstr g.zc2) (ma_cons (me_gstr g.zc17) ma_nil))) (by with_unfolding_all rfl)) (mss_one (ms_ret me_non)) mss_nil)
  (mss_cons (ms_if (MW.mt (mw_and (mt_cmp (o_ne hr.units) (me_fld (all1 ⟨g.k_End,g.zn8⟩) (me_var 0)) (me_fld (all1 ⟨g.k_End,g.zn21⟩) (me_var 0))) (mw_one_and (mt_truth (me_call zd62 hr (by decide) (ma_cons (me_var 0) (ma_cons (me_var 1) ma_nil))))))) (mss_one (ms_ret (me_call zd63 hr (by decide) (ma_cons (me_var 0) (ma_cons (me_var 1) ma_nil))))) mss_nil)
  (mss_cons (ms_set 2 zc60.nd (me_call zd67 hr (by decide) (ma_cons (me_var 0) (ma_cons (me_var 1) ma_nil))))
  (mss_cons (ms_if (mt_cmp o_is (me_var 2) me_non) (mss_one (ms_set 2 zc60.nd (me_call zd76 hr (by decide) (ma_cons (me_var 0) (ma_cons (me_var 1) ma_nil))))) mss_nil)
  (mss_cons (ms_if (mt_cmp o_is (me_var 2) me_non) (mss_one (ms_set 2 zc60.nd (me_call zd77 hr (by decide) (ma_cons (me_var 0) ma_nil)))) mss_nil)
  (mss_one (ms_ret (me_var 2))))))))))
theorem zo59 (D:Def0 K mg "send" zs59 zP59) (g:Glb K mg) (zd60:MDef P w K mg base 7 "going" p_going) (zd17:MDef P w K mg base 4 "put" p_put):MDef P w K mg base 8 "send" p_send:=
  mdef D zc59 2 3 rfl rfl fun f cdv A outer s H E hr=>(mss_cons (ms_set 2 zc59.nd (me_call zd60 hr (by decide) (ma_cons (me_var 0) (ma_cons (me_var 1) ma_nil))))
  (mss_one (ms_ret (me_ite (mt_cmp o_is (me_var 2) me_non) (me_lst ma_nil) (me_call zd17 hr (by decide) (ma_cons (me_var 2) ma_nil))))))
theorem zo78 (D:Def0 K mg "_law_cell" zs78 zP78) (g:Glb K mg) :MDef P w K mg base 1 "_law_cell" l_cell:=
  mdef D zc78 2 2 rfl rfl fun f cdv A outer s H E hr=>(mss_cons (ms_if (mt_truth (me_var 0)) (mss_one (ms_ret (me_ix ix_ok (me_var 0) (me_op o_mod (me_var 1) (me_callB c_len g.b_len PySem.boot_len (ma_cons (me_var 0) ma_nil)))))) mss_nil)
  (mss_one (ms_ret me_int)))
theorem zo79 (D:Def0 K mg "_law_mix" zs79 zP79) (g:Glb K mg) (zd78:MDef P w K mg base 1 "_law_cell" l_cell):MDef P w K mg base 2 "_law_mix" l_mix:=
  mdef D zc79 2 3 rfl rfl fun f cdv A outer s H E hr=>(mss_cons (ms_set 2 zc79.nd (me_op o_mod (me_op o_add (me_call zd78 hr (by decide) (ma_cons (me_var 0) (ma_cons (me_var 1) ma_nil))) (me_op o_mul me_int (me_op o_add (me_var 1) me_int))) me_int))
  (mss_cons (ms_set 2 zc79.nd (me_op o_mod (me_op o_mul (me_var 2) me_int) me_int))
  (mss_one (ms_ret (me_op o_mod (me_op o_add (me_op o_mul (me_op o_div (me_var 2) me_int) me_int) (me_var 2)) me_int)))))
theorem zo80 (D:Def0 K mg "_law_two" zs80 zP80) (g:Glb K mg) :MDef P w K mg base 1 "_law_two" l_two:=
  mdef D zc80 1 1 rfl rfl fun f cdv A outer s H E hr=>(mss_one (ms_ret (me_lst (ma_cons (me_op o_div (me_var 0) me_int) (ma_cons (me_op o_mod (me_var 0) me_int) ma_nil)))))
theorem zo81 (D:Def0 K mg "_law_folded" zs81 zP81) (g:Glb K mg) :MDef P w K mg base 1 "_law_folded" l_folded:=
  mdef D zc81 1 3 rfl rfl fun f cdv A outer s H E hr=>(mss_cons (ms_set 1 zc81.nd me_int)
  (mss_cons (ms_for PassesOwn.never (mi_range1 g.b_range (ma_cons (me_callB c_len g.b_len PySem.boot_len (ma_cons (me_var 0) ma_nil)) ma_nil)) (mg_name 2 zc81.nd) (mss_one (ms_set 1 zc81.nd (me_op o_add (me_var 1) (me_op o_mul (me_ix ix_ok (me_var 0) (me_var 2)) (me_ix ix_ok (me_lst (ma_cons me_int (ma_cons me_int ma_nil))) (me_op o_mod (me_var 2) me_int)))))))
  (mss_cons (ms_while 200 PassesOwn.never (mt_cmp o_gt (me_var 1) me_int) (mss_one (ms_set 1 zc81.nd (me_op o_add (me_op o_mod (me_var 1) me_int) (me_op o_div (me_var 1) me_int)))))
  (mss_one (ms_ret (me_var 1))))))
theorem zo82 (D:Def0 K mg "_law_bytes" zs82 zP82) (g:Glb K mg) (zd81:MDef P w K mg base 1 "_law_folded" l_folded) (zd80:MDef P w K mg base 1 "_law_two" l_two):MDef P w K mg base 2 "_law_bytes" l_bytes:=
  mdef D zc82 1 3 rfl rfl fun f cdv A outer s H E hr=>(mss_cons (ms_set 1 zc82.nd (me_op o_add (me_call zd80 hr (by decide) (ma_cons (me_ix ix_ok (me_var 0) me_int) ma_nil)) (me_call zd80 hr (by decide) (ma_cons (me_ix ix_ok (me_var 0) me_int) ma_nil))))
  (mss_cons (ms_for PassesOwn.never (mi_seq (me_slice (me_var 0) (mo_some me_int) (mo_some me_int))) (mg_name 2 zc82.nd) (mss_one (ms_set 1 zc82.nd (me_op o_add (me_op o_add (me_var 1) (me_call zd80 hr (by decide) (ma_cons (me_op o_div (me_var 2) me_int) ma_nil))) (me_call zd80 hr (by decide) (ma_cons (me_op o_mod (me_var 2) me_int) ma_nil))))))
  (mss_cons (ms_set 1 zc82.nd (me_op o_add (me_op o_add (me_op o_add (me_var 1) (me_lst (ma_cons (me_ix ix_ok (me_lst (ma_cons me_int (ma_cons me_int ma_nil))) (me_callTy c_int g.b_int PyProof.Rows.boot_int (ma_cons (me_cmp o_gt (me_ix ix_ok (me_var 0) me_int) me_int) ma_nil))) (ma_cons (me_ix ix_ok (me_var 0) me_int) ma_nil)))) (me_call zd80 hr (by decide) (ma_cons (me_ix ix_ok (me_var 0) me_int) ma_nil))) (me_lst (ma_cons me_int (ma_cons me_int (ma_cons me_int (ma_cons me_int ma_nil)))))))
  (mss_cons (ms_if (mt_cmp o_gt (me_ix ix_ok (me_var 0) me_int) me_int) (mss_one (ms_set 1 zc82.nd (me_op o_add (me_op o_add (me_var 1) (me_lst (ma_cons me_int (ma_cons me_int ma_nil)))) (me_call zd80 hr (by decide) (ma_cons (me_ix ix_ok (me_var 0) me_int) ma_nil))))) mss_nil)
  (mss_cons (ms_set 1 zc82.nd (me_op o_add (me_var 1) (me_callTy c_list g.b_list PyProof.Rows.boot_list (ma_cons (me_ix ix_ok (me_var 0) me_int) ma_nil))))
  (mss_one (ms_ret (me_op o_add (me_op o_add (me_slice (me_var 1) mo_none (mo_some me_int)) (me_call zd80 hr (by decide) (ma_cons (me_op o_sub me_int (me_call zd81 hr (by decide) (ma_cons (me_var 1) ma_nil))) ma_nil))) (me_slice (me_var 1) (mo_some me_int) mo_none)))))))))
theorem zo83 (D:Def0 K mg "_law_plus" zs83 zP83) (g:Glb K mg) :MDef P w K mg base 1 "_law_plus" l_plus:=
  mdef D zc83 2 2 rfl rfl fun f cdv A outer s H E hr=>(mss_one (ms_ret (me_op o_mod (me_op o_add (me_var 0) (me_var 1)) me_int)))
theorem zo84 (D:Def0 K mg "_law_first" zs84 zP84) (g:Glb K mg) :MDef P w K mg base 1 "_law_first" l_first:=
  mdef D zc84 1 1 rfl rfl fun f cdv A outer s H E hr=>(mss_cons (ms_if (mt_cmp (o_eq hr.units) (me_op o_mod (me_var 0) me_int) me_int) (mss_one (ms_ret (me_op o_mod (me_op o_sub me_int (me_op o_mod (me_op o_div (me_var 0) me_int) me_int)) me_int))) mss_nil)
  (mss_one (ms_ret (me_var 0))))
theorem zo85 (D:Def0 K mg "_law_segment" zs85 zP85) (g:Glb K mg) :MDef P w K mg base 1 "_law_segment" l_segment:=
  mdef D zc85 6 6 rfl rfl fun f cdv A outer s H E hr=>(mss_one (ms_ret (me_tup (ma_cons (me_ix ix_ok (me_var 0) me_int) (ma_cons (me_ix ix_ok (me_var 0) me_int) (ma_cons (me_var 1) (ma_cons (me_var 2) (ma_cons (me_var 3) (ma_cons (me_var 4) (ma_cons me_int (ma_cons (me_callTy c_tuple g.b_tuple PyProof.Rows.boot_tuple (ma_cons (me_var 5) ma_nil)) ma_nil)))))))))))
theorem zo86 {fl:Addr} {fdl:FuncData} (F:Fun K "law" "law" zs86 fl fdl) (g:Glb K mg) (zd82:MDef P w K mg base 2 "_law_bytes" l_bytes) (zd84:MDef P w K mg base 1 "_law_first" l_first) (zd79:MDef P w K mg base 2 "_law_mix" l_mix) (zd83:MDef P w K mg base 1 "_law_plus" l_plus) (zd85:MDef P w K mg base 1 "_law_segment" l_segment) (zd38:MDef P w K mg base 8 "arrive" p_arrive) (zd56:MDef P w K mg base 5 "opened" p_opened) (zd58:MDef P w K mg base 3 "read" p_read) (zd59:MDef P w K mg base 8 "send" p_send) (zd9:MDef P w K mg base 1 "state" p_state) (zd57:MDef P w K mg base 3 "write" p_write):FnOk P w K mg base CX0 9 fl fdl zP86 (spM ⟨clOf mg,K⟩ l_law):=
  mfn F zc86 1 19 rfl rfl fun cdv A outer s H E hr=>(mss_cons (ms_set 1 zc86.nd (me_tup (ma_cons (me_op o_mod (me_call zd79 hr (by decide) (ma_cons (me_var 0) (ma_cons me_int ma_nil))) me_int) (ma_cons (me_op o_mod (me_call zd79 hr (by decide) (ma_cons (me_var 0) (ma_cons me_int ma_nil))) me_int) ma_nil))))
  (mss_cons (ms_set 2 zc86.nd (me_call zd84 hr (by decide) (ma_cons (me_call zd79 hr (by decide) (ma_cons (me_var 0) (ma_cons me_int ma_nil))) ma_nil)))
  (mss_cons (ms_set 3 zc86.nd (me_call zd84 hr (by decide) (ma_cons (me_call zd79 hr (by decide) (ma_cons (me_var 0) (ma_cons me_int ma_nil))) ma_nil)))
  (mss_cons (ms_set 4 zc86.nd (me_ix ix_ok (me_lst (ma_cons me_int (ma_cons me_int (ma_cons me_int (ma_cons me_int (ma_cons me_int ma_nil)))))) (me_op o_mod (me_call zd79 hr (by decide) (ma_cons (me_var 0) (ma_cons me_int ma_nil))) me_int)))
  (mss_cons (ms_set 5 zc86.nd (me_op o_add me_int (me_op o_mod (me_call zd79 hr (by decide) (ma_cons (me_var 0) (ma_cons me_int ma_nil))) me_int)))
  (mss_cons (ms_set 6 zc86.nd (me_call zd56 hr (by decide) (ma_cons (me_ix ix_ok (me_var 1) me_int) (ma_cons (me_op o_mod (me_call zd79 hr (by decide) (ma_cons (me_var 0) (ma_cons me_int ma_nil))) me_int) (ma_cons (me_var 2) (ma_cons me_bl ma_nil))))))
  (mss_cons (ms_set 7 zc86.nd (me_callTy c_tuple g.b_tuple PyProof.Rows.boot_tuple (ma_cons (me_lc (show CompScope _ (defScope zs86) "_law_k" ["_law_script","_law_talk","_law_mine","_law_other","_law_most","_law_window","_law_end","_law_extra","_law_flags","_law_syn","_law_due","_law_last","_law_given_here","_law_taken","_law_size","_law_part","_law_push","_law_goes","_law_comes"] ["_law_k","_law_script"] [0] from ⟨rfl,by decide +kernel,by decide +kernel,by decide +kernel,by decide +kernel,by decide +kernel,rfl,by decide,by decide +kernel⟩) rfl rfl (mi_range1 g.b_range (ma_cons (me_op o_mod (me_call zd79 hr (by decide) (ma_cons (me_var 0) (ma_cons me_int ma_nil))) me_int) ma_nil)) (fun _ _ _ _ _=>(me_op o_mod (me_call zd79 hr (by decide) (ma_cons (me_var 1) (ma_cons me_int ma_nil))) me_int))) ma_nil)))
  (mss_cons (ms_set 8 zc86.nd (me_op o_add me_int (me_op o_mod (me_call zd79 hr (by decide) (ma_cons (me_var 0) (ma_cons me_int ma_nil))) me_int)))
  (mss_cons (ms_set 9 zc86.nd (me_call zd82 hr (by decide) (ma_cons (me_tup (ma_cons (me_ix ix_ok (me_var 1) me_int) (ma_cons (me_ix ix_ok (me_var 1) me_int) (ma_cons (me_var 3) (ma_cons me_int (ma_cons (me_var 8) (ma_cons (me_var 5) (ma_cons (me_var 4) (ma_cons (me_var 7) ma_nil))))))))) ma_nil)))
  (mss_cons (ms_if (MW.mt (mw_or (mt_cmp (o_ne hr.units) (me_call zd9 hr (by decide) (ma_cons (me_var 6) ma_nil)) me_str) (mw_or (mt_cmp (o_ne hr.units) (me_call zd59 hr (by decide) (ma_cons (me_var 6) (ma_cons me_int ma_nil))) (me_lst ma_nil)) (mw_or (mt_cmp o_isnot (me_call zd38 hr (by decide) (ma_cons (me_var 6) (ma_cons (me_var 9) (ma_cons me_int ma_nil)))) me_bl) (mw_one_or (mt_cmp (o_ne hr.units) (me_call zd9 hr (by decide) (ma_cons (me_var 6) ma_nil)) me_str)))))) (mss_one (ms_ret me_bl)) mss_nil)
  (mss_cons (ms_set 10 zc86.nd (me_tup (ma_cons (me_ix ix_ok (me_var 1) me_int) (ma_cons (me_ix ix_ok (me_var 1) me_int) (ma_cons (me_var 2) (ma_cons (me_call zd83 hr (by decide) (ma_cons (me_var 3) (ma_cons me_int ma_nil))) (ma_cons me_int (ma_cons me_int (ma_cons me_int (ma_cons (me_tup ma_nil) ma_nil))))))))))
  (mss_cons (ms_if (MW.mt (mw_or (mt_cmp (o_ne hr.units) (me_call zd59 hr (by decide) (ma_cons (me_var 6) (ma_cons me_int ma_nil))) (me_call zd82 hr (by decide) (ma_cons (me_var 10) ma_nil))) (mw_one_or (mt_cmp (o_ne hr.units) (me_call zd59 hr (by decide) (ma_cons (me_var 6) (ma_cons me_int ma_nil))) (me_lst ma_nil))))) (mss_one (ms_ret me_bl)) mss_nil)
  (mss_cons (ms_set 11 zc86.nd (me_call zd85 hr (by decide) (ma_cons (me_var 1) (ma_cons (me_call zd83 hr (by decide) (ma_cons (me_var 3) (ma_cons me_int ma_nil))) (ma_cons (me_call zd83 hr (by decide) (ma_cons (me_var 2) (ma_cons me_int ma_nil))) (ma_cons me_int (ma_cons (me_var 5) (ma_cons (me_lst ma_nil) ma_nil))))))))
  (mss_cons (ms_if (MW.mt (mw_or (mt_cmp o_isnot (me_call zd38 hr (by decide) (ma_cons (me_var 6) (ma_cons (me_call zd82 hr (by decide) (ma_cons (me_var 11) ma_nil)) (ma_cons me_int ma_nil)))) me_bl) (mw_or (mt_cmp (o_ne hr.units) (me_call zd9 hr (by decide) (ma_cons (me_var 6) ma_nil)) me_str) (mw_one_or (mt_cmp (o_ne hr.units) (me_call zd59 hr (by decide) (ma_cons (me_var 6) (ma_cons me_int ma_nil))) (me_lst ma_nil)))))) (mss_one (ms_ret me_bl)) mss_nil)
  (mss_cons (ms_setLc 12 zc86.nd (show CompScope _ (defScope zs86) "_law_k" ["_law_script","_law_talk","_law_mine","_law_other","_law_most","_law_window","_law_end","_law_extra","_law_flags","_law_syn","_law_due","_law_last","_law_given_here","_law_taken","_law_size","_law_part","_law_push","_law_goes","_law_comes"] ["_law_k","_law_script"] [0] from ⟨rfl,by decide +kernel,by decide +kernel,by decide +kernel,by decide +kernel,by decide +kernel,rfl,by decide,by decide +kernel⟩) rfl rfl (mi_range1 g.b_range (ma_cons (me_op o_mod (me_call zd79 hr (by decide) (ma_cons (me_var 0) (ma_cons me_int ma_nil))) me_int) ma_nil)) (fun _ _ _ _ _=>(me_op o_mod (me_call zd79 hr (by decide) (ma_cons (me_var 1) (ma_cons (me_op o_add me_int (me_var 0)) ma_nil))) me_int)))
  (mss_cons (ms_setLc 13 zc86.nd (show CompScope _ (defScope zs86) "_law_k" ["_law_script","_law_talk","_law_mine","_law_other","_law_most","_law_window","_law_end","_law_extra","_law_flags","_law_syn","_law_due","_law_last","_law_given_here","_law_taken","_law_size","_law_part","_law_push","_law_goes","_law_comes"] ["_law_k","_law_script"] [0] from ⟨rfl,by decide +kernel,by decide +kernel,by decide +kernel,by decide +kernel,by decide +kernel,rfl,by decide,by decide +kernel⟩) rfl rfl (mi_range1 g.b_range (ma_cons (me_op o_add me_int (me_op o_mod (me_call zd79 hr (by decide) (ma_cons (me_var 0) (ma_cons me_int ma_nil))) me_int)) ma_nil)) (fun _ _ _ _ _=>(me_op o_mod (me_call zd79 hr (by decide) (ma_cons (me_var 1) (ma_cons (me_op o_add me_int (me_var 0)) ma_nil))) me_int)))
  (mss_cons (ms_set 14 zc86.nd (me_callB c_min g.b_min PyProof.Rows.boot_min (ma_cons (me_ix ix_ok (me_lst (ma_cons me_int (ma_cons (me_var 4) ma_nil))) (me_callTy c_int g.b_int PyProof.Rows.boot_int (ma_cons (me_cmp o_gt (me_var 4) me_int) ma_nil))) (ma_cons me_int ma_nil))))
  (mss_cons (ms_if (mt_cmp (o_ne hr.units) (me_call zd57 hr (by decide) (ma_cons (me_var 6) (ma_cons (me_var 13) ma_nil))) (me_callB c_len g.b_len PySem.boot_len (ma_cons (me_var 13) ma_nil))) (mss_one (ms_ret me_bl)) mss_nil)
  (mss_cons (ms_set 15 zc86.nd (me_slice (me_var 13) mo_none (mo_some (me_var 14))))
  (mss_cons (ms_set 16 zc86.nd (me_op o_mul me_int (me_callTy c_int g.b_int PyProof.Rows.boot_int (ma_cons (me_cmp (o_eq hr.units) (me_callB c_len g.b_len PySem.boot_len (ma_cons (me_var 15) ma_nil)) (me_callB c_len g.b_len PySem.boot_len (ma_cons (me_var 13) ma_nil))) ma_nil))))
  (mss_cons (ms_set 17 zc86.nd (me_tup (ma_cons (me_ix ix_ok (me_var 1) me_int) (ma_cons (me_ix ix_ok (me_var 1) me_int) (ma_cons (me_call zd83 hr (by decide) (ma_cons (me_var 2) (ma_cons me_int ma_nil))) (ma_cons (me_call zd83 hr (by decide) (ma_cons (me_var 3) (ma_cons me_int ma_nil))) (ma_cons (me_op o_add me_int (me_var 16)) (ma_cons me_int (ma_cons me_int (ma_cons (me_callTy c_tuple g.b_tuple PyProof.Rows.boot_tuple (ma_cons (me_var 15) ma_nil)) ma_nil))))))))))
  (mss_cons (ms_if (mt_cmp (o_ne hr.units) (me_call zd59 hr (by decide) (ma_cons (me_var 6) (ma_cons me_int ma_nil))) (me_call zd82 hr (by decide) (ma_cons (me_var 17) ma_nil))) (mss_one (ms_ret me_bl)) mss_nil)
  (mss_cons (ms_set 18 zc86.nd (me_call zd85 hr (by decide) (ma_cons (me_var 1) (ma_cons (me_call zd83 hr (by decide) (ma_cons (me_var 3) (ma_cons me_int ma_nil))) (ma_cons (me_call zd83 hr (by decide) (ma_cons (me_var 2) (ma_cons me_int ma_nil))) (ma_cons me_int (ma_cons (me_var 5) (ma_cons (me_var 12) ma_nil))))))))
  (mss_cons (ms_expr (me_call zd38 hr (by decide) (ma_cons (me_var 6) (ma_cons (me_call zd82 hr (by decide) (ma_cons (me_var 18) ma_nil)) (ma_cons me_int ma_nil)))))
  (mss_one (ms_ret (me_and (me_cmp (o_eq hr.units) (me_call zd58 hr (by decide) (ma_cons (me_var 6) (ma_cons me_int ma_nil))) (me_var 12)) (me_one (me_cmp (o_eq hr.units) (me_call zd9 hr (by decide) (ma_cons (me_var 6) ma_nil)) me_str)))))))))))))))))))))))))))))
theorem ok_all {fl:Addr} {fdl:FuncData} (F:Fun K "law" "law" zs86 fl fdl) (zD0:Mk0 K mg "Pile" "Pile.__init__" zs0 zP0) (zD1:Def0 K mg "room" zs1 zP1) (zD2:Def0 K mg "lay" zs2 zP2) (zD3:Def0 K mg "take" zs3 zP3) (zD4:Def0 K mg "plus" zs4 zP4) (zD5:Def0 K mg "offset" zs5 zP5) (zD6:Def0 K mg "past" zs6 zP6) (zD7:Mk0 K mg "End" "End.__init__" zs7 zP7) (zD8:Def0 K mg "start_timer" zs8 zP8) (zD9:Def0 K mg "state" zs9 zP9) (zD10:Def0 K mg "our_window" zs10 zP10) (zD11:Def0 K mg "has_sent_fin" zs11 zP11) (zD12:Def0 K mg "folded" zs12 zP12) (zD13:Def0 K mg "sum_of" zs13 zP13) (zD14:Def0 K mg "length" zs14 zP14) (zD15:Def0 K mg "has" zs15 zP15) (zD16:Def0 K mg "bears" zs16 zP16) (zD17:Def0 K mg "put" zs17 zP17) (zD18:Def0 K mg "bytes_ahead_of_sum" zs18 zP18) (zD19:Def0 K mg "byte_of_head" zs19 zP19) (zD20:Def0 K mg "bytes_of_most" zs20 zP20) (zD21:Def0 K mg "two_bytes" zs21 zP21) (zD22:Def0 K mg "four_bytes" zs22 zP22) (zD23:Def0 K mg "is_right" zs23 zP23) (zD24:Def0 K mg "head_of" zs24 zP24) (zD25:Def0 K mg "is_right_long_head" zs25 zP25) (zD26:Def0 K mg "get" zs26 zP26) (zD27:Def0 K mg "two_at" zs27 zP27) (zD28:Def0 K mg "four_at" zs28 zP28) (zD29:Def0 K mg "reset_for" zs29 zP29) (zD30:Def0 K mg "owe_reset_for" zs30 zP30) (zD31:Def0 K mg "come_to_closed" zs31 zP31) (zD32:Def0 K mg "come_to_listen" zs32 zP32) (zD33:Def0 K mg "hear_syn" zs33 zP33) (zD34:Def0 K mg "come_to_syn_sent" zs34 zP34) (zD35:Def0 K mg "answers_syn" zs35 zP35) (zD36:Def0 K mg "refuse" zs36 zP36) (zD37:Def0 K mg "go_on_from_syn_sent" zs37 zP37) (zD38:Def0 K mg "arrive" zs38 zP38) (zD39:Def0 K mg "is_for" zs39 zP39) (zD40:Def0 K mg "come_to_stream" zs40 zP40) (zD41:Def0 K mg "fits" zs41 zP41) (zD42:Def0 K mg "is_in_window" zs42 zP42) (zD43:Def0 K mg "turn_away" zs43 zP43) (zD44:Def0 K mg "hear_reset" zs44 zP44) (zD45:Def0 K mg "goes_on_behind_answer" zs45 zP45) (zD46:Def0 K mg "has_answered_syn" zs46 zP46) (zD47:Def0 K mg "take_window" zs47 zP47) (zD48:Def0 K mg "hear_answer" zs48 zP48) (zD49:Def0 K mg "is_newer" zs49 zP49) (zD50:Def0 K mg "end_what_is_acknowledged" zs50 zP50) (zD51:Def0 K mg "hear_stream" zs51 zP51) (zD52:Def0 K mg "keep_data" zs52 zP52) (zD53:Def0 K mg "keep_fin" zs53 zP53) (zD54:Def0 K mg "draw_in_order" zs54 zP54) (zD55:Def0 K mg "hear_fin" zs55 zP55) (zD56:Def0 K mg "opened" zs56 zP56) (zD57:Def0 K mg "write" zs57 zP57) (zD58:Def0 K mg "read" zs58 zP58) (zD59:Def0 K mg "send" zs59 zP59) (zD60:Def0 K mg "going" zs60 zP60) (zD61:Def0 K mg "paid_reset" zs61 zP61) (zD62:Def0 K mg "is_due" zs62 zP62) (zD63:Def0 K mg "again" zs63 zP63) (zD64:Def0 K mg "most_at_once" zs64 zP64) (zD65:Def0 K mg "paid_syn" zs65 zP65) (zD66:Def0 K mg "segment_of" zs66 zP66) (zD67:Def0 K mg "going_as_new" zs67 zP67) (zD68:Def0 K mg "new_syn" zs68 zP68) (zD69:Def0 K mg "has_more" zs69 zP69) (zD70:Def0 K mg "has_new_data" zs70 zP70) (zD71:Def0 K mg "unsent" zs71 zP71) (zD72:Def0 K mg "has_new_fin" zs72 zP72) (zD73:Def0 K mg "new_piece" zs73 zP73) (zD74:Def0 K mg "new_data" zs74 zP74) (zD75:Def0 K mg "new_fin" zs75 zP75) (zD76:Def0 K mg "going_as_probe" zs76 zP76) (zD77:Def0 K mg "going_as_answer" zs77 zP77) (zD78:Def0 K mg "_law_cell" zs78 zP78) (zD79:Def0 K mg "_law_mix" zs79 zP79) (zD80:Def0 K mg "_law_two" zs80 zP80) (zD81:Def0 K mg "_law_folded" zs81 zP81) (zD82:Def0 K mg "_law_bytes" zs82 zP82) (zD83:Def0 K mg "_law_plus" zs83 zP83) (zD84:Def0 K mg "_law_first" zs84 zP84) (zD85:Def0 K mg "_law_segment" zs85 zP85) (g:Glb K mg):FnOk P w K mg base CX0 9 fl fdl zP86 (spM ⟨clOf mg,K⟩ l_law):=by
  have zd0:=zo0 (P:=P) (w:=w) (base:=base) zD0 g
  have zd1:=zo1 (P:=P) (w:=w) (base:=base) zD1 g
  have zd2:=zo2 (P:=P) (w:=w) (base:=base) zD2 g zd1
  have zd3:=zo3 (P:=P) (w:=w) (base:=base) zD3 g
  have zd4:=zo4 (P:=P) (w:=w) (base:=base) zD4 g
  have zd5:=zo5 (P:=P) (w:=w) (base:=base) zD5 g
  have zd6:=zo6 (P:=P) (w:=w) (base:=base) zD6 g zd5
  have zd7:=zo7 (P:=P) (w:=w) (base:=base) zD7 g zd0 zd4
  have zd8:=zo8 (P:=P) (w:=w) (base:=base) zD8 g
  have zd9:=zo9 (P:=P) (w:=w) (base:=base) zD9 g
  have zd10:=zo10 (P:=P) (w:=w) (base:=base) zD10 g zd1
  have zd11:=zo11 (P:=P) (w:=w) (base:=base) zD11 g zd6
  have zd12:=zo12 (P:=P) (w:=w) (base:=base) zD12 g
  have zd13:=zo13 (P:=P) (w:=w) (base:=base) zD13 g zd12
  have zd15:=zo15 (P:=P) (w:=w) (base:=base) zD15 g
  have zd14:=zo14 (P:=P) (w:=w) (base:=base) zD14 g zd15
  have zd16:=zo16 (P:=P) (w:=w) (base:=base) zD16 g zd15
  have zd19:=zo19 (P:=P) (w:=w) (base:=base) zD19 g
  have zd21:=zo21 (P:=P) (w:=w) (base:=base) zD21 g
  have zd22:=zo22 (P:=P) (w:=w) (base:=base) zD22 g zd21
  have zd18:=zo18 (P:=P) (w:=w) (base:=base) zD18 g zd19 zd22 zd21
  have zd20:=zo20 (P:=P) (w:=w) (base:=base) zD20 g zd21
  have zd17:=zo17 (P:=P) (w:=w) (base:=base) zD17 g zd18 zd20 zd13 zd21
  have zd24:=zo24 (P:=P) (w:=w) (base:=base) zD24 g
  have zd27:=zo27 (P:=P) (w:=w) (base:=base) zD27 g
  have zd25:=zo25 (P:=P) (w:=w) (base:=base) zD25 g zd15 zd27
  have zd23:=zo23 (P:=P) (w:=w) (base:=base) zD23 g zd19 zd12 zd24 zd25 zd27
  have zd28:=zo28 (P:=P) (w:=w) (base:=base) zD28 g zd27
  have zd26:=zo26 (P:=P) (w:=w) (base:=base) zD26 g zd28 zd24 zd23 zd27
  have zd29:=zo29 (P:=P) (w:=w) (base:=base) zD29 g zd16 zd14 zd4
  have zd30:=zo30 (P:=P) (w:=w) (base:=base) zD30 g zd16 zd29
  have zd31:=zo31 (P:=P) (w:=w) (base:=base) zD31 g zd30
  have zd33:=zo33 (P:=P) (w:=w) (base:=base) zD33 g zd16 zd4
  have zd32:=zo32 (P:=P) (w:=w) (base:=base) zD32 g zd16 zd33 zd30
  have zd35:=zo35 (P:=P) (w:=w) (base:=base) zD35 g zd4
  have zd37:=zo37 (P:=P) (w:=w) (base:=base) zD37 g zd16 zd8
  have zd36:=zo36 (P:=P) (w:=w) (base:=base) zD36 g zd16
  have zd34:=zo34 (P:=P) (w:=w) (base:=base) zD34 g zd35 zd16 zd37 zd33 zd30 zd36
  have zd42:=zo42 (P:=P) (w:=w) (base:=base) zD42 g zd5 zd10
  have zd41:=zo41 (P:=P) (w:=w) (base:=base) zD41 g zd42 zd14 zd5 zd4
  have zd50:=zo50 (P:=P) (w:=w) (base:=base) zD50 g zd11
  have zd47:=zo47 (P:=P) (w:=w) (base:=base) zD47 g
  have zd46:=zo46 (P:=P) (w:=w) (base:=base) zD46 g zd30 zd47
  have zd49:=zo49 (P:=P) (w:=w) (base:=base) zD49 g zd6
  have zd48:=zo48 (P:=P) (w:=w) (base:=base) zD48 g zd49 zd5 zd6 zd8 zd3 zd47
  have zd45:=zo45 (P:=P) (w:=w) (base:=base) zD45 g zd50 zd46 zd48 zd6
  have zd44:=zo44 (P:=P) (w:=w) (base:=base) zD44 g
  have zd54:=zo54 (P:=P) (w:=w) (base:=base) zD54 g zd2 zd4
  have zd55:=zo55 (P:=P) (w:=w) (base:=base) zD55 g zd4
  have zd52:=zo52 (P:=P) (w:=w) (base:=base) zD52 g zd42 zd4
  have zd53:=zo53 (P:=P) (w:=w) (base:=base) zD53 g zd16 zd42 zd4
  have zd51:=zo51 (P:=P) (w:=w) (base:=base) zD51 g zd54 zd55 zd52 zd53
  have zd43:=zo43 (P:=P) (w:=w) (base:=base) zD43 g zd16
  have zd40:=zo40 (P:=P) (w:=w) (base:=base) zD40 g zd16 zd41 zd45 zd44 zd51 zd43
  have zd39:=zo39 (P:=P) (w:=w) (base:=base) zD39 g
  have zd38:=zo38 (P:=P) (w:=w) (base:=base) zD38 g zd31 zd32 zd40 zd34 zd26 zd39 zd23
  have zd56:=zo56 (P:=P) (w:=w) (base:=base) zD56 g zd7
  have zd57:=zo57 (P:=P) (w:=w) (base:=base) zD57 g zd2 zd4
  have zd58:=zo58 (P:=P) (w:=w) (base:=base) zD58 g zd10 zd3
  have zd64:=zo64 (P:=P) (w:=w) (base:=base) zD64 g
  have zd65:=zo65 (P:=P) (w:=w) (base:=base) zD65 g
  have zd66:=zo66 (P:=P) (w:=w) (base:=base) zD66 g zd10
  have zd63:=zo63 (P:=P) (w:=w) (base:=base) zD63 g zd64 zd5 zd65 zd66
  have zd77:=zo77 (P:=P) (w:=w) (base:=base) zD77 g zd66
  have zd71:=zo71 (P:=P) (w:=w) (base:=base) zD71 g zd5
  have zd70:=zo70 (P:=P) (w:=w) (base:=base) zD70 g zd71
  have zd72:=zo72 (P:=P) (w:=w) (base:=base) zD72 g zd71
  have zd69:=zo69 (P:=P) (w:=w) (base:=base) zD69 g zd70 zd72
  have zd74:=zo74 (P:=P) (w:=w) (base:=base) zD74 g zd64 zd5 zd4 zd66 zd71
  have zd75:=zo75 (P:=P) (w:=w) (base:=base) zD75 g zd4 zd66
  have zd73:=zo73 (P:=P) (w:=w) (base:=base) zD73 g zd70 zd74 zd75
  have zd68:=zo68 (P:=P) (w:=w) (base:=base) zD68 g zd65 zd4 zd8
  have zd67:=zo67 (P:=P) (w:=w) (base:=base) zD67 g zd69 zd73 zd68 zd5 zd8
  have zd62:=zo62 (P:=P) (w:=w) (base:=base) zD62 g
  have zd76:=zo76 (P:=P) (w:=w) (base:=base) zD76 g zd69 zd62 zd73 zd8
  have zd61:=zo61 (P:=P) (w:=w) (base:=base) zD61 g
  have zd60:=zo60 (P:=P) (w:=w) (base:=base) zD60 g zd63 zd77 zd67 zd76 zd62 zd61
  have zd59:=zo59 (P:=P) (w:=w) (base:=base) zD59 g zd60 zd17
  have zd78:=zo78 (P:=P) (w:=w) (base:=base) zD78 g
  have zd79:=zo79 (P:=P) (w:=w) (base:=base) zD79 g zd78
  have zd80:=zo80 (P:=P) (w:=w) (base:=base) zD80 g
  have zd81:=zo81 (P:=P) (w:=w) (base:=base) zD81 g
  have zd82:=zo82 (P:=P) (w:=w) (base:=base) zD82 g zd81 zd80
  have zd83:=zo83 (P:=P) (w:=w) (base:=base) zD83 g
  have zd84:=zo84 (P:=P) (w:=w) (base:=base) zD84 g
  have zd85:=zo85 (P:=P) (w:=w) (base:=base) zD85 g
  exact zo86 F g zd82 zd84 zd79 zd83 zd85 zd38 zd56 zd58 zd59 zd9 zd57
end
open PySem.W
theorem all_mk {l:OpenLaw} {w:World} {K:Frag} {h:Heap} {mg:Str→Option Value} {fa:Addr} (X:K.In h) (G:h.Ns mainGlobals mg) (hfa:mg "law"=some (.ref fa))
    (aC_End:nsIn K mainGlobals "End"=some (some (.ref C_End)))
    (aC_Pile:nsIn K mainGlobals "Pile"=some (some (.ref C_Pile)))
    (a0:findIn K (.ref C_Pile) "__init__"=some (some (.ref f0))) (i0:isFn K (.ref f0)=true) (l0:K.lookup f0=some ⟨oc0,od0,.func (fnOf "__init__" "Pile.__init__" (defArgs zs0) (defBody zs0) (defScope zs0) .none kV0 dc0 pm0 an0 cd0 ct0),sl0⟩) (c0:codeIn K cd0 "Pile.__init__"=true) (k0:keepIn K (.ref f0)=true)
    (a1:nsIn K mainGlobals "room"=some (some (.ref f1))) (l1:K.lookup f1=some ⟨oc1,od1,.func (fnOf "room" "room" (defArgs zs1) (defBody zs1) (defScope zs1) .none kV1 dc1 pm1 an1 cd1 ct1),sl1⟩) (c1:codeIn K cd1 "room"=true) (k1:keepIn K (.ref f1)=true)
    (a2:nsIn K mainGlobals "lay"=some (some (.ref f2))) (l2:K.lookup f2=some ⟨oc2,od2,.func (fnOf "lay" "lay" (defArgs zs2) (defBody zs2) (defScope zs2) .none kV2 dc2 pm2 an2 cd2 ct2),sl2⟩) (c2:codeIn K cd2 "lay"=true) (k2:keepIn K (.ref f2)=true)
    (a3:nsIn K mainGlobals "take"=some (some (.ref f3))) (l3:K.lookup f3=some ⟨oc3,od3,.func (fnOf "take" "take" (defArgs zs3) (defBody zs3) (defScope zs3) .none kV3 dc3 pm3 an3 cd3 ct3),sl3⟩) (c3:codeIn K cd3 "take"=true) (k3:keepIn K (.ref f3)=true)
    (a4:nsIn K mainGlobals "plus"=some (some (.ref f4))) (l4:K.lookup f4=some ⟨oc4,od4,.func (fnOf "plus" "plus" (defArgs zs4) (defBody zs4) (defScope zs4) .none kV4 dc4 pm4 an4 cd4 ct4),sl4⟩) (c4:codeIn K cd4 "plus"=true) (k4:keepIn K (.ref f4)=true)
    (a5:nsIn K mainGlobals "offset"=some (some (.ref f5))) (l5:K.lookup f5=some ⟨oc5,od5,.func (fnOf "offset" "offset" (defArgs zs5) (defBody zs5) (defScope zs5) .none kV5 dc5 pm5 an5 cd5 ct5),sl5⟩) (c5:codeIn K cd5 "offset"=true) (k5:keepIn K (.ref f5)=true)
    (a6:nsIn K mainGlobals "past"=some (some (.ref f6))) (l6:K.lookup f6=some ⟨oc6,od6,.func (fnOf "past" "past" (defArgs zs6) (defBody zs6) (defScope zs6) .none kV6 dc6 pm6 an6 cd6 ct6),sl6⟩) (c6:codeIn K cd6 "past"=true) (k6:keepIn K (.ref f6)=true)
    (a7:findIn K (.ref C_End) "__init__"=some (some (.ref f7))) (i7:isFn K (.ref f7)=true) (l7:K.lookup f7=some ⟨oc7,od7,.func (fnOf "__init__" "End.__init__" (defArgs zs7) (defBody zs7) (defScope zs7) .none kV7 dc7 pm7 an7 cd7 ct7),sl7⟩) (c7:codeIn K cd7 "End.__init__"=true) (k7:keepIn K (.ref f7)=true)
    (a8:nsIn K mainGlobals "start_timer"=some (some (.ref f8))) (l8:K.lookup f8=some ⟨oc8,od8,.func (fnOf "start_timer" "start_timer" (defArgs zs8) (defBody zs8) (defScope zs8) .none kV8 dc8 pm8 an8 cd8 ct8),sl8⟩) (c8:codeIn K cd8 "start_timer"=true) (k8:keepIn K (.ref f8)=true)
    (a9:nsIn K mainGlobals "state"=some (some (.ref f9))) (l9:K.lookup f9=some ⟨oc9,od9,.func (fnOf "state" "state" (defArgs zs9) (defBody zs9) (defScope zs9) .none kV9 dc9 pm9 an9 cd9 ct9),sl9⟩) (c9:codeIn K cd9 "state"=true) (k9:keepIn K (.ref f9)=true)
    (a10:nsIn K mainGlobals "our_window"=some (some (.ref f10))) (l10:K.lookup f10=some ⟨oc10,od10,.func (fnOf "our_window" "our_window" (defArgs zs10) (defBody zs10) (defScope zs10) .none kV10 dc10 pm10 an10 cd10 ct10),sl10⟩) (c10:codeIn K cd10 "our_window"=true) (k10:keepIn K (.ref f10)=true)
    (a11:nsIn K mainGlobals "has_sent_fin"=some (some (.ref f11))) (l11:K.lookup f11=some ⟨oc11,od11,.func (fnOf "has_sent_fin" "has_sent_fin" (defArgs zs11) (defBody zs11) (defScope zs11) .none kV11 dc11 pm11 an11 cd11 ct11),sl11⟩) (c11:codeIn K cd11 "has_sent_fin"=true) (k11:keepIn K (.ref f11)=true)
    (a12:nsIn K mainGlobals "folded"=some (some (.ref f12))) (l12:K.lookup f12=some ⟨oc12,od12,.func (fnOf "folded" "folded" (defArgs zs12) (defBody zs12) (defScope zs12) .none kV12 dc12 pm12 an12 cd12 ct12),sl12⟩) (c12:codeIn K cd12 "folded"=true) (k12:keepIn K (.ref f12)=true)
    (a13:nsIn K mainGlobals "sum_of"=some (some (.ref f13))) (l13:K.lookup f13=some ⟨oc13,od13,.func (fnOf "sum_of" "sum_of" (defArgs zs13) (defBody zs13) (defScope zs13) .none kV13 dc13 pm13 an13 cd13 ct13),sl13⟩) (c13:codeIn K cd13 "sum_of"=true) (k13:keepIn K (.ref f13)=true)
    (a14:nsIn K mainGlobals "length"=some (some (.ref f14))) (l14:K.lookup f14=some ⟨oc14,od14,.func (fnOf "length" "length" (defArgs zs14) (defBody zs14) (defScope zs14) .none kV14 dc14 pm14 an14 cd14 ct14),sl14⟩) (c14:codeIn K cd14 "length"=true) (k14:keepIn K (.ref f14)=true)
    (a15:nsIn K mainGlobals "has"=some (some (.ref f15))) (l15:K.lookup f15=some ⟨oc15,od15,.func (fnOf "has" "has" (defArgs zs15) (defBody zs15) (defScope zs15) .none kV15 dc15 pm15 an15 cd15 ct15),sl15⟩) (c15:codeIn K cd15 "has"=true) (k15:keepIn K (.ref f15)=true)
    (a16:nsIn K mainGlobals "bears"=some (some (.ref f16))) (l16:K.lookup f16=some ⟨oc16,od16,.func (fnOf "bears" "bears" (defArgs zs16) (defBody zs16) (defScope zs16) .none kV16 dc16 pm16 an16 cd16 ct16),sl16⟩) (c16:codeIn K cd16 "bears"=true) (k16:keepIn K (.ref f16)=true)
    (a17:nsIn K mainGlobals "put"=some (some (.ref f17))) (l17:K.lookup f17=some ⟨oc17,od17,.func (fnOf "put" "put" (defArgs zs17) (defBody zs17) (defScope zs17) .none kV17 dc17 pm17 an17 cd17 ct17),sl17⟩) (c17:codeIn K cd17 "put"=true) (k17:keepIn K (.ref f17)=true)
    (a18:nsIn K mainGlobals "bytes_ahead_of_sum"=some (some (.ref f18))) (l18:K.lookup f18=some ⟨oc18,od18,.func (fnOf "bytes_ahead_of_sum" "bytes_ahead_of_sum" (defArgs zs18) (defBody zs18) (defScope zs18) .none kV18 dc18 pm18 an18 cd18 ct18),sl18⟩) (c18:codeIn K cd18 "bytes_ahead_of_sum"=true) (k18:keepIn K (.ref f18)=true)
    (a19:nsIn K mainGlobals "byte_of_head"=some (some (.ref f19))) (l19:K.lookup f19=some ⟨oc19,od19,.func (fnOf "byte_of_head" "byte_of_head" (defArgs zs19) (defBody zs19) (defScope zs19) .none kV19 dc19 pm19 an19 cd19 ct19),sl19⟩) (c19:codeIn K cd19 "byte_of_head"=true) (k19:keepIn K (.ref f19)=true)
    (a20:nsIn K mainGlobals "bytes_of_most"=some (some (.ref f20))) (l20:K.lookup f20=some ⟨oc20,od20,.func (fnOf "bytes_of_most" "bytes_of_most" (defArgs zs20) (defBody zs20) (defScope zs20) .none kV20 dc20 pm20 an20 cd20 ct20),sl20⟩) (c20:codeIn K cd20 "bytes_of_most"=true) (k20:keepIn K (.ref f20)=true)
    (a21:nsIn K mainGlobals "two_bytes"=some (some (.ref f21))) (l21:K.lookup f21=some ⟨oc21,od21,.func (fnOf "two_bytes" "two_bytes" (defArgs zs21) (defBody zs21) (defScope zs21) .none kV21 dc21 pm21 an21 cd21 ct21),sl21⟩) (c21:codeIn K cd21 "two_bytes"=true) (k21:keepIn K (.ref f21)=true)
    (a22:nsIn K mainGlobals "four_bytes"=some (some (.ref f22))) (l22:K.lookup f22=some ⟨oc22,od22,.func (fnOf "four_bytes" "four_bytes" (defArgs zs22) (defBody zs22) (defScope zs22) .none kV22 dc22 pm22 an22 cd22 ct22),sl22⟩) (c22:codeIn K cd22 "four_bytes"=true) (k22:keepIn K (.ref f22)=true)
    (a23:nsIn K mainGlobals "is_right"=some (some (.ref f23))) (l23:K.lookup f23=some ⟨oc23,od23,.func (fnOf "is_right" "is_right" (defArgs zs23) (defBody zs23) (defScope zs23) .none kV23 dc23 pm23 an23 cd23 ct23),sl23⟩) (c23:codeIn K cd23 "is_right"=true) (k23:keepIn K (.ref f23)=true)
    (a24:nsIn K mainGlobals "head_of"=some (some (.ref f24))) (l24:K.lookup f24=some ⟨oc24,od24,.func (fnOf "head_of" "head_of" (defArgs zs24) (defBody zs24) (defScope zs24) .none kV24 dc24 pm24 an24 cd24 ct24),sl24⟩) (c24:codeIn K cd24 "head_of"=true) (k24:keepIn K (.ref f24)=true)
    (a25:nsIn K mainGlobals "is_right_long_head"=some (some (.ref f25))) (l25:K.lookup f25=some ⟨oc25,od25,.func (fnOf "is_right_long_head" "is_right_long_head" (defArgs zs25) (defBody zs25) (defScope zs25) .none kV25 dc25 pm25 an25 cd25 ct25),sl25⟩) (c25:codeIn K cd25 "is_right_long_head"=true) (k25:keepIn K (.ref f25)=true)
    (a26:nsIn K mainGlobals "get"=some (some (.ref f26))) (l26:K.lookup f26=some ⟨oc26,od26,.func (fnOf "get" "get" (defArgs zs26) (defBody zs26) (defScope zs26) .none kV26 dc26 pm26 an26 cd26 ct26),sl26⟩) (c26:codeIn K cd26 "get"=true) (k26:keepIn K (.ref f26)=true)
    (a27:nsIn K mainGlobals "two_at"=some (some (.ref f27))) (l27:K.lookup f27=some ⟨oc27,od27,.func (fnOf "two_at" "two_at" (defArgs zs27) (defBody zs27) (defScope zs27) .none kV27 dc27 pm27 an27 cd27 ct27),sl27⟩) (c27:codeIn K cd27 "two_at"=true) (k27:keepIn K (.ref f27)=true)
    (a28:nsIn K mainGlobals "four_at"=some (some (.ref f28))) (l28:K.lookup f28=some ⟨oc28,od28,.func (fnOf "four_at" "four_at" (defArgs zs28) (defBody zs28) (defScope zs28) .none kV28 dc28 pm28 an28 cd28 ct28),sl28⟩) (c28:codeIn K cd28 "four_at"=true) (k28:keepIn K (.ref f28)=true)
    (a29:nsIn K mainGlobals "reset_for"=some (some (.ref f29))) (l29:K.lookup f29=some ⟨oc29,od29,.func (fnOf "reset_for" "reset_for" (defArgs zs29) (defBody zs29) (defScope zs29) .none kV29 dc29 pm29 an29 cd29 ct29),sl29⟩) (c29:codeIn K cd29 "reset_for"=true) (k29:keepIn K (.ref f29)=true)
    (a30:nsIn K mainGlobals "owe_reset_for"=some (some (.ref f30))) (l30:K.lookup f30=some ⟨oc30,od30,.func (fnOf "owe_reset_for" "owe_reset_for" (defArgs zs30) (defBody zs30) (defScope zs30) .none kV30 dc30 pm30 an30 cd30 ct30),sl30⟩) (c30:codeIn K cd30 "owe_reset_for"=true) (k30:keepIn K (.ref f30)=true)
    (a31:nsIn K mainGlobals "come_to_closed"=some (some (.ref f31))) (l31:K.lookup f31=some ⟨oc31,od31,.func (fnOf "come_to_closed" "come_to_closed" (defArgs zs31) (defBody zs31) (defScope zs31) .none kV31 dc31 pm31 an31 cd31 ct31),sl31⟩) (c31:codeIn K cd31 "come_to_closed"=true) (k31:keepIn K (.ref f31)=true)
    (a32:nsIn K mainGlobals "come_to_listen"=some (some (.ref f32))) (l32:K.lookup f32=some ⟨oc32,od32,.func (fnOf "come_to_listen" "come_to_listen" (defArgs zs32) (defBody zs32) (defScope zs32) .none kV32 dc32 pm32 an32 cd32 ct32),sl32⟩) (c32:codeIn K cd32 "come_to_listen"=true) (k32:keepIn K (.ref f32)=true)
    (a33:nsIn K mainGlobals "hear_syn"=some (some (.ref f33))) (l33:K.lookup f33=some ⟨oc33,od33,.func (fnOf "hear_syn" "hear_syn" (defArgs zs33) (defBody zs33) (defScope zs33) .none kV33 dc33 pm33 an33 cd33 ct33),sl33⟩) (c33:codeIn K cd33 "hear_syn"=true) (k33:keepIn K (.ref f33)=true)
    (a34:nsIn K mainGlobals "come_to_syn_sent"=some (some (.ref f34))) (l34:K.lookup f34=some ⟨oc34,od34,.func (fnOf "come_to_syn_sent" "come_to_syn_sent" (defArgs zs34) (defBody zs34) (defScope zs34) .none kV34 dc34 pm34 an34 cd34 ct34),sl34⟩) (c34:codeIn K cd34 "come_to_syn_sent"=true) (k34:keepIn K (.ref f34)=true)
    (a35:nsIn K mainGlobals "answers_syn"=some (some (.ref f35))) (l35:K.lookup f35=some ⟨oc35,od35,.func (fnOf "answers_syn" "answers_syn" (defArgs zs35) (defBody zs35) (defScope zs35) .none kV35 dc35 pm35 an35 cd35 ct35),sl35⟩) (c35:codeIn K cd35 "answers_syn"=true) (k35:keepIn K (.ref f35)=true)
    (a36:nsIn K mainGlobals "refuse"=some (some (.ref f36))) (l36:K.lookup f36=some ⟨oc36,od36,.func (fnOf "refuse" "refuse" (defArgs zs36) (defBody zs36) (defScope zs36) .none kV36 dc36 pm36 an36 cd36 ct36),sl36⟩) (c36:codeIn K cd36 "refuse"=true) (k36:keepIn K (.ref f36)=true)
    (a37:nsIn K mainGlobals "go_on_from_syn_sent"=some (some (.ref f37))) (l37:K.lookup f37=some ⟨oc37,od37,.func (fnOf "go_on_from_syn_sent" "go_on_from_syn_sent" (defArgs zs37) (defBody zs37) (defScope zs37) .none kV37 dc37 pm37 an37 cd37 ct37),sl37⟩) (c37:codeIn K cd37 "go_on_from_syn_sent"=true) (k37:keepIn K (.ref f37)=true)
    (a38:nsIn K mainGlobals "arrive"=some (some (.ref f38))) (l38:K.lookup f38=some ⟨oc38,od38,.func (fnOf "arrive" "arrive" (defArgs zs38) (defBody zs38) (defScope zs38) .none kV38 dc38 pm38 an38 cd38 ct38),sl38⟩) (c38:codeIn K cd38 "arrive"=true) (k38:keepIn K (.ref f38)=true)
    (a39:nsIn K mainGlobals "is_for"=some (some (.ref f39))) (l39:K.lookup f39=some ⟨oc39,od39,.func (fnOf "is_for" "is_for" (defArgs zs39) (defBody zs39) (defScope zs39) .none kV39 dc39 pm39 an39 cd39 ct39),sl39⟩) (c39:codeIn K cd39 "is_for"=true) (k39:keepIn K (.ref f39)=true)
    (a40:nsIn K mainGlobals "come_to_stream"=some (some (.ref f40))) (l40:K.lookup f40=some ⟨oc40,od40,.func (fnOf "come_to_stream" "come_to_stream" (defArgs zs40) (defBody zs40) (defScope zs40) .none kV40 dc40 pm40 an40 cd40 ct40),sl40⟩) (c40:codeIn K cd40 "come_to_stream"=true) (k40:keepIn K (.ref f40)=true)
    (a41:nsIn K mainGlobals "fits"=some (some (.ref f41))) (l41:K.lookup f41=some ⟨oc41,od41,.func (fnOf "fits" "fits" (defArgs zs41) (defBody zs41) (defScope zs41) .none kV41 dc41 pm41 an41 cd41 ct41),sl41⟩) (c41:codeIn K cd41 "fits"=true) (k41:keepIn K (.ref f41)=true)
    (a42:nsIn K mainGlobals "is_in_window"=some (some (.ref f42))) (l42:K.lookup f42=some ⟨oc42,od42,.func (fnOf "is_in_window" "is_in_window" (defArgs zs42) (defBody zs42) (defScope zs42) .none kV42 dc42 pm42 an42 cd42 ct42),sl42⟩) (c42:codeIn K cd42 "is_in_window"=true) (k42:keepIn K (.ref f42)=true)
    (a43:nsIn K mainGlobals "turn_away"=some (some (.ref f43))) (l43:K.lookup f43=some ⟨oc43,od43,.func (fnOf "turn_away" "turn_away" (defArgs zs43) (defBody zs43) (defScope zs43) .none kV43 dc43 pm43 an43 cd43 ct43),sl43⟩) (c43:codeIn K cd43 "turn_away"=true) (k43:keepIn K (.ref f43)=true)
    (a44:nsIn K mainGlobals "hear_reset"=some (some (.ref f44))) (l44:K.lookup f44=some ⟨oc44,od44,.func (fnOf "hear_reset" "hear_reset" (defArgs zs44) (defBody zs44) (defScope zs44) .none kV44 dc44 pm44 an44 cd44 ct44),sl44⟩) (c44:codeIn K cd44 "hear_reset"=true) (k44:keepIn K (.ref f44)=true)
    (a45:nsIn K mainGlobals "goes_on_behind_answer"=some (some (.ref f45))) (l45:K.lookup f45=some ⟨oc45,od45,.func (fnOf "goes_on_behind_answer" "goes_on_behind_answer" (defArgs zs45) (defBody zs45) (defScope zs45) .none kV45 dc45 pm45 an45 cd45 ct45),sl45⟩) (c45:codeIn K cd45 "goes_on_behind_answer"=true) (k45:keepIn K (.ref f45)=true)
    (a46:nsIn K mainGlobals "has_answered_syn"=some (some (.ref f46))) (l46:K.lookup f46=some ⟨oc46,od46,.func (fnOf "has_answered_syn" "has_answered_syn" (defArgs zs46) (defBody zs46) (defScope zs46) .none kV46 dc46 pm46 an46 cd46 ct46),sl46⟩) (c46:codeIn K cd46 "has_answered_syn"=true) (k46:keepIn K (.ref f46)=true)
    (a47:nsIn K mainGlobals "take_window"=some (some (.ref f47))) (l47:K.lookup f47=some ⟨oc47,od47,.func (fnOf "take_window" "take_window" (defArgs zs47) (defBody zs47) (defScope zs47) .none kV47 dc47 pm47 an47 cd47 ct47),sl47⟩) (c47:codeIn K cd47 "take_window"=true) (k47:keepIn K (.ref f47)=true)
    (a48:nsIn K mainGlobals "hear_answer"=some (some (.ref f48))) (l48:K.lookup f48=some ⟨oc48,od48,.func (fnOf "hear_answer" "hear_answer" (defArgs zs48) (defBody zs48) (defScope zs48) .none kV48 dc48 pm48 an48 cd48 ct48),sl48⟩) (c48:codeIn K cd48 "hear_answer"=true) (k48:keepIn K (.ref f48)=true)
    (a49:nsIn K mainGlobals "is_newer"=some (some (.ref f49))) (l49:K.lookup f49=some ⟨oc49,od49,.func (fnOf "is_newer" "is_newer" (defArgs zs49) (defBody zs49) (defScope zs49) .none kV49 dc49 pm49 an49 cd49 ct49),sl49⟩) (c49:codeIn K cd49 "is_newer"=true) (k49:keepIn K (.ref f49)=true)
    (a50:nsIn K mainGlobals "end_what_is_acknowledged"=some (some (.ref f50))) (l50:K.lookup f50=some ⟨oc50,od50,.func (fnOf "end_what_is_acknowledged" "end_what_is_acknowledged" (defArgs zs50) (defBody zs50) (defScope zs50) .none kV50 dc50 pm50 an50 cd50 ct50),sl50⟩) (c50:codeIn K cd50 "end_what_is_acknowledged"=true) (k50:keepIn K (.ref f50)=true)
    (a51:nsIn K mainGlobals "hear_stream"=some (some (.ref f51))) (l51:K.lookup f51=some ⟨oc51,od51,.func (fnOf "hear_stream" "hear_stream" (defArgs zs51) (defBody zs51) (defScope zs51) .none kV51 dc51 pm51 an51 cd51 ct51),sl51⟩) (c51:codeIn K cd51 "hear_stream"=true) (k51:keepIn K (.ref f51)=true)
    (a52:nsIn K mainGlobals "keep_data"=some (some (.ref f52))) (l52:K.lookup f52=some ⟨oc52,od52,.func (fnOf "keep_data" "keep_data" (defArgs zs52) (defBody zs52) (defScope zs52) .none kV52 dc52 pm52 an52 cd52 ct52),sl52⟩) (c52:codeIn K cd52 "keep_data"=true) (k52:keepIn K (.ref f52)=true)
    (a53:nsIn K mainGlobals "keep_fin"=some (some (.ref f53))) (l53:K.lookup f53=some ⟨oc53,od53,.func (fnOf "keep_fin" "keep_fin" (defArgs zs53) (defBody zs53) (defScope zs53) .none kV53 dc53 pm53 an53 cd53 ct53),sl53⟩) (c53:codeIn K cd53 "keep_fin"=true) (k53:keepIn K (.ref f53)=true)
    (a54:nsIn K mainGlobals "draw_in_order"=some (some (.ref f54))) (l54:K.lookup f54=some ⟨oc54,od54,.func (fnOf "draw_in_order" "draw_in_order" (defArgs zs54) (defBody zs54) (defScope zs54) .none kV54 dc54 pm54 an54 cd54 ct54),sl54⟩) (c54:codeIn K cd54 "draw_in_order"=true) (k54:keepIn K (.ref f54)=true)
    (a55:nsIn K mainGlobals "hear_fin"=some (some (.ref f55))) (l55:K.lookup f55=some ⟨oc55,od55,.func (fnOf "hear_fin" "hear_fin" (defArgs zs55) (defBody zs55) (defScope zs55) .none kV55 dc55 pm55 an55 cd55 ct55),sl55⟩) (c55:codeIn K cd55 "hear_fin"=true) (k55:keepIn K (.ref f55)=true)
    (a56:nsIn K mainGlobals "opened"=some (some (.ref f56))) (l56:K.lookup f56=some ⟨oc56,od56,.func (fnOf "opened" "opened" (defArgs zs56) (defBody zs56) (defScope zs56) .none kV56 dc56 pm56 an56 cd56 ct56),sl56⟩) (c56:codeIn K cd56 "opened"=true) (k56:keepIn K (.ref f56)=true)
    (a57:nsIn K mainGlobals "write"=some (some (.ref f57))) (l57:K.lookup f57=some ⟨oc57,od57,.func (fnOf "write" "write" (defArgs zs57) (defBody zs57) (defScope zs57) .none kV57 dc57 pm57 an57 cd57 ct57),sl57⟩) (c57:codeIn K cd57 "write"=true) (k57:keepIn K (.ref f57)=true)
    (a58:nsIn K mainGlobals "read"=some (some (.ref f58))) (l58:K.lookup f58=some ⟨oc58,od58,.func (fnOf "read" "read" (defArgs zs58) (defBody zs58) (defScope zs58) .none kV58 dc58 pm58 an58 cd58 ct58),sl58⟩) (c58:codeIn K cd58 "read"=true) (k58:keepIn K (.ref f58)=true)
    (a59:nsIn K mainGlobals "send"=some (some (.ref f59))) (l59:K.lookup f59=some ⟨oc59,od59,.func (fnOf "send" "send" (defArgs zs59) (defBody zs59) (defScope zs59) .none kV59 dc59 pm59 an59 cd59 ct59),sl59⟩) (c59:codeIn K cd59 "send"=true) (k59:keepIn K (.ref f59)=true)
    (a60:nsIn K mainGlobals "going"=some (some (.ref f60))) (l60:K.lookup f60=some ⟨oc60,od60,.func (fnOf "going" "going" (defArgs zs60) (defBody zs60) (defScope zs60) .none kV60 dc60 pm60 an60 cd60 ct60),sl60⟩) (c60:codeIn K cd60 "going"=true) (k60:keepIn K (.ref f60)=true)
    (a61:nsIn K mainGlobals "paid_reset"=some (some (.ref f61))) (l61:K.lookup f61=some ⟨oc61,od61,.func (fnOf "paid_reset" "paid_reset" (defArgs zs61) (defBody zs61) (defScope zs61) .none kV61 dc61 pm61 an61 cd61 ct61),sl61⟩) (c61:codeIn K cd61 "paid_reset"=true) (k61:keepIn K (.ref f61)=true)
    (a62:nsIn K mainGlobals "is_due"=some (some (.ref f62))) (l62:K.lookup f62=some ⟨oc62,od62,.func (fnOf "is_due" "is_due" (defArgs zs62) (defBody zs62) (defScope zs62) .none kV62 dc62 pm62 an62 cd62 ct62),sl62⟩) (c62:codeIn K cd62 "is_due"=true) (k62:keepIn K (.ref f62)=true)
    (a63:nsIn K mainGlobals "again"=some (some (.ref f63))) (l63:K.lookup f63=some ⟨oc63,od63,.func (fnOf "again" "again" (defArgs zs63) (defBody zs63) (defScope zs63) .none kV63 dc63 pm63 an63 cd63 ct63),sl63⟩) (c63:codeIn K cd63 "again"=true) (k63:keepIn K (.ref f63)=true)
    (a64:nsIn K mainGlobals "most_at_once"=some (some (.ref f64))) (l64:K.lookup f64=some ⟨oc64,od64,.func (fnOf "most_at_once" "most_at_once" (defArgs zs64) (defBody zs64) (defScope zs64) .none kV64 dc64 pm64 an64 cd64 ct64),sl64⟩) (c64:codeIn K cd64 "most_at_once"=true) (k64:keepIn K (.ref f64)=true)
    (a65:nsIn K mainGlobals "paid_syn"=some (some (.ref f65))) (l65:K.lookup f65=some ⟨oc65,od65,.func (fnOf "paid_syn" "paid_syn" (defArgs zs65) (defBody zs65) (defScope zs65) .none kV65 dc65 pm65 an65 cd65 ct65),sl65⟩) (c65:codeIn K cd65 "paid_syn"=true) (k65:keepIn K (.ref f65)=true)
    (a66:nsIn K mainGlobals "segment_of"=some (some (.ref f66))) (l66:K.lookup f66=some ⟨oc66,od66,.func (fnOf "segment_of" "segment_of" (defArgs zs66) (defBody zs66) (defScope zs66) .none kV66 dc66 pm66 an66 cd66 ct66),sl66⟩) (c66:codeIn K cd66 "segment_of"=true) (k66:keepIn K (.ref f66)=true)
    (a67:nsIn K mainGlobals "going_as_new"=some (some (.ref f67))) (l67:K.lookup f67=some ⟨oc67,od67,.func (fnOf "going_as_new" "going_as_new" (defArgs zs67) (defBody zs67) (defScope zs67) .none kV67 dc67 pm67 an67 cd67 ct67),sl67⟩) (c67:codeIn K cd67 "going_as_new"=true) (k67:keepIn K (.ref f67)=true)
    (a68:nsIn K mainGlobals "new_syn"=some (some (.ref f68))) (l68:K.lookup f68=some ⟨oc68,od68,.func (fnOf "new_syn" "new_syn" (defArgs zs68) (defBody zs68) (defScope zs68) .none kV68 dc68 pm68 an68 cd68 ct68),sl68⟩) (c68:codeIn K cd68 "new_syn"=true) (k68:keepIn K (.ref f68)=true)
    (a69:nsIn K mainGlobals "has_more"=some (some (.ref f69))) (l69:K.lookup f69=some ⟨oc69,od69,.func (fnOf "has_more" "has_more" (defArgs zs69) (defBody zs69) (defScope zs69) .none kV69 dc69 pm69 an69 cd69 ct69),sl69⟩) (c69:codeIn K cd69 "has_more"=true) (k69:keepIn K (.ref f69)=true)
    (a70:nsIn K mainGlobals "has_new_data"=some (some (.ref f70))) (l70:K.lookup f70=some ⟨oc70,od70,.func (fnOf "has_new_data" "has_new_data" (defArgs zs70) (defBody zs70) (defScope zs70) .none kV70 dc70 pm70 an70 cd70 ct70),sl70⟩) (c70:codeIn K cd70 "has_new_data"=true) (k70:keepIn K (.ref f70)=true)
    (a71:nsIn K mainGlobals "unsent"=some (some (.ref f71))) (l71:K.lookup f71=some ⟨oc71,od71,.func (fnOf "unsent" "unsent" (defArgs zs71) (defBody zs71) (defScope zs71) .none kV71 dc71 pm71 an71 cd71 ct71),sl71⟩) (c71:codeIn K cd71 "unsent"=true) (k71:keepIn K (.ref f71)=true)
    (a72:nsIn K mainGlobals "has_new_fin"=some (some (.ref f72))) (l72:K.lookup f72=some ⟨oc72,od72,.func (fnOf "has_new_fin" "has_new_fin" (defArgs zs72) (defBody zs72) (defScope zs72) .none kV72 dc72 pm72 an72 cd72 ct72),sl72⟩) (c72:codeIn K cd72 "has_new_fin"=true) (k72:keepIn K (.ref f72)=true)
    (a73:nsIn K mainGlobals "new_piece"=some (some (.ref f73))) (l73:K.lookup f73=some ⟨oc73,od73,.func (fnOf "new_piece" "new_piece" (defArgs zs73) (defBody zs73) (defScope zs73) .none kV73 dc73 pm73 an73 cd73 ct73),sl73⟩) (c73:codeIn K cd73 "new_piece"=true) (k73:keepIn K (.ref f73)=true)
    (a74:nsIn K mainGlobals "new_data"=some (some (.ref f74))) (l74:K.lookup f74=some ⟨oc74,od74,.func (fnOf "new_data" "new_data" (defArgs zs74) (defBody zs74) (defScope zs74) .none kV74 dc74 pm74 an74 cd74 ct74),sl74⟩) (c74:codeIn K cd74 "new_data"=true) (k74:keepIn K (.ref f74)=true)
    (a75:nsIn K mainGlobals "new_fin"=some (some (.ref f75))) (l75:K.lookup f75=some ⟨oc75,od75,.func (fnOf "new_fin" "new_fin" (defArgs zs75) (defBody zs75) (defScope zs75) .none kV75 dc75 pm75 an75 cd75 ct75),sl75⟩) (c75:codeIn K cd75 "new_fin"=true) (k75:keepIn K (.ref f75)=true)
    (a76:nsIn K mainGlobals "going_as_probe"=some (some (.ref f76))) (l76:K.lookup f76=some ⟨oc76,od76,.func (fnOf "going_as_probe" "going_as_probe" (defArgs zs76) (defBody zs76) (defScope zs76) .none kV76 dc76 pm76 an76 cd76 ct76),sl76⟩) (c76:codeIn K cd76 "going_as_probe"=true) (k76:keepIn K (.ref f76)=true)
    (a77:nsIn K mainGlobals "going_as_answer"=some (some (.ref f77))) (l77:K.lookup f77=some ⟨oc77,od77,.func (fnOf "going_as_answer" "going_as_answer" (defArgs zs77) (defBody zs77) (defScope zs77) .none kV77 dc77 pm77 an77 cd77 ct77),sl77⟩) (c77:codeIn K cd77 "going_as_answer"=true) (k77:keepIn K (.ref f77)=true)
    (a78:nsIn K mainGlobals "_law_cell"=some (some (.ref f78))) (l78:K.lookup f78=some ⟨oc78,od78,.func (fnOf "_law_cell" "_law_cell" (defArgs zs78) (defBody zs78) (defScope zs78) .none kV78 dc78 pm78 an78 cd78 ct78),sl78⟩) (c78:codeIn K cd78 "_law_cell"=true) (k78:keepIn K (.ref f78)=true)
    (a79:nsIn K mainGlobals "_law_mix"=some (some (.ref f79))) (l79:K.lookup f79=some ⟨oc79,od79,.func (fnOf "_law_mix" "_law_mix" (defArgs zs79) (defBody zs79) (defScope zs79) .none kV79 dc79 pm79 an79 cd79 ct79),sl79⟩) (c79:codeIn K cd79 "_law_mix"=true) (k79:keepIn K (.ref f79)=true)
    (a80:nsIn K mainGlobals "_law_two"=some (some (.ref f80))) (l80:K.lookup f80=some ⟨oc80,od80,.func (fnOf "_law_two" "_law_two" (defArgs zs80) (defBody zs80) (defScope zs80) .none kV80 dc80 pm80 an80 cd80 ct80),sl80⟩) (c80:codeIn K cd80 "_law_two"=true) (k80:keepIn K (.ref f80)=true)
    (a81:nsIn K mainGlobals "_law_folded"=some (some (.ref f81))) (l81:K.lookup f81=some ⟨oc81,od81,.func (fnOf "_law_folded" "_law_folded" (defArgs zs81) (defBody zs81) (defScope zs81) .none kV81 dc81 pm81 an81 cd81 ct81),sl81⟩) (c81:codeIn K cd81 "_law_folded"=true) (k81:keepIn K (.ref f81)=true)
    (a82:nsIn K mainGlobals "_law_bytes"=some (some (.ref f82))) (l82:K.lookup f82=some ⟨oc82,od82,.func (fnOf "_law_bytes" "_law_bytes" (defArgs zs82) (defBody zs82) (defScope zs82) .none kV82 dc82 pm82 an82 cd82 ct82),sl82⟩) (c82:codeIn K cd82 "_law_bytes"=true) (k82:keepIn K (.ref f82)=true)
    (a83:nsIn K mainGlobals "_law_plus"=some (some (.ref f83))) (l83:K.lookup f83=some ⟨oc83,od83,.func (fnOf "_law_plus" "_law_plus" (defArgs zs83) (defBody zs83) (defScope zs83) .none kV83 dc83 pm83 an83 cd83 ct83),sl83⟩) (c83:codeIn K cd83 "_law_plus"=true) (k83:keepIn K (.ref f83)=true)
    (a84:nsIn K mainGlobals "_law_first"=some (some (.ref f84))) (l84:K.lookup f84=some ⟨oc84,od84,.func (fnOf "_law_first" "_law_first" (defArgs zs84) (defBody zs84) (defScope zs84) .none kV84 dc84 pm84 an84 cd84 ct84),sl84⟩) (c84:codeIn K cd84 "_law_first"=true) (k84:keepIn K (.ref f84)=true)
    (a85:nsIn K mainGlobals "_law_segment"=some (some (.ref f85))) (l85:K.lookup f85=some ⟨oc85,od85,.func (fnOf "_law_segment" "_law_segment" (defArgs zs85) (defBody zs85) (defScope zs85) .none kV85 dc85 pm85 an85 cd85 ct85),sl85⟩) (c85:codeIn K cd85 "_law_segment"=true) (k85:keepIn K (.ref f85)=true)
    (a86:nsIn K mainGlobals "law"=some (some (.ref f86))) (l86:K.lookup f86=some ⟨oc86,od86,.func (fnOf "law" "law" (defArgs zs86) (defBody zs86) (defScope zs86) .none kV86 dc86 pm86 an86 cd86 ct86),sl86⟩) (c86:codeIn K cd86 "law"=true) (k86:keepIn K (.ref f86)=true)
    (pg_End:plainGet K C_End Str.empty=true) (hd_End:hasDictIn K C_End=true) (po_End:plainOver K C_End=true) (sa_End:findIn K (.ref C_End) "__setattr__"=some (some (.builtin "object.__setattr__"))) (mk_End:makesIn K C_End=true) (kc_End:keepIn K (.ref C_End)=true)
    (pg_Pile:plainGet K C_Pile Str.empty=true) (hd_Pile:hasDictIn K C_Pile=true) (po_Pile:plainOver K C_Pile=true) (sa_Pile:findIn K (.ref C_Pile) "__setattr__"=some (some (.builtin "object.__setattr__"))) (mk_Pile:makesIn K C_Pile=true) (kc_Pile:keepIn K (.ref C_Pile)=true)
    (zA0:findIn K (.ref C_End) "behind"=some none)
    (zA1:findIn K (.ref C_End) "come"=some none)
    (zA2:findIn K (.ref C_End) "early"=some none)
    (zA3:findIn K (.ref C_End) "early_fin"=some none)
    (zA4:findIn K (.ref C_End) "error"=some none)
    (zA5:findIn K (.ref C_End) "first"=some none)
    (zA6:findIn K (.ref C_End) "has_closed"=some none)
    (zA7:findIn K (.ref C_End) "most"=some none)
    (zA8:findIn K (.ref C_End) "nxt"=some none)
    (zA9:findIn K (.ref C_End) "ours"=some none)
    (zA10:findIn K (.ref C_End) "owed_reset"=some none)
    (zA11:findIn K (.ref C_End) "owes_answer"=some none)
    (zA12:findIn K (.ref C_End) "owes_syn"=some none)
    (zA13:findIn K (.ref C_End) "probes"=some none)
    (zA14:findIn K (.ref C_End) "rcv"=some none)
    (zA15:findIn K (.ref C_End) "since"=some none)
    (zA16:findIn K (.ref C_End) "state"=some none)
    (zA17:findIn K (.ref C_End) "theirs"=some none)
    (zA18:findIn K (.ref C_End) "told"=some none)
    (zA19:findIn K (.ref C_End) "told_by"=some none)
    (zA20:findIn K (.ref C_End) "tries"=some none)
    (zA21:findIn K (.ref C_End) "una"=some none)
    (zA22:findIn K (.ref C_End) "wait"=some none)
    (zA23:findIn K (.ref C_End) "wnd"=some none)
    (zA24:findIn K (.ref C_End) "written"=some none)
    (zA25:findIn K (.ref C_Pile) "row"=some none)
    (zg0:nsIn K mainGlobals "ACK"=some (some (.int 16 zt0)))
    (zg1:nsIn K mainGlobals "ANSWER"=some (some (.int 3 zt1)))
    (zg2:nsIn K mainGlobals "CLOSED"=some (some (.str "closed" zt2)))
    (zg3:nsIn K mainGlobals "CLOSE_WAIT"=some (some (.str "close wait" zt3)))
    (zg4:nsIn K mainGlobals "CLOSING"=some (some (.str "closing" zt4)))
    (zg5:nsIn K mainGlobals "DATA"=some (some (.int 7 zt5)))
    (zg6:nsIn K mainGlobals "FIN"=some (some (.int 1 zt6)))
    (zg7:nsIn K mainGlobals "FIRST_WAIT"=some (some (.int 1000 zt7)))
    (zg8:nsIn K mainGlobals "FLAGS"=some (some (.int 4 zt8)))
    (zg9:nsIn K mainGlobals "GOAL"=some (some (.int 1 zt9)))
    (zg10:nsIn K mainGlobals "GREATEST_DATA"=some (some (.int 16 zt10)))
    (zg11:nsIn K mainGlobals "GREATEST_FLAGS"=some (some (.int 31 zt11)))
    (zg12:nsIn K mainGlobals "GREATEST_WORD"=some (some (.int 65535 zt12)))
    (zg13:nsIn K mainGlobals "HALF_ROUND"=some (some (.int 2147483648 zt13)))
    (zg14:nsIn K mainGlobals "LAST_ACK"=some (some (.str "last ack" zt14)))
    (zg15:nsIn K mainGlobals "LAST_WAIT"=some (some (.int 120000 zt15)))
    (zg16:nsIn K mainGlobals "LEAST_MOST"=some (some (.int 4 zt16)))
    (zg17:nsIn K mainGlobals "LISTEN"=some (some (.str "listen" zt17)))
    (zg18:nsIn K mainGlobals "LONGEST_WAIT"=some (some (.int 16000 zt18)))
    (zg19:nsIn K mainGlobals "LONG_HEAD"=some (some (.int 24 zt19)))
    (zg20:nsIn K mainGlobals "MOST"=some (some (.int 6 zt20)))
    (zg21:nsIn K mainGlobals "MOST_TRIES"=some (some (.int 6 zt21)))
    (zg22:nsIn K mainGlobals "MOST_UNTOLD"=some (some (.int 12 zt22)))
    (zg23:nsIn K mainGlobals "NO_ERROR"=some (some (.str "" zt23)))
    (zg24:nsIn K mainGlobals "NUMBER"=some (some (.int 2 zt24)))
    (zg25:nsIn K mainGlobals "OPEN"=some (some (.str "open" zt25)))
    (zg26:nsIn K mainGlobals "PSH"=some (some (.int 8 zt26)))
    (zg27:nsIn K mainGlobals "REFUSED"=some (some (.str "refused" zt27)))
    (zg28:nsIn K mainGlobals "RESET"=some (some (.str "reset" zt28)))
    (zg29:nsIn K mainGlobals "RIGHT_SUM"=some (some (.int 65535 zt29)))
    (zg30:nsIn K mainGlobals "ROOM"=some (some (.int 64 zt30)))
    (zg31:nsIn K mainGlobals "ROUND"=some (some (.int 4294967296 zt31)))
    (zg32:nsIn K mainGlobals "RST"=some (some (.int 4 zt32)))
    (zg33:nsIn K mainGlobals "SHORT_HEAD"=some (some (.int 20 zt33)))
    (zg34:nsIn K mainGlobals "SOURCE"=some (some (.int 0 zt34)))
    (zg35:nsIn K mainGlobals "SYN"=some (some (.int 2 zt35)))
    (zg36:nsIn K mainGlobals "SYN_COME"=some (some (.str "syn come" zt36)))
    (zg37:nsIn K mainGlobals "SYN_SENT"=some (some (.str "syn sent" zt37)))
    (zg38:nsIn K mainGlobals "TIME"=some (some (.str "time" zt38)))
    (zg39:nsIn K mainGlobals "TIME_WAIT"=some (some (.str "time wait" zt39)))
    (zg40:nsIn K mainGlobals "WAIT_ONE"=some (some (.str "wait one" zt40)))
    (zg41:nsIn K mainGlobals "WAIT_TWO"=some (some (.str "wait two" zt41)))
    (zg42:nsIn K mainGlobals "WINDOW"=some (some (.int 5 zt42)))
    (zg43:nsIn K mainGlobals "WORDS"=some (some (.int 65536 zt43)))
    (z_enumerate:nsIn K mainGlobals "enumerate"=some none)
    (z_int:nsIn K mainGlobals "int"=some none)
    (z_len:nsIn K mainGlobals "len"=some none)
    (z_list:nsIn K mainGlobals "list"=some none)
    (z_max:nsIn K mainGlobals "max"=some none)
    (z_min:nsIn K mainGlobals "min"=some none)
    (z_range:nsIn K mainGlobals "range"=some none)
    (z_sum:nsIn K mainGlobals "sum"=some none)
    (z_tuple:nsIn K mainGlobals "tuple"=some none) :
    ∃fd:FuncData,(∀(s:Shared) (v:Value),BindsTo s fd ⟨[v],[]⟩ [("_law_script",v)])∧∀base:Heap,K.In base→base.Ns mainGlobals mg→FnOk l.prog w K mg base CX0 9 fa fd ["_law_script"] (spLaw K):=by
  have e:=hfa.symm.trans (mg_of X G a86)
  cases e
  have eC_End:C_End=clOf mg "End":=(clOf_eq (mg_of X G aC_End)).symm
  have eC_Pile:C_Pile=clOf mg "Pile":=(clOf_eq (mg_of X G aC_Pile)).symm
  subst eC_End
  subst eC_Pile
  have g:Glb K mg:=⟨⟨_,mg_of X G zg0⟩,⟨_,mg_of X G zg1⟩,⟨_,mg_of X G zg2⟩,⟨_,mg_of X G zg3⟩,⟨_,mg_of X G zg4⟩,⟨_,mg_of X G zg5⟩,⟨_,mg_of X G zg6⟩,⟨_,mg_of X G zg7⟩,⟨_,mg_of X G zg8⟩,⟨_,mg_of X G zg9⟩,⟨_,mg_of X G zg10⟩,⟨_,mg_of X G zg11⟩,⟨_,mg_of X G zg12⟩,⟨_,mg_of X G zg13⟩,⟨_,mg_of X G zg14⟩,⟨_,mg_of X G zg15⟩,⟨_,mg_of X G zg16⟩,⟨_,mg_of X G zg17⟩,⟨_,mg_of X G zg18⟩,⟨_,mg_of X G zg19⟩,⟨_,mg_of X G zg20⟩,⟨_,mg_of X G zg21⟩,⟨_,mg_of X G zg22⟩,⟨_,mg_of X G zg23⟩,⟨_,mg_of X G zg24⟩,⟨_,mg_of X G zg25⟩,⟨_,mg_of X G zg26⟩,⟨_,mg_of X G zg27⟩,⟨_,mg_of X G zg28⟩,⟨_,mg_of X G zg29⟩,⟨_,mg_of X G zg30⟩,⟨_,mg_of X G zg31⟩,⟨_,mg_of X G zg32⟩,⟨_,mg_of X G zg33⟩,⟨_,mg_of X G zg34⟩,⟨_,mg_of X G zg35⟩,⟨_,mg_of X G zg36⟩,⟨_,mg_of X G zg37⟩,⟨_,mg_of X G zg38⟩,⟨_,mg_of X G zg39⟩,⟨_,mg_of X G zg40⟩,⟨_,mg_of X G zg41⟩,⟨_,mg_of X G zg42⟩,⟨_,mg_of X G zg43⟩,mg_none_of X G z_enumerate,mg_none_of X G z_int,mg_none_of X G z_len,mg_none_of X G z_list,mg_none_of X G z_max,mg_none_of X G z_min,mg_none_of X G z_range,mg_none_of X G z_sum,mg_none_of X G z_tuple,⟨pg_End,hd_End,po_End,sa_End⟩,⟨pg_Pile,hd_Pile,po_Pile,sa_Pile⟩,zA0,zA1,zA2,zA3,zA4,zA5,zA6,zA7,zA8,zA9,zA10,zA11,zA12,zA13,zA14,zA15,zA16,zA17,zA18,zA19,zA20,zA21,zA22,zA23,zA24,zA25⟩
  have F0:=fun_mk (st:=zs0) l0 c0 k0
  have b0:=F0.binds (ps:=zP0) fun _ _ _ _ _ _ us hl=>match us,hl with | [_],_=>rfl
  have D0:Mk0 K mg "Pile" "Pile.__init__" zs0 zP0:=⟨_,_,F0,b0,⟨mk_Pile,a0,i0,kc_Pile⟩,mg_of X G aC_Pile⟩
  have F1:=fun_mk (st:=zs1) l1 c1 k1
  have b1:=F1.binds (ps:=zP1) fun _ _ _ _ _ _ us hl=>match us,hl with | [_],_=>rfl
  have D1:Def0 K mg "room" zs1 zP1:=⟨_,_,F1,b1,mg_of X G a1⟩
  have F2:=fun_mk (st:=zs2) l2 c2 k2
  have b2:=F2.binds (ps:=zP2) fun _ _ _ _ _ _ us hl=>match us,hl with | [_,_],_=>rfl
  have D2:Def0 K mg "lay" zs2 zP2:=⟨_,_,F2,b2,mg_of X G a2⟩
  have F3:=fun_mk (st:=zs3) l3 c3 k3
  have b3:=F3.binds (ps:=zP3) fun _ _ _ _ _ _ us hl=>match us,hl with | [_,_],_=>rfl
  have D3:Def0 K mg "take" zs3 zP3:=⟨_,_,F3,b3,mg_of X G a3⟩
  have F4:=fun_mk (st:=zs4) l4 c4 k4
  have b4:=F4.binds (ps:=zP4) fun _ _ _ _ _ _ us hl=>match us,hl with | [_,_],_=>rfl
  have D4:Def0 K mg "plus" zs4 zP4:=⟨_,_,F4,b4,mg_of X G a4⟩
  have F5:=fun_mk (st:=zs5) l5 c5 k5
  have b5:=F5.binds (ps:=zP5) fun _ _ _ _ _ _ us hl=>match us,hl with | [_,_],_=>rfl
  have D5:Def0 K mg "offset" zs5 zP5:=⟨_,_,F5,b5,mg_of X G a5⟩
  have F6:=fun_mk (st:=zs6) l6 c6 k6
  have b6:=F6.binds (ps:=zP6) fun _ _ _ _ _ _ us hl=>match us,hl with | [_,_],_=>rfl
  have D6:Def0 K mg "past" zs6 zP6:=⟨_,_,F6,b6,mg_of X G a6⟩
  have F7:=fun_mk (st:=zs7) l7 c7 k7
  have b7:=F7.binds (ps:=zP7) fun _ _ _ _ _ _ us hl=>match us,hl with | [_,_,_,_,_],_=>rfl
  have D7:Mk0 K mg "End" "End.__init__" zs7 zP7:=⟨_,_,F7,b7,⟨mk_End,a7,i7,kc_End⟩,mg_of X G aC_End⟩
  have F8:=fun_mk (st:=zs8) l8 c8 k8
  have b8:=F8.binds (ps:=zP8) fun _ _ _ _ _ _ us hl=>match us,hl with | [_,_],_=>rfl
  have D8:Def0 K mg "start_timer" zs8 zP8:=⟨_,_,F8,b8,mg_of X G a8⟩
  have F9:=fun_mk (st:=zs9) l9 c9 k9
  have b9:=F9.binds (ps:=zP9) fun _ _ _ _ _ _ us hl=>match us,hl with | [_],_=>rfl
  have D9:Def0 K mg "state" zs9 zP9:=⟨_,_,F9,b9,mg_of X G a9⟩
  have F10:=fun_mk (st:=zs10) l10 c10 k10
  have b10:=F10.binds (ps:=zP10) fun _ _ _ _ _ _ us hl=>match us,hl with | [_],_=>rfl
  have D10:Def0 K mg "our_window" zs10 zP10:=⟨_,_,F10,b10,mg_of X G a10⟩
  have F11:=fun_mk (st:=zs11) l11 c11 k11
  have b11:=F11.binds (ps:=zP11) fun _ _ _ _ _ _ us hl=>match us,hl with | [_],_=>rfl
  have D11:Def0 K mg "has_sent_fin" zs11 zP11:=⟨_,_,F11,b11,mg_of X G a11⟩
  have F12:=fun_mk (st:=zs12) l12 c12 k12
  have b12:=F12.binds (ps:=zP12) fun _ _ _ _ _ _ us hl=>match us,hl with | [_],_=>rfl
  have D12:Def0 K mg "folded" zs12 zP12:=⟨_,_,F12,b12,mg_of X G a12⟩
  have F13:=fun_mk (st:=zs13) l13 c13 k13
  have b13:=F13.binds (ps:=zP13) fun _ _ _ _ _ _ us hl=>match us,hl with | [_],_=>rfl
  have D13:Def0 K mg "sum_of" zs13 zP13:=⟨_,_,F13,b13,mg_of X G a13⟩
  have F14:=fun_mk (st:=zs14) l14 c14 k14
  have b14:=F14.binds (ps:=zP14) fun _ _ _ _ _ _ us hl=>match us,hl with | [_],_=>rfl
  have D14:Def0 K mg "length" zs14 zP14:=⟨_,_,F14,b14,mg_of X G a14⟩
  have F15:=fun_mk (st:=zs15) l15 c15 k15
  have b15:=F15.binds (ps:=zP15) fun _ _ _ _ _ _ us hl=>match us,hl with | [_,_],_=>rfl
  have D15:Def0 K mg "has" zs15 zP15:=⟨_,_,F15,b15,mg_of X G a15⟩
  have F16:=fun_mk (st:=zs16) l16 c16 k16
  have b16:=F16.binds (ps:=zP16) fun _ _ _ _ _ _ us hl=>match us,hl with | [_,_],_=>rfl
  have D16:Def0 K mg "bears" zs16 zP16:=⟨_,_,F16,b16,mg_of X G a16⟩
  have F17:=fun_mk (st:=zs17) l17 c17 k17
  have b17:=F17.binds (ps:=zP17) fun _ _ _ _ _ _ us hl=>match us,hl with | [_],_=>rfl
  have D17:Def0 K mg "put" zs17 zP17:=⟨_,_,F17,b17,mg_of X G a17⟩
  have F18:=fun_mk (st:=zs18) l18 c18 k18
  have b18:=F18.binds (ps:=zP18) fun _ _ _ _ _ _ us hl=>match us,hl with | [_],_=>rfl
  have D18:Def0 K mg "bytes_ahead_of_sum" zs18 zP18:=⟨_,_,F18,b18,mg_of X G a18⟩
  have F19:=fun_mk (st:=zs19) l19 c19 k19
  have b19:=F19.binds (ps:=zP19) fun _ _ _ _ _ _ us hl=>match us,hl with | [_],_=>rfl
  have D19:Def0 K mg "byte_of_head" zs19 zP19:=⟨_,_,F19,b19,mg_of X G a19⟩
  have F20:=fun_mk (st:=zs20) l20 c20 k20
  have b20:=F20.binds (ps:=zP20) fun _ _ _ _ _ _ us hl=>match us,hl with | [_],_=>rfl
  have D20:Def0 K mg "bytes_of_most" zs20 zP20:=⟨_,_,F20,b20,mg_of X G a20⟩
  have F21:=fun_mk (st:=zs21) l21 c21 k21
  have b21:=F21.binds (ps:=zP21) fun _ _ _ _ _ _ us hl=>match us,hl with | [_],_=>rfl
  have D21:Def0 K mg "two_bytes" zs21 zP21:=⟨_,_,F21,b21,mg_of X G a21⟩
  have F22:=fun_mk (st:=zs22) l22 c22 k22
  have b22:=F22.binds (ps:=zP22) fun _ _ _ _ _ _ us hl=>match us,hl with | [_],_=>rfl
  have D22:Def0 K mg "four_bytes" zs22 zP22:=⟨_,_,F22,b22,mg_of X G a22⟩
  have F23:=fun_mk (st:=zs23) l23 c23 k23
  have b23:=F23.binds (ps:=zP23) fun _ _ _ _ _ _ us hl=>match us,hl with | [_],_=>rfl
  have D23:Def0 K mg "is_right" zs23 zP23:=⟨_,_,F23,b23,mg_of X G a23⟩
  have F24:=fun_mk (st:=zs24) l24 c24 k24
  have b24:=F24.binds (ps:=zP24) fun _ _ _ _ _ _ us hl=>match us,hl with | [_],_=>rfl
  have D24:Def0 K mg "head_of" zs24 zP24:=⟨_,_,F24,b24,mg_of X G a24⟩
  have F25:=fun_mk (st:=zs25) l25 c25 k25
  have b25:=F25.binds (ps:=zP25) fun _ _ _ _ _ _ us hl=>match us,hl with | [_],_=>rfl
  have D25:Def0 K mg "is_right_long_head" zs25 zP25:=⟨_,_,F25,b25,mg_of X G a25⟩
  have F26:=fun_mk (st:=zs26) l26 c26 k26
  have b26:=F26.binds (ps:=zP26) fun _ _ _ _ _ _ us hl=>match us,hl with | [_],_=>rfl
  have D26:Def0 K mg "get" zs26 zP26:=⟨_,_,F26,b26,mg_of X G a26⟩
  have F27:=fun_mk (st:=zs27) l27 c27 k27
  have b27:=F27.binds (ps:=zP27) fun _ _ _ _ _ _ us hl=>match us,hl with | [_,_],_=>rfl
  have D27:Def0 K mg "two_at" zs27 zP27:=⟨_,_,F27,b27,mg_of X G a27⟩
  have F28:=fun_mk (st:=zs28) l28 c28 k28
  have b28:=F28.binds (ps:=zP28) fun _ _ _ _ _ _ us hl=>match us,hl with | [_,_],_=>rfl
  have D28:Def0 K mg "four_at" zs28 zP28:=⟨_,_,F28,b28,mg_of X G a28⟩
  have F29:=fun_mk (st:=zs29) l29 c29 k29
  have b29:=F29.binds (ps:=zP29) fun _ _ _ _ _ _ us hl=>match us,hl with | [_],_=>rfl
  have D29:Def0 K mg "reset_for" zs29 zP29:=⟨_,_,F29,b29,mg_of X G a29⟩
  have F30:=fun_mk (st:=zs30) l30 c30 k30
  have b30:=F30.binds (ps:=zP30) fun _ _ _ _ _ _ us hl=>match us,hl with | [_,_],_=>rfl
  have D30:Def0 K mg "owe_reset_for" zs30 zP30:=⟨_,_,F30,b30,mg_of X G a30⟩
  have F31:=fun_mk (st:=zs31) l31 c31 k31
  have b31:=F31.binds (ps:=zP31) fun _ _ _ _ _ _ us hl=>match us,hl with | [_,_],_=>rfl
  have D31:Def0 K mg "come_to_closed" zs31 zP31:=⟨_,_,F31,b31,mg_of X G a31⟩
  have F32:=fun_mk (st:=zs32) l32 c32 k32
  have b32:=F32.binds (ps:=zP32) fun _ _ _ _ _ _ us hl=>match us,hl with | [_,_],_=>rfl
  have D32:Def0 K mg "come_to_listen" zs32 zP32:=⟨_,_,F32,b32,mg_of X G a32⟩
  have F33:=fun_mk (st:=zs33) l33 c33 k33
  have b33:=F33.binds (ps:=zP33) fun _ _ _ _ _ _ us hl=>match us,hl with | [_,_],_=>rfl
  have D33:Def0 K mg "hear_syn" zs33 zP33:=⟨_,_,F33,b33,mg_of X G a33⟩
  have F34:=fun_mk (st:=zs34) l34 c34 k34
  have b34:=F34.binds (ps:=zP34) fun _ _ _ _ _ _ us hl=>match us,hl with | [_,_,_],_=>rfl
  have D34:Def0 K mg "come_to_syn_sent" zs34 zP34:=⟨_,_,F34,b34,mg_of X G a34⟩
  have F35:=fun_mk (st:=zs35) l35 c35 k35
  have b35:=F35.binds (ps:=zP35) fun _ _ _ _ _ _ us hl=>match us,hl with | [_,_],_=>rfl
  have D35:Def0 K mg "answers_syn" zs35 zP35:=⟨_,_,F35,b35,mg_of X G a35⟩
  have F36:=fun_mk (st:=zs36) l36 c36 k36
  have b36:=F36.binds (ps:=zP36) fun _ _ _ _ _ _ us hl=>match us,hl with | [_,_],_=>rfl
  have D36:Def0 K mg "refuse" zs36 zP36:=⟨_,_,F36,b36,mg_of X G a36⟩
  have F37:=fun_mk (st:=zs37) l37 c37 k37
  have b37:=F37.binds (ps:=zP37) fun _ _ _ _ _ _ us hl=>match us,hl with | [_,_,_],_=>rfl
  have D37:Def0 K mg "go_on_from_syn_sent" zs37 zP37:=⟨_,_,F37,b37,mg_of X G a37⟩
  have F38:=fun_mk (st:=zs38) l38 c38 k38
  have b38:=F38.binds (ps:=zP38) fun _ _ _ _ _ _ us hl=>match us,hl with | [_,_,_],_=>rfl
  have D38:Def0 K mg "arrive" zs38 zP38:=⟨_,_,F38,b38,mg_of X G a38⟩
  have F39:=fun_mk (st:=zs39) l39 c39 k39
  have b39:=F39.binds (ps:=zP39) fun _ _ _ _ _ _ us hl=>match us,hl with | [_,_],_=>rfl
  have D39:Def0 K mg "is_for" zs39 zP39:=⟨_,_,F39,b39,mg_of X G a39⟩
  have F40:=fun_mk (st:=zs40) l40 c40 k40
  have b40:=F40.binds (ps:=zP40) fun _ _ _ _ _ _ us hl=>match us,hl with | [_,_,_],_=>rfl
  have D40:Def0 K mg "come_to_stream" zs40 zP40:=⟨_,_,F40,b40,mg_of X G a40⟩
  have F41:=fun_mk (st:=zs41) l41 c41 k41
  have b41:=F41.binds (ps:=zP41) fun _ _ _ _ _ _ us hl=>match us,hl with | [_,_],_=>rfl
  have D41:Def0 K mg "fits" zs41 zP41:=⟨_,_,F41,b41,mg_of X G a41⟩
  have F42:=fun_mk (st:=zs42) l42 c42 k42
  have b42:=F42.binds (ps:=zP42) fun _ _ _ _ _ _ us hl=>match us,hl with | [_,_],_=>rfl
  have D42:Def0 K mg "is_in_window" zs42 zP42:=⟨_,_,F42,b42,mg_of X G a42⟩
  have F43:=fun_mk (st:=zs43) l43 c43 k43
  have b43:=F43.binds (ps:=zP43) fun _ _ _ _ _ _ us hl=>match us,hl with | [_,_,_],_=>rfl
  have D43:Def0 K mg "turn_away" zs43 zP43:=⟨_,_,F43,b43,mg_of X G a43⟩
  have F44:=fun_mk (st:=zs44) l44 c44 k44
  have b44:=F44.binds (ps:=zP44) fun _ _ _ _ _ _ us hl=>match us,hl with | [_,_],_=>rfl
  have D44:Def0 K mg "hear_reset" zs44 zP44:=⟨_,_,F44,b44,mg_of X G a44⟩
  have F45:=fun_mk (st:=zs45) l45 c45 k45
  have b45:=F45.binds (ps:=zP45) fun _ _ _ _ _ _ us hl=>match us,hl with | [_,_,_],_=>rfl
  have D45:Def0 K mg "goes_on_behind_answer" zs45 zP45:=⟨_,_,F45,b45,mg_of X G a45⟩
  have F46:=fun_mk (st:=zs46) l46 c46 k46
  have b46:=F46.binds (ps:=zP46) fun _ _ _ _ _ _ us hl=>match us,hl with | [_,_],_=>rfl
  have D46:Def0 K mg "has_answered_syn" zs46 zP46:=⟨_,_,F46,b46,mg_of X G a46⟩
  have F47:=fun_mk (st:=zs47) l47 c47 k47
  have b47:=F47.binds (ps:=zP47) fun _ _ _ _ _ _ us hl=>match us,hl with | [_,_],_=>rfl
  have D47:Def0 K mg "take_window" zs47 zP47:=⟨_,_,F47,b47,mg_of X G a47⟩
  have F48:=fun_mk (st:=zs48) l48 c48 k48
  have b48:=F48.binds (ps:=zP48) fun _ _ _ _ _ _ us hl=>match us,hl with | [_,_,_],_=>rfl
  have D48:Def0 K mg "hear_answer" zs48 zP48:=⟨_,_,F48,b48,mg_of X G a48⟩
  have F49:=fun_mk (st:=zs49) l49 c49 k49
  have b49:=F49.binds (ps:=zP49) fun _ _ _ _ _ _ us hl=>match us,hl with | [_,_],_=>rfl
  have D49:Def0 K mg "is_newer" zs49 zP49:=⟨_,_,F49,b49,mg_of X G a49⟩
  have F50:=fun_mk (st:=zs50) l50 c50 k50
  have b50:=F50.binds (ps:=zP50) fun _ _ _ _ _ _ us hl=>match us,hl with | [_,_],_=>rfl
  have D50:Def0 K mg "end_what_is_acknowledged" zs50 zP50:=⟨_,_,F50,b50,mg_of X G a50⟩
  have F51:=fun_mk (st:=zs51) l51 c51 k51
  have b51:=F51.binds (ps:=zP51) fun _ _ _ _ _ _ us hl=>match us,hl with | [_,_,_],_=>rfl
  have D51:Def0 K mg "hear_stream" zs51 zP51:=⟨_,_,F51,b51,mg_of X G a51⟩
  have F52:=fun_mk (st:=zs52) l52 c52 k52
  have b52:=F52.binds (ps:=zP52) fun _ _ _ _ _ _ us hl=>match us,hl with | [_,_],_=>rfl
  have D52:Def0 K mg "keep_data" zs52 zP52:=⟨_,_,F52,b52,mg_of X G a52⟩
  have F53:=fun_mk (st:=zs53) l53 c53 k53
  have b53:=F53.binds (ps:=zP53) fun _ _ _ _ _ _ us hl=>match us,hl with | [_,_],_=>rfl
  have D53:Def0 K mg "keep_fin" zs53 zP53:=⟨_,_,F53,b53,mg_of X G a53⟩
  have F54:=fun_mk (st:=zs54) l54 c54 k54
  have b54:=F54.binds (ps:=zP54) fun _ _ _ _ _ _ us hl=>match us,hl with | [_],_=>rfl
  have D54:Def0 K mg "draw_in_order" zs54 zP54:=⟨_,_,F54,b54,mg_of X G a54⟩
  have F55:=fun_mk (st:=zs55) l55 c55 k55
  have b55:=F55.binds (ps:=zP55) fun _ _ _ _ _ _ us hl=>match us,hl with | [_,_],_=>rfl
  have D55:Def0 K mg "hear_fin" zs55 zP55:=⟨_,_,F55,b55,mg_of X G a55⟩
  have F56:=fun_mk (st:=zs56) l56 c56 k56
  have b56:=F56.binds (ps:=zP56) fun _ _ _ _ _ _ us hl=>match us,hl with | [_,_,_,_],_=>rfl
  have D56:Def0 K mg "opened" zs56 zP56:=⟨_,_,F56,b56,mg_of X G a56⟩
  have F57:=fun_mk (st:=zs57) l57 c57 k57
  have b57:=F57.binds (ps:=zP57) fun _ _ _ _ _ _ us hl=>match us,hl with | [_,_],_=>rfl
  have D57:Def0 K mg "write" zs57 zP57:=⟨_,_,F57,b57,mg_of X G a57⟩
  have F58:=fun_mk (st:=zs58) l58 c58 k58
  have b58:=F58.binds (ps:=zP58) fun _ _ _ _ _ _ us hl=>match us,hl with | [_,_],_=>rfl
  have D58:Def0 K mg "read" zs58 zP58:=⟨_,_,F58,b58,mg_of X G a58⟩
  have F59:=fun_mk (st:=zs59) l59 c59 k59
  have b59:=F59.binds (ps:=zP59) fun _ _ _ _ _ _ us hl=>match us,hl with | [_,_],_=>rfl
  have D59:Def0 K mg "send" zs59 zP59:=⟨_,_,F59,b59,mg_of X G a59⟩
  have F60:=fun_mk (st:=zs60) l60 c60 k60
  have b60:=F60.binds (ps:=zP60) fun _ _ _ _ _ _ us hl=>match us,hl with | [_,_],_=>rfl
  have D60:Def0 K mg "going" zs60 zP60:=⟨_,_,F60,b60,mg_of X G a60⟩
  have F61:=fun_mk (st:=zs61) l61 c61 k61
  have b61:=F61.binds (ps:=zP61) fun _ _ _ _ _ _ us hl=>match us,hl with | [_],_=>rfl
  have D61:Def0 K mg "paid_reset" zs61 zP61:=⟨_,_,F61,b61,mg_of X G a61⟩
  have F62:=fun_mk (st:=zs62) l62 c62 k62
  have b62:=F62.binds (ps:=zP62) fun _ _ _ _ _ _ us hl=>match us,hl with | [_,_],_=>rfl
  have D62:Def0 K mg "is_due" zs62 zP62:=⟨_,_,F62,b62,mg_of X G a62⟩
  have F63:=fun_mk (st:=zs63) l63 c63 k63
  have b63:=F63.binds (ps:=zP63) fun _ _ _ _ _ _ us hl=>match us,hl with | [_,_],_=>rfl
  have D63:Def0 K mg "again" zs63 zP63:=⟨_,_,F63,b63,mg_of X G a63⟩
  have F64:=fun_mk (st:=zs64) l64 c64 k64
  have b64:=F64.binds (ps:=zP64) fun _ _ _ _ _ _ us hl=>match us,hl with | [_],_=>rfl
  have D64:Def0 K mg "most_at_once" zs64 zP64:=⟨_,_,F64,b64,mg_of X G a64⟩
  have F65:=fun_mk (st:=zs65) l65 c65 k65
  have b65:=F65.binds (ps:=zP65) fun _ _ _ _ _ _ us hl=>match us,hl with | [_],_=>rfl
  have D65:Def0 K mg "paid_syn" zs65 zP65:=⟨_,_,F65,b65,mg_of X G a65⟩
  have F66:=fun_mk (st:=zs66) l66 c66 k66
  have b66:=F66.binds (ps:=zP66) fun _ _ _ _ _ _ us hl=>match us,hl with | [_,_,_,_],_=>rfl
  have D66:Def0 K mg "segment_of" zs66 zP66:=⟨_,_,F66,b66,mg_of X G a66⟩
  have F67:=fun_mk (st:=zs67) l67 c67 k67
  have b67:=F67.binds (ps:=zP67) fun _ _ _ _ _ _ us hl=>match us,hl with | [_,_],_=>rfl
  have D67:Def0 K mg "going_as_new" zs67 zP67:=⟨_,_,F67,b67,mg_of X G a67⟩
  have F68:=fun_mk (st:=zs68) l68 c68 k68
  have b68:=F68.binds (ps:=zP68) fun _ _ _ _ _ _ us hl=>match us,hl with | [_,_],_=>rfl
  have D68:Def0 K mg "new_syn" zs68 zP68:=⟨_,_,F68,b68,mg_of X G a68⟩
  have F69:=fun_mk (st:=zs69) l69 c69 k69
  have b69:=F69.binds (ps:=zP69) fun _ _ _ _ _ _ us hl=>match us,hl with | [_],_=>rfl
  have D69:Def0 K mg "has_more" zs69 zP69:=⟨_,_,F69,b69,mg_of X G a69⟩
  have F70:=fun_mk (st:=zs70) l70 c70 k70
  have b70:=F70.binds (ps:=zP70) fun _ _ _ _ _ _ us hl=>match us,hl with | [_],_=>rfl
  have D70:Def0 K mg "has_new_data" zs70 zP70:=⟨_,_,F70,b70,mg_of X G a70⟩
  have F71:=fun_mk (st:=zs71) l71 c71 k71
  have b71:=F71.binds (ps:=zP71) fun _ _ _ _ _ _ us hl=>match us,hl with | [_],_=>rfl
  have D71:Def0 K mg "unsent" zs71 zP71:=⟨_,_,F71,b71,mg_of X G a71⟩
  have F72:=fun_mk (st:=zs72) l72 c72 k72
  have b72:=F72.binds (ps:=zP72) fun _ _ _ _ _ _ us hl=>match us,hl with | [_],_=>rfl
  have D72:Def0 K mg "has_new_fin" zs72 zP72:=⟨_,_,F72,b72,mg_of X G a72⟩
  have F73:=fun_mk (st:=zs73) l73 c73 k73
  have b73:=F73.binds (ps:=zP73) fun _ _ _ _ _ _ us hl=>match us,hl with | [_,_],_=>rfl
  have D73:Def0 K mg "new_piece" zs73 zP73:=⟨_,_,F73,b73,mg_of X G a73⟩
  have F74:=fun_mk (st:=zs74) l74 c74 k74
  have b74:=F74.binds (ps:=zP74) fun _ _ _ _ _ _ us hl=>match us,hl with | [_,_],_=>rfl
  have D74:Def0 K mg "new_data" zs74 zP74:=⟨_,_,F74,b74,mg_of X G a74⟩
  have F75:=fun_mk (st:=zs75) l75 c75 k75
  have b75:=F75.binds (ps:=zP75) fun _ _ _ _ _ _ us hl=>match us,hl with | [_],_=>rfl
  have D75:Def0 K mg "new_fin" zs75 zP75:=⟨_,_,F75,b75,mg_of X G a75⟩
  have F76:=fun_mk (st:=zs76) l76 c76 k76
  have b76:=F76.binds (ps:=zP76) fun _ _ _ _ _ _ us hl=>match us,hl with | [_,_],_=>rfl
  have D76:Def0 K mg "going_as_probe" zs76 zP76:=⟨_,_,F76,b76,mg_of X G a76⟩
  have F77:=fun_mk (st:=zs77) l77 c77 k77
  have b77:=F77.binds (ps:=zP77) fun _ _ _ _ _ _ us hl=>match us,hl with | [_],_=>rfl
  have D77:Def0 K mg "going_as_answer" zs77 zP77:=⟨_,_,F77,b77,mg_of X G a77⟩
  have F78:=fun_mk (st:=zs78) l78 c78 k78
  have b78:=F78.binds (ps:=zP78) fun _ _ _ _ _ _ us hl=>match us,hl with | [_,_],_=>rfl
  have D78:Def0 K mg "_law_cell" zs78 zP78:=⟨_,_,F78,b78,mg_of X G a78⟩
  have F79:=fun_mk (st:=zs79) l79 c79 k79
  have b79:=F79.binds (ps:=zP79) fun _ _ _ _ _ _ us hl=>match us,hl with | [_,_],_=>rfl
  have D79:Def0 K mg "_law_mix" zs79 zP79:=⟨_,_,F79,b79,mg_of X G a79⟩
  have F80:=fun_mk (st:=zs80) l80 c80 k80
  have b80:=F80.binds (ps:=zP80) fun _ _ _ _ _ _ us hl=>match us,hl with | [_],_=>rfl
  have D80:Def0 K mg "_law_two" zs80 zP80:=⟨_,_,F80,b80,mg_of X G a80⟩
  have F81:=fun_mk (st:=zs81) l81 c81 k81
  have b81:=F81.binds (ps:=zP81) fun _ _ _ _ _ _ us hl=>match us,hl with | [_],_=>rfl
  have D81:Def0 K mg "_law_folded" zs81 zP81:=⟨_,_,F81,b81,mg_of X G a81⟩
  have F82:=fun_mk (st:=zs82) l82 c82 k82
  have b82:=F82.binds (ps:=zP82) fun _ _ _ _ _ _ us hl=>match us,hl with | [_],_=>rfl
  have D82:Def0 K mg "_law_bytes" zs82 zP82:=⟨_,_,F82,b82,mg_of X G a82⟩
  have F83:=fun_mk (st:=zs83) l83 c83 k83
  have b83:=F83.binds (ps:=zP83) fun _ _ _ _ _ _ us hl=>match us,hl with | [_,_],_=>rfl
  have D83:Def0 K mg "_law_plus" zs83 zP83:=⟨_,_,F83,b83,mg_of X G a83⟩
  have F84:=fun_mk (st:=zs84) l84 c84 k84
  have b84:=F84.binds (ps:=zP84) fun _ _ _ _ _ _ us hl=>match us,hl with | [_],_=>rfl
  have D84:Def0 K mg "_law_first" zs84 zP84:=⟨_,_,F84,b84,mg_of X G a84⟩
  have F85:=fun_mk (st:=zs85) l85 c85 k85
  have b85:=F85.binds (ps:=zP85) fun _ _ _ _ _ _ us hl=>match us,hl with | [_,_,_,_,_,_],_=>rfl
  have D85:Def0 K mg "_law_segment" zs85 zP85:=⟨_,_,F85,b85,mg_of X G a85⟩
  have F86:=fun_mk (st:=zs86) l86 c86 k86
  have b86:=F86.binds (ps:=zP86) fun _ _ _ _ _ _ us hl=>match us,hl with | [_],_=>rfl
  have D86:Def0 K mg "law" zs86 zP86:=⟨_,_,F86,b86,mg_of X G a86⟩
  refine ⟨fnOf "law" "law" (defArgs zs86) (defBody zs86) (defScope zs86) .none kV86 dc86 pm86 an86 cd86 ct86,fun s v=>.of_eq rfl,fun base _ _=>?_⟩
  exact law_imp law_true (ok_all F86 D0 D1 D2 D3 D4 D5 D6 D7 D8 D9 D10 D11 D12 D13 D14 D15 D16 D17 D18 D19 D20 D21 D22 D23 D24 D25 D26 D27 D28 D29 D30 D31 D32 D33 D34 D35 D36 D37 D38 D39 D40 D41 D42 D43 D44 D45 D46 D47 D48 D49 D50 D51 D52 D53 D54 D55 D56 D57 D58 D59 D60 D61 D62 D63 D64 D65 D66 D67 D68 D69 D70 D71 D72 D73 D74 D75 D76 D77 D78 D79 D80 D81 D82 D83 D84 D85 g)
theorem walk {l:OpenLaw} {q:Program} {loose:List Str} {XP:(Str→Option Value)→Heap→Prop} {YP:World→Heap→Prop} {d:DefRec} {K:Params→Frag} (hn:l.most=some 63) (hdf:d.params.defaults=[])
    (hY:∀(w:World) (h:Heap),YP w h→(K w.params).In h)
    (F:∀(w:World) (mg:Str→Option Value) (fa:Addr) (h:Heap),(K w.params).In h→h.Ns mainGlobals mg→mg d.name=some (.ref fa)→
      ∃fd:FuncData,(∀(s:Shared) (u:Value),BindsTo s fd ⟨[u],[]⟩ [("_law_script",u)])∧∀base:Heap,(K w.params).In base→base.Ns mainGlobals mg→FnOk l.prog w (K w.params) mg base CX0 9 fa fd ["_law_script"] (spLaw (K w.params))) :
    WalkO q loose XP YP l.row.toRowW d [] (fun f vs=>PySem.call f vs):=
  L2.walk_of (n:=63) (k:=9) (x:="_law_script") (CX:=fun _=>CX0) (sp:=fun w=>spLaw (K w.params)) hn (by decide) hdf ⟨rfl,by decide,by decide⟩ hY F (fun _ H a ns hl hO hS=>⟨a,ns,rfl,hO,hS,hl,fun _=>rfl⟩) fun _ _ _ _ _ z=>z
end My
open PySem PySem.W PyProof.Rows
set_option maxRecDepth 100000 in
set_option maxHeartbeats 0 in
theorem PySem.Challenge.cw_wirestream_k11_three_ways_holds : PySem.Challenge.rw_wirestream_k11_three_ways.Holds := by
  w_on; o_law; k_head; (case hw=>w_witness2)
  k_fill
  refine My.walk (l:=PySem.Challenge.rw_wirestream_k11_three_ways) rfl rfl (fun w h Y=>PySem.W.kIn_of Y) ?F
  case F=>
    intro w mg fa h KX G hmg
    refine' My.all_mk KX G hmg ?aC_End ?aC_Pile ?a0 ?i0 ?l0 ?c0 ?k0 ?a1 ?l1 ?c1 ?k1 ?a2 ?l2 ?c2 ?k2 ?a3 ?l3 ?c3 ?k3 ?a4 ?l4 ?c4 ?k4 ?a5 ?l5 ?c5 ?k5 ?a6 ?l6 ?c6 ?k6 ?a7 ?i7 ?l7 ?c7 ?k7 ?a8 ?l8 ?c8 ?k8 ?a9 ?l9 ?c9 ?k9 ?a10 ?l10 ?c10 ?k10 ?a11 ?l11 ?c11 ?k11 ?a12 ?l12 ?c12 ?k12 ?a13 ?l13 ?c13 ?k13 ?a14 ?l14 ?c14 ?k14 ?a15 ?l15 ?c15 ?k15 ?a16 ?l16 ?c16 ?k16 ?a17 ?l17 ?c17 ?k17 ?a18 ?l18 ?c18 ?k18 ?a19 ?l19 ?c19 ?k19 ?a20 ?l20 ?c20 ?k20 ?a21 ?l21 ?c21 ?k21 ?a22 ?l22 ?c22 ?k22 ?a23 ?l23 ?c23 ?k23 ?a24 ?l24 ?c24 ?k24 ?a25 ?l25 ?c25 ?k25 ?a26 ?l26 ?c26 ?k26 ?a27 ?l27 ?c27 ?k27 ?a28 ?l28 ?c28 ?k28 ?a29 ?l29 ?c29 ?k29 ?a30 ?l30 ?c30 ?k30 ?a31 ?l31 ?c31 ?k31 ?a32 ?l32 ?c32 ?k32 ?a33 ?l33 ?c33 ?k33 ?a34 ?l34 ?c34 ?k34 ?a35 ?l35 ?c35 ?k35 ?a36 ?l36 ?c36 ?k36 ?a37 ?l37 ?c37 ?k37 ?a38 ?l38 ?c38 ?k38 ?a39 ?l39 ?c39 ?k39 ?a40 ?l40 ?c40 ?k40 ?a41 ?l41 ?c41 ?k41 ?a42 ?l42 ?c42 ?k42 ?a43 ?l43 ?c43 ?k43 ?a44 ?l44 ?c44 ?k44 ?a45 ?l45 ?c45 ?k45 ?a46 ?l46 ?c46 ?k46 ?a47 ?l47 ?c47 ?k47 ?a48 ?l48 ?c48 ?k48 ?a49 ?l49 ?c49 ?k49 ?a50 ?l50 ?c50 ?k50 ?a51 ?l51 ?c51 ?k51 ?a52 ?l52 ?c52 ?k52 ?a53 ?l53 ?c53 ?k53 ?a54 ?l54 ?c54 ?k54 ?a55 ?l55 ?c55 ?k55 ?a56 ?l56 ?c56 ?k56 ?a57 ?l57 ?c57 ?k57 ?a58 ?l58 ?c58 ?k58 ?a59 ?l59 ?c59 ?k59 ?a60 ?l60 ?c60 ?k60 ?a61 ?l61 ?c61 ?k61 ?a62 ?l62 ?c62 ?k62 ?a63 ?l63 ?c63 ?k63 ?a64 ?l64 ?c64 ?k64 ?a65 ?l65 ?c65 ?k65 ?a66 ?l66 ?c66 ?k66 ?a67 ?l67 ?c67 ?k67 ?a68 ?l68 ?c68 ?k68 ?a69 ?l69 ?c69 ?k69 ?a70 ?l70 ?c70 ?k70 ?a71 ?l71 ?c71 ?k71 ?a72 ?l72 ?c72 ?k72 ?a73 ?l73 ?c73 ?k73 ?a74 ?l74 ?c74 ?k74 ?a75 ?l75 ?c75 ?k75 ?a76 ?l76 ?c76 ?k76 ?a77 ?l77 ?c77 ?k77 ?a78 ?l78 ?c78 ?k78 ?a79 ?l79 ?c79 ?k79 ?a80 ?l80 ?c80 ?k80 ?a81 ?l81 ?c81 ?k81 ?a82 ?l82 ?c82 ?k82 ?a83 ?l83 ?c83 ?k83 ?a84 ?l84 ?c84 ?k84 ?a85 ?l85 ?c85 ?k85 ?a86 ?l86 ?c86 ?k86 ?pg_End ?hd_End ?po_End ?sa_End ?mk_End ?kc_End ?pg_Pile ?hd_Pile ?po_Pile ?sa_Pile ?mk_Pile ?kc_Pile ?zA0 ?zA1 ?zA2 ?zA3 ?zA4 ?zA5 ?zA6 ?zA7 ?zA8 ?zA9 ?zA10 ?zA11 ?zA12 ?zA13 ?zA14 ?zA15 ?zA16 ?zA17 ?zA18 ?zA19 ?zA20 ?zA21 ?zA22 ?zA23 ?zA24 ?zA25 ?zg0 ?zg1 ?zg2 ?zg3 ?zg4 ?zg5 ?zg6 ?zg7 ?zg8 ?zg9 ?zg10 ?zg11 ?zg12 ?zg13 ?zg14 ?zg15 ?zg16 ?zg17 ?zg18 ?zg19 ?zg20 ?zg21 ?zg22 ?zg23 ?zg24 ?zg25 ?zg26 ?zg27 ?zg28 ?zg29 ?zg30 ?zg31 ?zg32 ?zg33 ?zg34 ?zg35 ?zg36 ?zg37 ?zg38 ?zg39 ?zg40 ?zg41 ?zg42 ?zg43 ?z_enumerate ?z_int ?z_len ?z_list ?z_max ?z_min ?z_range ?z_sum ?z_tuple
    case aC_End | aC_Pile | a0 | i0 | l0 | c0 | k0 | a1 | l1 | c1 | k1 | a2 | l2 | c2 | k2 | a3 | l3 | c3 | k3 | a4 | l4 | c4 | k4 | a5 | l5 | c5 | k5 | a6 | l6 | c6 | k6 | a7 | i7 | l7 | c7 | k7 | a8 | l8 | c8 | k8 | a9 | l9 | c9 | k9 | a10 | l10 | c10 | k10 | a11 | l11 | c11 | k11 | a12 | l12 | c12 | k12 | a13 | l13 | c13 | k13 | a14 | l14 | c14 | k14 | a15 | l15 | c15 | k15 | a16 | l16 | c16 | k16 | a17 | l17 | c17 | k17 | a18 | l18 | c18 | k18 | a19 | l19 | c19 | k19 | a20 | l20 | c20 | k20 | a21 | l21 | c21 | k21 | a22 | l22 | c22 | k22 | a23 | l23 | c23 | k23 | a24 | l24 | c24 | k24 | a25 | l25 | c25 | k25 | a26 | l26 | c26 | k26 | a27 | l27 | c27 | k27 | a28 | l28 | c28 | k28 | a29 | l29 | c29 | k29 | a30 | l30 | c30 | k30 | a31 | l31 | c31 | k31 | a32 | l32 | c32 | k32 | a33 | l33 | c33 | k33 | a34 | l34 | c34 | k34 | a35 | l35 | c35 | k35 | a36 | l36 | c36 | k36 | a37 | l37 | c37 | k37 | a38 | l38 | c38 | k38 | a39 | l39 | c39 | k39 | a40 | l40 | c40 | k40 | a41 | l41 | c41 | k41 | a42 | l42 | c42 | k42 | a43 | l43 | c43 | k43 | a44 | l44 | c44 | k44 | a45 | l45 | c45 | k45 | a46 | l46 | c46 | k46 | a47 | l47 | c47 | k47 | a48 | l48 | c48 | k48 | a49 | l49 | c49 | k49 | a50 | l50 | c50 | k50 | a51 | l51 | c51 | k51 | a52 | l52 | c52 | k52 | a53 | l53 | c53 | k53 | a54 | l54 | c54 | k54 | a55 | l55 | c55 | k55 | a56 | l56 | c56 | k56 | a57 | l57 | c57 | k57 | a58 | l58 | c58 | k58 | a59 | l59 | c59 | k59 | a60 | l60 | c60 | k60 | a61 | l61 | c61 | k61 | a62 | l62 | c62 | k62 | a63 | l63 | c63 | k63 | a64 | l64 | c64 | k64 | a65 | l65 | c65 | k65 | a66 | l66 | c66 | k66 | a67 | l67 | c67 | k67 | a68 | l68 | c68 | k68 | a69 | l69 | c69 | k69 | a70 | l70 | c70 | k70 | a71 | l71 | c71 | k71 | a72 | l72 | c72 | k72 | a73 | l73 | c73 | k73 | a74 | l74 | c74 | k74 | a75 | l75 | c75 | k75 | a76 | l76 | c76 | k76 | a77 | l77 | c77 | k77 | a78 | l78 | c78 | k78 | a79 | l79 | c79 | k79 | a80 | l80 | c80 | k80 | a81 | l81 | c81 | k81 | a82 | l82 | c82 | k82 | a83 | l83 | c83 | k83 | a84 | l84 | c84 | k84 | a85 | l85 | c85 | k85 | a86 | l86 | c86 | k86 | pg_End | hd_End | po_End | sa_End | mk_End | kc_End | pg_Pile | hd_Pile | po_Pile | sa_Pile | mk_Pile | kc_Pile | zA0 | zA1 | zA2 | zA3 | zA4 | zA5 | zA6 | zA7 | zA8 | zA9 | zA10 | zA11 | zA12 | zA13 | zA14 | zA15 | zA16 | zA17 | zA18 | zA19 | zA20 | zA21 | zA22 | zA23 | zA24 | zA25 | zg0 | zg1 | zg2 | zg3 | zg4 | zg5 | zg6 | zg7 | zg8 | zg9 | zg10 | zg11 | zg12 | zg13 | zg14 | zg15 | zg16 | zg17 | zg18 | zg19 | zg20 | zg21 | zg22 | zg23 | zg24 | zg25 | zg26 | zg27 | zg28 | zg29 | zg30 | zg31 | zg32 | zg33 | zg34 | zg35 | zg36 | zg37 | zg38 | zg39 | zg40 | zg41 | zg42 | zg43 | z_enumerate | z_int | z_len | z_list | z_max | z_min | z_range | z_sum | z_tuple=>k_is
#print axioms PySem.Challenge.cw_wirestream_k11_three_ways_holds
