import PyProof.Rows.All
import KE.KDictLaws
import KE.KDictOf
import KE.KFromBytes
import KE.KIsAll
import KE.KItem
import Wide.Meth
import PySem.Challenge.RW_wirestream_k24_time_wait
set_option compiler.extract_closed false
set_option bootstrap.genMatcherCode false
set_option Elab.async false
set_option linter.all false
set_option maxRecDepth 100000
namespace L2
open PySem PySem.Spec PyProof.Rows
abbrev Key:=Sum Int Str
def Zio:Key→Value→Bool
  | .inl k,v=>Value.isInt k v
  | .inr x,v=>Value.isStrOf x v
def ZyZ (w:World):Key→Int
  | .inl k=>hashInt k
  | .inr x=>hashStr w x
theorem Zam:∀{k:Key} {v:Value},Zio k v=true→(∃i t,k=Sum.inl i∧v=Value.int i t)∨(∃x t,k=Sum.inr x∧v=Value.str x t)
  | .inl i,v,h=>by
    obtain ⟨t,e⟩:=Value.isInt_shape (k:=i) (v:=v) h
    exact .inl ⟨i,t,rfl,e⟩
  | .inr x,v,h=>by
    obtain ⟨t,e⟩:=Value.isStrOf_shape (x:=x) (v:=v) h
    exact .inr ⟨x,t,rfl,e⟩
theorem Zna (i:Int) (t:Tok):Zio (.inl i) (.int i t)=true:=by simp [Zio,Value.isInt]
theorem Zm9 (x:Str) (t:Tok):Zio (.inr x) (.str x t)=true:=by simp [Zio,Value.isStrOf]
theorem ZtN (a b:Int):decide ((Sum.inl a:Key)=Sum.inl b)=(a == b):=by
  by_cases e:a=b
  · subst e; simp
  · have h:¬(Sum.inl a:Key)=Sum.inl b:=fun q=>e (Sum.inl.inj q)
    rw [decide_eq_false h]
    exact (beq_eq_false_iff_ne.mpr e).symm
theorem ZtK (a b:Str):decide ((Sum.inr a:Key)=Sum.inr b)=decide (a=b):=by
  by_cases e:a=b
  · subst e; simp
  · have h:¬(Sum.inr a:Key)=Sum.inr b:=fun q=>e (Sum.inr.inj q)
    rw [decide_eq_false h,decide_eq_false e]
theorem ZtM (a:Int) (b:Str):decide ((Sum.inl a:Key)=Sum.inr b)=false:=decide_eq_false (fun q=>nomatch q)
theorem ZtL (a:Str) (b:Int):decide ((Sum.inr a:Key)=Sum.inl b)=false:=decide_eq_false (fun q=>nomatch q)
def ZaE (prog:Program) (w:World):PySem.KeyKind prog w Key where
  is:=Zio
  hash:=ZyZ w
  inj:=fun v a b ha hb=>by
    rcases Zam ha with ⟨i,t,rfl,rfl⟩ | ⟨x,t,rfl,rfl⟩
    · rcases Zam hb with ⟨j,u,rfl,e⟩ | ⟨y,u,rfl,e⟩
      · injection e with e1 _; rw [e1]
      · exact nomatch e
    · rcases Zam hb with ⟨j,u,rfl,e⟩ | ⟨y,u,rfl,e⟩
      · exact nomatch e
      · injection e with e1 _; rw [e1]
  byValue:=fun k v h=>by
    rcases Zam h with ⟨i,t,rfl,rfl⟩ | ⟨x,t,rfl,rfl⟩<;>rfl
  pyHash:=fun hv h=>by
    rcases Zam hv with ⟨i,t,rfl,rfl⟩ | ⟨x,t,rfl,rfl⟩
    · exact wpAny_pyHash_int h
    · exact wpAny_pyHash_str h
  eqBool:=fun hu hv h=>by
    rcases Zam hu with ⟨i,t,rfl,rfl⟩ | ⟨x,t,rfl,rfl⟩
    · rcases Zam hv with ⟨j,u,rfl,rfl⟩ | ⟨y,u,rfl,rfl⟩
      · rw [ZtN] at h; exact wpAny_eqBool_int h
      · rw [ZtM] at h; exact SeqAt.EqAt.int_str i t y u _ _ _ _ h
    · rcases Zam hv with ⟨j,u,rfl,rfl⟩ | ⟨y,u,rfl,rfl⟩
      · rw [ZtL] at h; exact SeqAt.EqAt.str_int x t j u _ _ _ _ h
      · rw [ZtK] at h; exact wpAny_eqBool_str h
  «strs»:=fun k x t v h=>by
    rcases Zam h with ⟨i,u,rfl,e⟩ | ⟨y,u,rfl,e⟩
    · exact nomatch e
    · injection e with e1 _
      subst e1
      cases v<;>rfl
theorem ZkS (prog:Program) (w:World) (i:Int) (t:Tok):(ZaE prog w).is (.inl i) (.int i t)=true:=Zna i t
theorem ZkR (prog:Program) (w:World) (x:Str) (t:Tok):(ZaE prog w).is (.inr x) (.str x t)=true:=Zm9 x t
end L2
namespace L2
open PySem PySem.Spec PyProof.Rows
inductive V where
  | non | bl (b:Bool) | int (i:Int) | str (x:Str) | byt (b:Array UInt8) | flt (b:UInt64) | ref (a:Addr) | ty (n:String)
  deriving DecidableEq
def RelV:V→Value→Prop
  | .non,u=>u=Value.none
  | .bl b,u=>u=Value.bool b
  | .int i,u=>∃t,u=Value.int i t
  | .str x,u=>∃t,u=Value.str x t
  | .byt b,u=>∃t,u=Value.bytes b t
  | .flt b,u=>∃t,u=Value.float b t
  | .ref a,u=>u=Value.ref a
  | .ty n,u=>u=Value.type n
abbrev Vals:List V→List Value→Prop:=Paired RelV
theorem Vals.length {xs:List V} {us:List Value} (r:Vals xs us):xs.length=us.length:=Paired.length r
theorem Vals.get:∀{xs:List V} {us:List Value} {i:Nat} {x:V},Vals xs us→xs[i]?=some x→∃u,us[i]?=some u∧RelV x u
  | _,_,_,_,.nil,e=>by simp at e
  | _,_,0,_,.cons r _,e=>by simp at e; subst e; exact ⟨_,rfl,r⟩
  | _,_,i+1,x,.cons _ t,e=>by
    obtain ⟨u,h1,h2⟩:=Vals.get (i:=i) (x:=x) t (by simpa using e)
    exact ⟨u,by simpa using h1,h2⟩
theorem Vals.set {x:V} {u:Value} (r:RelV x u):∀{xs:List V} {us:List Value} (i:Nat),Vals xs us→Vals (xs.set i x) (us.set i u)
  | _,_,_,.nil=>.nil
  | _,_,0,.cons _ t=>.cons r t
  | _,_,i+1,.cons q t=>.cons q (Vals.set r i t)
theorem Vals.append:∀{xs ys:List V} {us ws:List Value},Vals xs us→Vals ys ws→Vals (xs++ys) (us++ws)
  | _,_,_,_,.nil,s=>s
  | _,_,_,_,.cons r t,s=>.cons r (Vals.append t s)
theorem Vals.take:∀{xs:List V} {us:List Value} (n:Nat),Vals xs us→Vals (xs.take n) (us.take n)
  | _,_,0,_=>.nil
  | _,_,_+1,.nil=>.nil
  | _,_,n+1,.cons r t=>.cons r (Vals.take n t)
theorem Vals.drop:∀{xs:List V} {us:List Value} (n:Nat),Vals xs us→Vals (xs.drop n) (us.drop n)
  | _,_,0,r=>r
  | _,_,_+1,.nil=>.nil
  | _,_,n+1,.cons _ t=>Vals.drop n t
theorem Vals.none_of:∀{xs:List V} {us:List Value} {i:Nat},Vals xs us→xs[i]?=none→us[i]?=none:=fun {xs us i} r e=>by
  have h1:=r.length
  have h2:xs.length≤i:=List.getElem?_eq_none_iff.mp e
  exact List.getElem?_eq_none_iff.mpr (by omega)
def RelO:Option V→Option Value→Prop
  | some v,some u=>RelV v u
  | none,none=>True
  | _,_=>False
def KV {κ:Type}:List (κ×V)→List (κ×Value)→Prop:=Paired fun (p:κ×V) (q:κ×Value)=>p.1=q.1∧RelV p.2 q.2
def kV:Key→V
  | .inl i=>.int i
  | .inr x=>.str x
inductive HO where
  | lst (xs:List V)
  | tup (xs:List V)
  | dK (kvs:List (Key×V)) | dT (kvs:List (List Key×V))
  | set (S:Int→Bool) (n:Nat)
  | ins (C dx:Addr) (fs:List (Str×V))
  | own (x:Addr)
  | xd (fs:List (Str×V))
  | met (f x:Addr)
  | rng (lo hi:Int)
  | frz (o:Obj) (u:HO)
  | tbl (ps:Array Value)
  | ext (φ:Heap→Prop)
abbrev Hp:=Addr→Option HO
def upd (H:Hp) (a:Addr) (o:HO):Hp:=fun b=>if b=a then some o else H b
theorem zI {H:Hp} {a:Addr} {o:HO}:upd H a o a=some o:=by unfold upd; rw [if_pos rfl]
theorem ZP {H:Hp} {a b:Addr} {o:HO} (h:b≠a):upd H a o b=H b:=by unfold upd; rw [if_neg h]
theorem zi {H:Hp} {a b:Addr} {o:HO} (h:H a=some o) (h':H b=none):a≠b:=by
  intro e; subst e; rw [h] at h'; cases h'
section
variable (P:Program) (w:World)
def ObjOk (H:Hp) (h:Heap) (a:Addr):HO→Prop
  | .lst xs=>xs.length≤sizeLine∧∃(its:List Value) (n:Nat),Vals xs its∧h.get? a=some { cls:=.type "list",data:=.seq its.toArray n }
  | .tup xs=>xs.length≤sizeLine∧∃its:List Value,Vals xs its∧IsTup h a its.toArray
  | .dK kvs=>kvs.length≤sizeLine∧(a == sysModules)=false∧∃vs,KV kvs vs∧h.DictOf (ZaE P w) a vs
  | .dT kvs=>kvs.length≤sizeLine∧(a == sysModules)=false∧∃xs:List (List Key×Addr×Value),
      Paired (fun (p:List Key×V) (q:List Key×Addr×Value)=>p.1=q.1∧H q.2.1=some (.tup (p.1.map kV))∧RelV p.2 q.2.2) kvs xs∧
      ∃o es ep,h.get? a=some o∧o.ExactDict∧o.data=.dict es ep∧es.toList=xs.map (entryOfKey (tupleKind (ZaE P w)))∧(xs.map (·.1)).Nodup
  | .set S n=>h.SetOf (intKind P w) a S n
  | .ins C dx fs=>H dx=some (.own a)∧fs.length≤1000∧dx≠a∧h.get? a=some (PySem.W.instObj C dx)∧
      ∃mA,h.Ns1 dx mA∧(∀f,RelO (fs.lookup f) (mA f))∧PySem.Within mA (fs.map (·.1))
  | .own _=>∃o,h.get? a=some o
  | .xd fs=>∃mA,h.Ns1 a mA∧∀f,RelO (fs.lookup f) (mA f)
  | .rng lo hi=>∃t u v,h.get? a=some { cls:=.type "range",data:=.fields #[.int lo t,.int hi u,.int 1 v] }
  | .frz o u=>h.get? a=some o∧ObjOk H h a u
  | .tbl ps=>h.get? a=some { cls:=.none,data:=.fields ps }
  | .met f x=>h.get? a=some (PySem.W.methodObj (.ref f) (.ref x))
  | .ext φ=>φ h∧(∃o,h.get? a=some o)∧∀h1 h2:Heap,φ h1→(∀o,h1.get? a=some o→h2.get? a=some o)→φ h2
def HOk (H:Hp) (h:Heap):Prop:=∀a o,H a=some o→ObjOk P w H h a o
end
section
variable {P:Program} {w:World} {H H':Hp} {h h':Heap} {a:Addr} {o:HO}
theorem ObjOk.lt (x:ObjOk P w H h a o):a<h.objs.size:=by
  cases o with
  | lst xs=>obtain ⟨_,_,_,_,e⟩:=x; exact Heap.lt_size e
  | tup xs=>obtain ⟨_,_,_,p⟩:=x; exact p.lt
  | dK kvs=>obtain ⟨_,_,_,_,o,_,_,e,_⟩:=x; exact Heap.lt_size e
  | dT kvs=>obtain ⟨_,_,_,_,o,_,_,e,_⟩:=x; exact Heap.lt_size e
  | set S n=>obtain ⟨o,_,_,_,e,_⟩:=x; exact Heap.lt_size e
  | ins C dx fs=>obtain ⟨_,_,_,e,_⟩:=x; exact Heap.lt_size e
  | own y=>obtain ⟨_,e⟩:=x; exact Heap.lt_size e
  | xd fs=>obtain ⟨_,⟨_,_,_,e,_⟩,_⟩:=x; exact Heap.lt_size e
  | rng lo hi=>obtain ⟨_,_,_,e⟩:=x; exact Heap.lt_size e
  | frz ob u=>obtain ⟨e,_⟩:=x; exact Heap.lt_size e
  | tbl ps=>exact Heap.lt_size (show h.get? a=some _ from x)
  | met f y=>exact Heap.lt_size (show h.get? a=some _ from x)
  | ext φ=>obtain ⟨_,⟨_,e⟩,_⟩:=x; exact Heap.lt_size e
theorem Paired.mapP {α β:Type} {F G:α→β→Prop}:∀{l₁:List α} {l₂:List β},Paired F l₁ l₂→(∀a b,F a b→G a b)→Paired G l₁ l₂
  | _,_,.nil,_=>.nil
  | _,_,.cons r t,f=>.cons (f _ _ r) (Paired.mapP t f)
theorem ObjOk.stay (x:ObjOk P w H h a o) (k:∀b u,(b=a∨H b=some (.own a))→h.get? b=some u→h'.get? b=some u)
    (ho:∀b,H b=some (.own a)→H' b=some (.own a)) (ht:∀b xs,H b=some (.tup xs)→H' b=some (.tup xs)):ObjOk P w H' h' a o:=by
  induction o with
  | lst xs=>obtain ⟨z,its,n,r,e⟩:=x; exact ⟨z,its,n,r,k _ _ (.inl rfl) e⟩
  | tup xs=>obtain ⟨z,its,r,ob,e,c⟩:=x; exact ⟨z,its,r,ob,k _ _ (.inl rfl) e,c⟩
  | dK kvs=>obtain ⟨z,y,vs,r,ob,es,ep,e,c⟩:=x; exact ⟨z,y,vs,r,ob,es,ep,k _ _ (.inl rfl) e,c⟩
  | dT kvs=>
    obtain ⟨z,y,xs,r,ob,es,ep,e,c⟩:=x
    exact ⟨z,y,xs,Paired.mapP r fun p q z=>⟨z.1,ht _ _ z.2.1,z.2.2⟩,ob,es,ep,k _ _ (.inl rfl) e,c⟩
  | set S n=>obtain ⟨ob,es,ep,t,e,c⟩:=x; exact ⟨ob,es,ep,t,k _ _ (.inl rfl) e,c⟩
  | ins C dx fs=>
    obtain ⟨d,z,ne,e,mA,⟨od,es,ep,e2,c⟩,r⟩:=x
    exact ⟨ho _ d,z,ne,k _ _ (.inl rfl) e,mA,⟨od,es,ep,k _ _ (.inr d) e2,c⟩,r⟩
  | own y=>obtain ⟨ob,e⟩:=x; exact ⟨ob,k _ _ (.inl rfl) e⟩
  | xd fs=>obtain ⟨mA,⟨od,es,ep,e,c⟩,r⟩:=x; exact ⟨mA,⟨od,es,ep,k _ _ (.inl rfl) e,c⟩,r⟩
  | rng lo hi=>obtain ⟨t,u,v,e⟩:=x; exact ⟨t,u,v,k _ _ (.inl rfl) e⟩
  | frz ob u ih=>obtain ⟨e,q⟩:=x; exact ⟨k _ _ (.inl rfl) e,ih q⟩
  | tbl ps=>
    have e:h.get? a=some { cls:=.none,data:=.fields ps }:=x
    show h'.get? a=some { cls:=.none,data:=.fields ps }
    exact k a _ (.inl rfl) e
  | met f y=>
    have e:h.get? a=some (PySem.W.methodObj (.ref f) (.ref y)):=x
    show h'.get? a=some (PySem.W.methodObj (.ref f) (.ref y))
    exact k a _ (.inl rfl) e
  | ext φ=>obtain ⟨p,⟨o,e⟩,st⟩:=x; exact ⟨st _ _ p fun o q=>k _ _ (.inl rfl) q,⟨o,k _ _ (.inl rfl) e⟩,st⟩
theorem HOk.lt (x:HOk P w H h) (e:H a=some o):a<h.objs.size:=(x a o e).lt
theorem HOk.fresh (x:HOk P w H h) (e:h.objs.size≤a):H a=none:=by
  cases q:H a with
  | none=>rfl
  | some u=>exact absurd (Nat.lt_of_lt_of_le (x.lt q) e) (Nat.lt_irrefl _)
theorem HOk.kept (x:HOk P w H h) (k:∀b u,h.get? b=some u→h'.get? b=some u):HOk P w H h':=fun a o e=>
  (x a o e).stay (fun b u _ q=>k b u q) (fun _ q=>q) fun _ _ q=>q
theorem HOk.laid (x:HOk P w H h) (k:∀b u,h.get? b=some u→h'.get? b=some u) (hp:h.objs.size≤a) (new:ObjOk P w (upd H a o) h' a o):HOk P w (upd H a o) h':=fun b u e=>by
  have hn:=x.fresh hp
  by_cases hb:b=a
  · subst hb; rw [zI] at e; cases e; exact new
  · rw [ZP hb] at e
    exact (x b u e).stay (fun c v _ q=>k c v q) (fun c q=>by rw [ZP (zi q hn)]; exact q) fun c xs q=>by rw [ZP (zi q hn)]; exact q
end
def Rd (H:Hp) (a:Addr) (u:HO):Prop:=H a=some u∨∃o,H a=some (.frz o u)
theorem Rd.of {H:Hp} {a:Addr} {u:HO} (h:H a=some u):Rd H a u:=.inl h
theorem Rd.ok {P:Program} {w:World} {H:Hp} {h:Heap} {a:Addr} {u:HO} (r:Rd H a u) (x:HOk P w H h):ObjOk P w H h a u:=by
  rcases r with r | ⟨o,r⟩
  · exact x a u r
  · obtain ⟨_,q⟩:=x a _ r
    exact q
def Mut:Option HO→Prop
  | some (.lst _)=>True
  | some (.dK _)=>True
  | some (.dT _)=>True
  | some (.set _ _)=>True
  | some (.ins _ _ _)=>True
  | some (.ext _)=>True
  | _=>False
section
variable {P:Program} {w:World} {H:Hp} {h h':Heap} {x e:Addr} {o':HO}
theorem HOk.write (ok:HOk P w H h) (mu:Mut (H x)) (he:e=x∨H e=some (.own x)) (k:∀b u,b≠e→h.get? b=some u→h'.get? b=some u) (heo:∃u,h'.get? e=some u)
    (new:ObjOk P w (upd H x o') h' x o'):HOk P w (upd H x o') h':=fun b u q=>by
  have nown:∀c y,H c=some (.own y)→c≠x:=fun c y r z=>by subst z; rw [r] at mu; exact mu
  have ntup:∀c xs,H c=some (.tup xs)→c≠x:=fun c xs r z=>by subst z; rw [r] at mu; exact mu
  by_cases hb:b=x
  · subst hb; rw [zI] at q; cases q; exact new
  · rw [ZP hb] at q
    by_cases hbe:b=e
    · have q':H b=some (.own x):=by
        rcases he with z | z
        · exact absurd (hbe.trans z) hb
        · rw [hbe]; exact z
      rw [q] at q'; cases q'
      obtain ⟨v,hv⟩:=heo
      exact ⟨v,by rw [hbe]; exact hv⟩
    · refine (ok b u q).stay (fun c v hc r=>k c v ?_ r) (fun c r=>by rw [ZP (nown c b r)]; exact r) fun c xs r=>by rw [ZP (ntup c xs r)]; exact r
      rcases hc with rfl | hc
      · exact hbe
      · rintro rfl
        rcases he with z | z
        · exact nown c b hc z
        · rw [hc] at z; cases z; exact hb rfl
end
structure Un (fs ex:List Addr) (H H':Hp) (h h':Heap):Prop where
  keep:∀b o,h.get? b=some o→H b=none→b∉fs→b∉ex→h'.get? b=some o
  slot:∀b o,h.get? b=some o→H b=none→b∈fs→b∉ex→∃sl,h'.get? b=some { o with slots:=sl }
  free:∀b o,h.get? b=some o→H b=none→b∉ex→H' b=none
  there:∀b o,h.get? b=some o→b∉ex→∃o',h'.get? b=some o'
  tups:∀b xs,H b=some (.tup xs)→H' b=some (.tup xs)
  frzs:∀b o u,H b=some (.frz o u)→H' b=some (.frz o u)
  tbls:∀b ps,H b=some (.tbl ps)→∃more,H' b=some (.tbl (ps++more))
section
variable {fs fs' ex ex':List Addr} {H H1 H2:Hp} {h h1 h2 h':Heap} {a x e:Addr} {o:HO}
theorem Un.any (u:Un fs ex H H1 h h1) {b:Addr} {ob:Obj} (q:h.get? b=some ob) (n:H b=none) (hx:b∉ex):∃sl,h1.get? b=some { ob with slots:=sl }:=by
  by_cases hb:b∈fs
  · exact u.slot b ob q n hb hx
  · exact ⟨ob.slots,u.keep b ob q n hb hx⟩
theorem Un.trans (a:Un fs ex H H1 h h1) (b:Un fs ex H1 H2 h1 h2):Un fs ex H H2 h h2 where
  keep:=fun c ob q n hc hx=>b.keep c ob (a.keep c ob q n hc hx) (a.free c ob q n hx) hc hx
  slot:=fun c ob q n hc hx=>by
    obtain ⟨sl,e1⟩:=a.slot c ob q n hc hx
    obtain ⟨sl',e2⟩:=b.slot c _ e1 (a.free c ob q n hx) hc hx
    exact ⟨sl',e2⟩
  free:=fun c ob q n hx=>by
    obtain ⟨o',e1⟩:=a.there c ob q hx
    exact b.free c o' e1 (a.free c ob q n hx) hx
  there:=fun c ob q hx=>by
    obtain ⟨o',e1⟩:=a.there c ob q hx
    exact b.there c o' e1 hx
  tups:=fun c xs q=>b.tups c xs (a.tups c xs q)
  frzs:=fun c ob xs q=>b.frzs c ob xs (a.frzs c ob xs q)
  tbls:=fun c ps q=>by
    obtain ⟨m1,e1⟩:=a.tbls c ps q
    obtain ⟨m2,e2⟩:=b.tbls c _ e1
    exact ⟨m1++m2,by rw [e2,Array.append_assoc]⟩
theorem Un.kept (k:∀b u,h.get? b=some u→h'.get? b=some u):Un fs ex H H h h':=
  ⟨fun b ob q _ _ _=>k b ob q,fun b ob q _ _ _=>⟨ob.slots,k b ob q⟩,fun _ _ _ n _=>n,fun b ob q _=>⟨ob,k b ob q⟩,fun _ _ q=>q,fun _ _ _ q=>q,fun _ ps q=>⟨#[],by rw [q]; simp⟩⟩
theorem Un.refl:Un fs ex H H h h:=Un.kept fun _ _ q=>q
theorem Un.laid (k:∀b u,h.get? b=some u→h'.get? b=some u) (hp:h.objs.size≤a) (hn:H a=none):Un fs ex H (upd H a o) h h' where
  keep:=fun b u q _ _ _=>k b u q
  slot:=fun b u q _ _ _=>⟨u.slots,k b u q⟩
  free:=fun b u q n _=>by rw [ZP (Nat.ne_of_lt (Nat.lt_of_lt_of_le (Heap.lt_size q) hp))]; exact n
  there:=fun b u q _=>⟨u,k b u q⟩
  tups:=fun b xs q=>by rw [ZP (zi q hn)]; exact q
  frzs:=fun b u xs q=>by rw [ZP (zi q hn)]; exact q
  tbls:=fun b ps q=>⟨#[],by rw [ZP (zi q hn),q]; simp⟩
theorem Un.write (mu:Mut (H x)) (he:e=x∨H e=some (.own x)) (k:∀b u,b≠e→h.get? b=some u→h'.get? b=some u) (heo:∃u,h'.get? e=some u):Un fs ex H (upd H x o) h h':=by
  have hx:∀b,H b=none→b≠x:=fun b n z=>by subst z; rw [n] at mu; exact mu
  have hb:∀b,H b=none→b≠e:=fun b n z=>by
    subst z
    rcases he with r | r
    · exact hx b n r
    · rw [n] at r; cases r
  have hm:∀b u,H b=some u→¬Mut (some u)→b≠x:=fun b u q nm z=>by subst z; rw [q] at mu; exact nm mu
  refine ⟨fun b u q n _ _=>k b u (hb b n) q,fun b u q n _ _=>⟨u.slots,k b u (hb b n) q⟩,fun b u q n _=>by rw [ZP (hx b n)]; exact n,fun b u q _=>?_,
    fun b xs q=>by rw [ZP (hm b _ q fun z=>z)]; exact q,fun b u xs q=>by rw [ZP (hm b _ q fun z=>z)]; exact q,fun b ps q=>⟨#[],by rw [ZP (hm b _ q fun z=>z),q]; simp⟩⟩
  by_cases hbe:b=e
  · subst hbe; exact heo
  · exact ⟨u,k b u hbe q⟩
theorem Un.mono (u:Un fs ex H H1 h h1) (hs:∀b∈fs,b∈fs') (hx:∀b∈ex,b∈ex'):Un fs' ex' H H1 h h1:=
  ⟨fun b ob q n hb he=>u.keep b ob q n (fun z=>hb (hs b z)) fun z=>he (hx b z),fun _ _ q n _ he=>u.any q n fun z=>he (hx _ z),fun b ob q n he=>u.free b ob q n fun z=>he (hx b z),fun b ob q he=>u.there b ob q fun z=>he (hx b z),u.tups,u.frzs,u.tbls⟩
end
def trk (h:Heap) (H:Hp):List Addr:=(List.range h.objs.size).filter fun a=>(H a).isSome
def ZiX (h:Heap) (H:Hp):Heap:=PySem.W.hideAll h (trk h H)
theorem Zne (h:Heap) (H:Hp):(ZiX h H).objs.size=h.objs.size:=PySem.W.hideAll_size _ _
theorem Zp0 {h:Heap} {H:Hp} {b:Addr} {o:Obj} (e:h.get? b=some o) (n:H b=none):(ZiX h H).get? b=some o:=
  PySem.W.hideAll_get _ e fun hm=>by
    have q:(H b).isSome=true:=(List.mem_filter.mp hm).2
    rw [n] at q; simp at q
theorem Zrs {h:Heap} {H:Hp} {b:Addr} {o:Obj} (e:(ZiX h H).get? b=some o):h.get? b=some o∧H b=none:=by
  have e':h.get? b=some o:=PySem.W.of_hideAll (trk h H) e
  refine ⟨e',?_⟩
  cases q:H b with
  | none=>rfl
  | some x=>
    have hm:b∈trk h H:=List.mem_filter.mpr ⟨List.mem_range.mpr (Heap.lt_size e'),by simp [q]⟩
    have z:(ZiX h H).get? b=none:=PySem.W.hideAll_none (trk h H) hm
    rw [z] at e; cases e
def Zr4 (g h:Heap) (L:Addr):List (Addr×Obj):=(List.range h.objs.size).filterMap fun a=>if a=L∨(g.get? a).isSome=true then none else (h.get? a).map fun o=>(a,o)
def rest (g h:Heap) (L d:Addr):List (Addr×Obj):=(Zr4 g h L).filter fun p=>decide (p.1≠d)
end L2
namespace L2
open PySem PySem.Spec PyProof.Rows
structure Mod (K:PySem.W.Frag) (mg:Str→Option Value) (base:Heap):Prop where
  kin:K.In base
  glob:base.Ns mainGlobals mg
  blt:∃mb,base.Ns builtinsNs mb∧∀x:Str,x≠"__name__"→mb x=bootBuiltins x
  nolimit:base.NoLimit
structure Cx where
  prog:Program
  w:World
  K:PySem.W.Frag
  mg:Str→Option Value
  base:Heap
  A:Around
  N:List Str
  s₀:Shared
  H₀:Hp
  env:Env
  outer:List Env
  stack:List Env
  ex:List Addr
  fn:Str→Bool
  calm:Bool
  pn:List (Addr×Obj)
  xe:Value→Shared→Prop
def frs (l:List Env):List Addr:=l.filterMap (·.frame)
abbrev Cx.fs (X:Cx):List Addr:=frs X.outer
def Vis (sc:Scope) (x:Str):Prop:=sc.names.lookup x=some .local∨sc.names.lookup x=some .cell∨sc.names.lookup x=some .free
def Loc (sc:Scope) (x:Str):Prop:=sc.names.lookup x=some .local∨sc.names.lookup x=some .cell
def Zzq (env:Env) (h:Heap) (m:Str→Option Value) (x:Str) (u:Value):Prop:=
  (env.kindOf x=some .local∧m x=some u)∨((env.kindOf x=some .cell∨env.kindOf x=some .free)∧∃c,env.cells.lookup x=some c∧h.IsCell c (some u))
structure Cx.Ok (X:Cx):Prop where
  mod:Mod X.K X.mg X.base
  kind:X.env.scope.kind=.function
  glob:X.env.globals=mainGlobals
  blt:X.env.builtins=builtinsNs
  above:X.s₀.heap.objs.size≤X.env.locals
  inj:∀x y c,X.env.cells.lookup x=some c→X.env.cells.lookup y=some c→x=y
  has:∀x,(X.env.kindOf x=some .cell∨X.env.kindOf x=some .free)→∃c,X.env.cells.lookup x=some c
  cab:∀x c,X.fn x=true→X.env.cells.lookup x=some c→X.s₀.heap.objs.size≤c
  hd:X.calm=true→X.A.handled=none
  frames:X.A.frames=some X.stack
  stk:X.stack=X.outer∨(X.stack=X.env::X.outer∧X.env.frame=some X.env.locals)
  exf:∀b∈X.ex,b≠X.env.locals∧∀x c,X.env.cells.lookup x=some c→c≠b
  bs:∀b o,X.base.get? b=some o→X.s₀.heap.get? b=some o∧X.H₀ b=none
  bsz:X.base.objs.size≤X.s₀.heap.objs.size
  noex:∀b o,X.base.get? b=some o→b∉X.ex
  exfs:∀b∈X.ex,b∉X.fs
  funs:X.s₀.heap.FunFrames X.base X.outer
  frf:∀b∈X.fs,X.H₀ b=none
structure Inv (X:Cx) (pins:List (Addr×Obj)) (σ:List (Option V)) (H:Hp) (s:Shared):Prop where
  ok:X.Ok
  os:s.os=X.s₀.os
  bare:AllBare s.gens
  base:Un X.fs X.ex X.H₀ H X.s₀.heap s.heap
  loc:∃m,s.heap.Ns X.env.locals m∧∀(i:Nat) (x:Str) (v:V),X.N[i]?=some x→σ[i]?=some (some v)→Vis X.env.scope x→∃u,RelV v u∧Zzq X.env s.heap m x u
  cell:∀x c,X.env.cells.lookup x=some c→∃v,s.heap.IsCell c v
  free:H X.env.locals=none
  freeC:∀x c,X.env.cells.lookup x=some c→H c=none
  pin:∀p∈X.pn++pins,s.heap.get? p.1=some p.2∧H p.1=none∧p.1≠X.env.locals∧p.1∉X.fs∧∀v,p.2.data≠.cell v
  hok:HOk X.prog X.w H s.heap
  len:σ.length=X.N.length
section
variable {X:Cx} {pins:List (Addr×Obj)} {σ:List (Option V)} {H H':Hp} {s:Shared} {h':Heap}
theorem Cx.Ok.nofr (ok:X.Ok) {b:Addr} {o:Obj} (e:X.base.get? b=some o):b∉X.fs:=fun hb=>by
  have:=(ok.funs.mem hb).1
  rw [e] at this; cases this
theorem Inv.bs (I:Inv X pins σ H s):∀b o,X.base.get? b=some o→s.heap.get? b=some o∧H b=none:=fun b o e=>
  ⟨I.base.keep b o (I.ok.bs b o e).1 (I.ok.bs b o e).2 (I.ok.nofr e) (I.ok.noex b o e),I.base.free b o (I.ok.bs b o e).1 (I.ok.bs b o e).2 (I.ok.noex b o e)⟩
theorem Inv.bk (I:Inv X pins σ H s):∀b o,X.base.get? b=some o→s.heap.get? b=some o:=fun b o e=>(I.bs b o e).1
theorem Inv.mod (I:Inv X pins σ H s):Mod X.K X.mg X.base:=I.ok.mod
theorem Inv.kIn (I:Inv X pins σ H s):X.K.In s.heap:=I.ok.mod.kin.keeps I.bk
theorem Inv.nolimit (I:Inv X pins σ H s):s.heap.NoLimit:=I.ok.mod.nolimit.keeps I.bk
theorem Inv.fr (I:Inv X pins σ H s):∃m,Fr X.base X.env.locals s.heap m:=
  let ⟨m,hn,_⟩:=I.loc
  ⟨m,hn,I.bk,Nat.le_trans I.ok.bsz I.ok.above⟩
theorem Inv.lt (I:Inv X pins σ H s):X.env.locals<s.heap.objs.size:=let ⟨_,hn,_⟩:=I.loc; hn.lt
theorem Inv.sz (I:Inv X pins σ H s):X.s₀.heap.objs.size≤s.heap.objs.size:=Nat.le_trans I.ok.above (Nat.le_of_lt I.lt)
theorem Inv.nofs (I:Inv X pins σ H s) {a:Addr} (h:s.heap.objs.size≤a):a∉X.fs:=fun hb=>by
  obtain ⟨_,o,ho,_⟩:=I.ok.funs.mem hb
  exact absurd (Nat.lt_of_lt_of_le (Heap.lt_size ho) (Nat.le_trans I.sz h)) (Nat.lt_irrefl _)
theorem Inv.cne (I:Inv X pins σ H s):∀x c,X.env.cells.lookup x=some c→c≠X.env.locals:=fun x c e z=>by
  obtain ⟨v,o,ho,hd⟩:=I.cell x c e
  obtain ⟨m,⟨o',es,ep,ho',hd',_⟩,_⟩:=I.loc
  rw [z,ho'] at ho; cases ho; rw [hd'] at hd; cases hd
theorem Inv.funs (I:Inv X pins σ H s):s.heap.FunFrames X.base X.outer:=by
  have all:∀(l:List Env),(∀b∈frs l,b∈X.fs)→X.s₀.heap.FunFrames X.base l→s.heap.FunFrames X.base l:=by
    intro l
    induction l with
    | nil=>intro _ _; trivial
    | cons env r ih=>
      intro hs hl
      obtain ⟨hk,⟨L,o,hf,hn,ho,hd⟩,hr⟩:=hl
      have hL:L∈X.fs:=hs L (by unfold frs; rw [List.filterMap_cons,hf]; exact List.mem_cons_self)
      obtain ⟨sl,e⟩:=I.base.slot L o ho (I.ok.frf L hL) hL fun z=>I.ok.exfs L z hL
      exact ⟨hk,⟨L,_,hf,hn,e,hd⟩,ih (fun b hb=>hs b (by unfold frs; rw [List.filterMap_cons,hf]; exact List.mem_cons_of_mem _ hb)) hr⟩
  exact all X.outer (fun _ hb=>hb) I.ok.funs
theorem Inv.stack (I:Inv X pins σ H s):s.heap.FunFrames X.base X.stack:=by
  rcases I.ok.stk with e | ⟨e,hf⟩
  · rw [e]; exact I.funs
  · rw [e]
    obtain ⟨m,hn,_⟩:=I.loc
    refine .cons (by rw [I.ok.kind]; decide) hf hn ?_ I.funs
    exact Heap.get?_none_of_le (Nat.le_trans I.ok.bsz I.ok.above)
theorem Inv.stkSub (I:Inv X pins σ H s):∀b∈frs X.stack,b∈X.env.locals::X.fs:=fun b hb=>by
  rcases I.ok.stk with e | ⟨e,hf⟩
  · rw [e] at hb; exact List.mem_cons_of_mem _ hb
  · rw [e] at hb
    unfold frs at hb
    rw [List.filterMap_cons,hf] at hb
    exact hb
theorem Inv.stkFree (I:Inv X pins σ H s):∀b∈frs X.stack,H b=none:=fun b hb=>by
  rcases List.mem_cons.mp (I.stkSub b hb) with e | hb
  · rw [e]; exact I.free
  · obtain ⟨_,o,ho,_⟩:=I.ok.funs.mem hb
    exact I.base.free b o ho (I.ok.frf b hb) fun z=>I.ok.exfs b z hb
theorem Inv.step {g':Array GenState} {t':Nat} {d':Drawn} {ch:List Addr} (I:Inv X pins σ H s)
    (hch:∀b∈ch,(b∈X.ex∨X.s₀.heap.objs.size≤b)∧b≠X.env.locals∧(∀x c,X.env.cells.lookup x=some c→c≠b)∧∀p∈X.pn++pins,p.1≠b)
    (keep:∀b o,b≠X.env.locals→b∉X.fs→b∉ch→s.heap.get? b=some o→H b=none→h'.get? b=some o)
    (slot:∀b o,b≠X.env.locals→b∈X.fs→b∉ch→s.heap.get? b=some o→H b=none→∃sl,h'.get? b=some { o with slots:=sl }) (free:∀b o,b∉ch→s.heap.get? b=some o→H b=none→H' b=none)
    (there:∀b o,b∉ch→s.heap.get? b=some o→∃o',h'.get? b=some o')
    (tups:∀b xs,H b=some (.tup xs)→H' b=some (.tup xs)) (frzs:∀b o u,H b=some (.frz o u)→H' b=some (.frz o u)) (tbls:∀b ps,H b=some (.tbl ps)→∃more,H' b=some (.tbl (ps++more)))
    (ns:∀m,s.heap.Ns X.env.locals m→h'.Ns X.env.locals m) (hok:HOk X.prog X.w H' h') (hg:AllBare g') :
    Inv X pins σ H' { s with heap:=h',gens:=g',drawn:=d',toks:=t' }:=by
  have neL:∀b o,X.s₀.heap.get? b=some o→b≠X.env.locals:=fun b o e=>Nat.ne_of_lt (Nat.lt_of_lt_of_le (Heap.lt_size e) I.ok.above)
  have neC:∀b o,X.s₀.heap.get? b=some o→b∉X.ex→b∉ch:=fun b o e hx hb=>by
    rcases (hch b hb).1 with z | z
    · exact hx z
    · exact absurd (Nat.lt_of_lt_of_le (Heap.lt_size e) z) (Nat.lt_irrefl _)
  have cellK:∀x c,X.env.cells.lookup x=some c→∀v,s.heap.IsCell c v→h'.IsCell c v:=fun x c e v ⟨o,ho,hd⟩=>by
    have nch:c∉ch:=fun z=>(hch c z).2.2.1 x c e rfl
    by_cases hc:c∈X.fs
    · obtain ⟨sl,q⟩:=slot c o (I.cne x c e) hc nch ho (I.freeC x c e)
      exact ⟨_,q,hd⟩
    · exact ⟨o,keep c o (I.cne x c e) hc nch ho (I.freeC x c e),hd⟩
  refine ⟨I.ok,I.os,hg,⟨fun b o e n hb hx=>?_,fun b o e n hb hx=>?_,fun b o e n hx=>?_,fun b o e hx=>?_,fun b xs e=>tups b xs (I.base.tups b xs e),fun b o xs e=>frzs b o xs (I.base.frzs b o xs e),fun b ps e=>?_⟩,?_,fun x c e=>?_,?_,fun x c e=>?_,fun p hp=>?_,hok,I.len⟩
  · exact keep b o (neL b o e) hb (neC b o e hx) (I.base.keep b o e n hb hx) (I.base.free b o e n hx)
  · obtain ⟨sl,e1⟩:=I.base.slot b o e n hb hx
    obtain ⟨sl',e2⟩:=slot b _ (neL b o e) hb (neC b o e hx) e1 (I.base.free b o e n hx)
    exact ⟨sl',e2⟩
  · obtain ⟨o',e1⟩:=I.base.there b o e hx
    exact free b o' (neC b o e hx) e1 (I.base.free b o e n hx)
  · obtain ⟨o',e1⟩:=I.base.there b o e hx
    exact there b o' (neC b o e hx) e1
  · obtain ⟨m1,e1⟩:=I.base.tbls b ps e
    obtain ⟨m2,e2⟩:=tbls b _ e1
    exact ⟨m1++m2,by rw [e2,Array.append_assoc]⟩
  · obtain ⟨m,hn,hl⟩:=I.loc
    refine ⟨m,ns m hn,fun i x v e1 e2 e3=>?_⟩
    obtain ⟨u,r,l⟩:=hl i x v e1 e2 e3
    refine ⟨u,r,?_⟩
    rcases l with l | ⟨k,c,e,z⟩
    · exact .inl l
    · exact .inr ⟨k,c,e,cellK x c e _ z⟩
  · obtain ⟨v,z⟩:=I.cell x c e
    exact ⟨v,cellK x c e v z⟩
  · obtain ⟨m,⟨o,_,_,ho,_⟩,_⟩:=I.loc
    exact free _ o (fun z=>(hch _ z).2.1 rfl) ho I.free
  · obtain ⟨v,o,ho,hd⟩:=I.cell x c e
    exact free c o (fun z=>(hch c z).2.2.1 x c e rfl) ho (I.freeC x c e)
  · obtain ⟨e,n,ne,nf,d⟩:=I.pin p hp
    have nch:p.1∉ch:=fun z=>(hch p.1 z).2.2.2 p hp rfl
    exact ⟨keep p.1 p.2 ne nf nch e n,free p.1 p.2 nch e n,ne,nf,d⟩
theorem Inv.un {t':Nat} (I:Inv X pins σ H s) (u:Un X.fs [] H H' s.heap h') (hok:HOk X.prog X.w H' h'):Inv X pins σ H' { s with heap:=h',toks:=t' }:=by
  obtain ⟨m,⟨o,es,ep,ho,r⟩,_⟩:=id I.loc
  obtain ⟨sl,hL⟩:=u.any ho I.free (by simp)
  exact I.step (g':=s.gens) (d':=s.drawn) (ch:=[]) (fun _ z=>nomatch z) (fun b o _ hb _ e n=>u.keep b o e n hb (by simp)) (fun b o _ hb _ e n=>u.slot b o e n hb (by simp)) (fun b o _ e n=>u.free b o e n (by simp)) (fun b o _ e=>u.there b o e (by simp)) u.tups u.frzs u.tbls (fun m' hm=>by
    obtain ⟨o',es',ep',ho',r'⟩:=hm
    rw [ho] at ho'; cases ho'
    exact ⟨_,es',ep',hL,r'⟩) hok I.bare
theorem Inv.call {g':Array GenState} {t':Nat} {d':Drawn} {ch:List Addr} (I:Inv X pins σ H s) (u:Un (frs X.stack) ch H H' s.heap h') (hok:HOk X.prog X.w H' h') (hg:AllBare g')
    (hch:∀b∈ch,(b∈X.ex∨X.s₀.heap.objs.size≤b)∧b≠X.env.locals∧(∀x c,X.env.cells.lookup x=some c→c≠b)∧∀p∈X.pn++pins,p.1≠b) :
    Inv X pins σ H' { s with heap:=h',gens:=g',drawn:=d',toks:=t' }:=by
  obtain ⟨m,⟨o,es,ep,ho,r⟩,_⟩:=id I.loc
  obtain ⟨sl,hL⟩:=u.any ho I.free fun z=>(hch _ z).2.1 rfl
  exact I.step (ch:=ch) hch (fun b o hL hb hc e n=>u.keep b o e n (fun z=>(List.mem_cons.mp (I.stkSub b z)).elim hL hb) hc) (fun b o _ _ hc e n=>u.any e n hc) (fun b o hc e n=>u.free b o e n hc) (fun b o hc e=>u.there b o e hc) u.tups u.frzs u.tbls (fun m' hm=>by
    obtain ⟨o',es',ep',ho',r'⟩:=hm
    rw [ho] at ho'; cases ho'
    exact ⟨_,es',ep',hL,r'⟩) hok hg
theorem Inv.turned {t':Nat} {it:Addr} (I:Inv X pins σ H s) (k:∀b o,b≠it→s.heap.get? b=some o→h'.get? b=some o) (hn:H it=none) (hL:it≠X.env.locals)
    (h1:it∈X.ex∨X.s₀.heap.objs.size≤it) (h2:∀x c,X.env.cells.lookup x=some c→c≠it) (h3:∀p∈X.pn++pins,p.1≠it):Inv X pins σ H { s with heap:=h',toks:=t' }:=by
  have nit:∀b u,H b=some u→b≠it:=fun b u e z=>by rw [z,hn] at e; cases e
  refine I.step (g':=s.gens) (d':=s.drawn) (ch:=[it]) (fun b hb=>?_) (fun b o _ _ hc e _=>k b o (fun z=>hc (by simp [z])) e) (fun b o _ _ hc e _=>⟨o.slots,k b o (fun z=>hc (by simp [z])) e⟩) (fun _ _ _ _ n=>n)
    (fun b o hc e=>⟨o,k b o (fun z=>hc (by simp [z])) e⟩) (fun _ _ e=>e) (fun _ _ _ e=>e) (fun b ps e=>⟨#[],by rw [e]; simp⟩) (fun m hm=>?_) (fun b u e=>?_) I.bare
  · have e:b=it:=by simpa using hb
    subst e
    exact ⟨h1,hL,h2,h3⟩
  · obtain ⟨o,es,ep,ho,r⟩:=hm
    exact ⟨o,es,ep,k _ o (Ne.symm hL) ho,r⟩
  · refine (I.hok b u e).stay (fun c v hc q=>k c v ?_ q) (fun _ q=>q) fun _ _ q=>q
    rcases hc with z | z
    · rw [z]; exact nit b u e
    · exact nit c _ z
theorem Inv.tok (I:Inv X pins σ H s) (t:Nat):Inv X pins σ H { s with toks:=t }:=I.un (h':=s.heap) (t':=t) Un.refl I.hok
theorem Inv.kept {t':Nat} (I:Inv X pins σ H s) (k:∀b u,s.heap.get? b=some u→h'.get? b=some u):Inv X pins σ H { s with heap:=h',toks:=t' }:=I.un (Un.kept k) (I.hok.kept k)
theorem Inv.laid {a:Addr} {o:HO} {t':Nat} (I:Inv X pins σ H s) (k:∀b u,s.heap.get? b=some u→h'.get? b=some u) (hp:s.heap.objs.size≤a) (new:ObjOk X.prog X.w (upd H a o) h' a o) :
    Inv X pins σ (upd H a o) { s with heap:=h',toks:=t' }:=I.un (Un.laid k hp (I.hok.fresh hp)) (I.hok.laid k hp new)
theorem Inv.write {x e:Addr} {o:HO} {t':Nat} (I:Inv X pins σ H s) (mu:Mut (H x)) (he:e=x∨H e=some (.own x)) (k:∀b u,b≠e→s.heap.get? b=some u→h'.get? b=some u) (heo:∃u,h'.get? e=some u)
    (new:ObjOk X.prog X.w (upd H x o) h' x o):Inv X pins σ (upd H x o) { s with heap:=h',toks:=t' }:=I.un (Un.write mu he k heo) (I.hok.write mu he k heo new)
theorem Inv.pins_of {pins':List (Addr×Obj)} (I:Inv X pins σ H s) (h:∀p∈pins',s.heap.get? p.1=some p.2∧H p.1=none∧p.1≠X.env.locals∧p.1∉X.fs∧∀v,p.2.data≠.cell v):Inv X pins' σ H s:=
  ⟨I.ok,I.os,I.bare,I.base,I.loc,I.cell,I.free,I.freeC,fun p hp=>(List.mem_append.mp hp).elim (fun z=>I.pin p (List.mem_append_left _ z)) (h p),I.hok,I.len⟩
theorem ZkQ {N:List Str} (hN:N.Nodup) {i j:Nat} {x:Str} (a:N[i]?=some x) (b:N[j]?=some x):i=j:=by
  obtain ⟨h1,e1⟩:=List.getElem?_eq_some_iff.mp a
  obtain ⟨h2,e2⟩:=List.getElem?_eq_some_iff.mp b
  exact (List.getElem_inj hN).mp (e1.trans e2.symm)
theorem ZmS {M:Model} {A:Around} {E:Value→Shared→Prop} {i:Nat} {x:Str} {v:V} {u:Value} {Q:Unit→Shared→Prop} (I:Inv X pins σ H s) (hN:X.N.Nodup) (hi:X.N[i]?=some x) (hx:Loc X.env.scope x) (r:RelV v u)
    (h:∀s',Inv X pins (σ.set i (some v)) H s'→(∃a,Heap.SameBut a s.heap s'.heap∧(a=X.env.locals∨X.env.cells.lookup x=some a))→Q () s') (hf:X.fn x=true∨X.env.scope.names.lookup x=some .local:=by first | exact .inl rfl | exact .inr rfl | assumption):wpAny M A (storeName X.env x u) Q E s:=by
  obtain ⟨m,hn,hl⟩:=id I.loc
  have hcls:(X.env.scope.kind == .class || (X.env.scope.kind == .module && X.env.locals != X.env.globals))=false:=by rw [I.ok.kind]; rfl
  have hiσ:i < σ.length:=by rw [I.len]; exact (List.getElem?_eq_some_iff.mp hi).1
  have cne:=I.cne
  have tracked:∀{a:Addr} {h':Heap},(∃o,s.heap.get? a=some o∧H a=none)→Heap.SameBut a s.heap h'→HOk X.prog X.w H h':=fun {a h'} ha hs b ob e=>by
    obtain ⟨_,_,hfree⟩:=ha
    refine (I.hok b ob e).stay (fun c w' hc q=>(hs.2 c ?_).trans q) (fun _ q=>q) fun _ _ q=>q
    rintro rfl
    rcases hc with rfl | hc
    · rw [hfree] at e; cases e
    · rw [hfree] at hc; cases hc
  rcases hx with hk | hk
  · refine wpAny_storeName_local hk hn (fun h' hn' hs=>?_) hcls
    obtain ⟨oL,_,_,hoL,_⟩:=id hn
    refine h _ ⟨I.ok,I.os,I.bare,⟨fun b o e n hb hx=>?_,fun b o e n hb hx=>?_,I.base.free,fun b o e hx=>?_,I.base.tups,I.base.frzs,I.base.tbls⟩,⟨_,hn',fun j y v' e1 e2 e3=>?_⟩,fun y c e=>?_,I.free,I.freeC,fun p hp=>?_,tracked ⟨oL,hoL,I.free⟩ hs,by simpa using I.len⟩ ⟨_,hs,.inl rfl⟩
    · exact (hs.2 b (Nat.ne_of_lt (Nat.lt_of_lt_of_le (Heap.lt_size e) I.ok.above))).trans (I.base.keep b o e n hb hx)
    · obtain ⟨sl,e1⟩:=I.base.slot b o e n hb hx
      exact ⟨sl,(hs.2 b (Nat.ne_of_lt (Nat.lt_of_lt_of_le (Heap.lt_size e) I.ok.above))).trans e1⟩
    · obtain ⟨o',e1⟩:=I.base.there b o e hx
      exact ⟨o',(hs.2 b (Nat.ne_of_lt (Nat.lt_of_lt_of_le (Heap.lt_size e) I.ok.above))).trans e1⟩
    · by_cases hj:j=i
      · subst hj
        rw [hi] at e1; cases e1
        rw [List.getElem?_set_self hiσ] at e2
        cases e2
        exact ⟨u,r,.inl ⟨hk,by simp⟩⟩
      · rw [List.getElem?_set_ne (Ne.symm hj)] at e2
        obtain ⟨u',r',q⟩:=hl j y v' e1 e2 e3
        refine ⟨u',r',?_⟩
        rcases q with ⟨k,e⟩ | ⟨k,c,e,z⟩
        · refine .inl ⟨k,?_⟩
          have:y≠x:=fun e=>hj (ZkQ hN e1 (e ▸ hi))
          simp [this,e]
        · exact .inr ⟨k,c,e,z.sameBut hs (cne y c e)⟩
    · obtain ⟨w',z⟩:=I.cell y c e
      exact ⟨w',z.sameBut hs (cne y c e)⟩
    · obtain ⟨e,n,ne,nf,d⟩:=I.pin p hp
      exact ⟨(hs.2 p.1 ne).trans e,n,ne,nf,d⟩
  · have hfn:X.fn x=true:=by
      rcases hf with z | z
      · exact z
      · rw [z] at hk; cases hk
    obtain ⟨c,hc⟩:=I.ok.has x (.inl hk)
    obtain ⟨w',z⟩:=I.cell x c hc
    refine wpAny_storeName_cell I.ok.kind hk hc z (fun h' hc' hs=>?_)
    obtain ⟨oc,hoc,hocd⟩:=id z
    refine h { s with heap:=h' } ⟨I.ok,I.os,I.bare,⟨fun b o e n hb hx=>?_,fun b o e n hb hx=>?_,I.base.free,fun b o e hx=>?_,I.base.tups,I.base.frzs,I.base.tbls⟩,⟨m,hn.sameBut hs (Ne.symm (cne x c hc)),fun j y v' e1 e2 e3=>?_⟩,fun y c' e=>?_,I.free,I.freeC,fun p hp=>?_,tracked ⟨oc,hoc,I.freeC x c hc⟩ hs,by simpa using I.len⟩ ⟨c,hs,.inr hc⟩
    · exact (hs.2 b (Nat.ne_of_lt (Nat.lt_of_lt_of_le (Heap.lt_size e) (I.ok.cab x c hfn hc)))).trans (I.base.keep b o e n hb hx)
    · obtain ⟨sl,e1⟩:=I.base.slot b o e n hb hx
      exact ⟨sl,(hs.2 b (Nat.ne_of_lt (Nat.lt_of_lt_of_le (Heap.lt_size e) (I.ok.cab x c hfn hc)))).trans e1⟩
    · obtain ⟨o',e1⟩:=I.base.there b o e hx
      exact ⟨o',(hs.2 b (Nat.ne_of_lt (Nat.lt_of_lt_of_le (Heap.lt_size e) (I.ok.cab x c hfn hc)))).trans e1⟩
    · by_cases hj:j=i
      · subst hj
        rw [hi] at e1; cases e1
        rw [List.getElem?_set_self hiσ] at e2
        cases e2
        exact ⟨u,r,.inr ⟨.inl hk,c,hc,hc'⟩⟩
      · rw [List.getElem?_set_ne (Ne.symm hj)] at e2
        obtain ⟨u',r',q⟩:=hl j y v' e1 e2 e3
        refine ⟨u',r',?_⟩
        rcases q with q | ⟨k,c',e,z'⟩
        · exact .inl q
        · refine .inr ⟨k,c',e,z'.sameBut hs ?_⟩
          rintro rfl
          exact hj (ZkQ hN e1 (I.ok.inj _ _ _ e hc ▸ hi))
    · by_cases hcc:c'=c
      · subst hcc; exact ⟨_,hc'⟩
      · obtain ⟨w2,z2⟩:=I.cell y c' e
        exact ⟨w2,z2.sameBut hs hcc⟩
    · obtain ⟨e,n,ne,nf,d⟩:=I.pin p hp
      refine ⟨(hs.2 p.1 ?_).trans e,n,ne,nf,d⟩
      intro q
      rw [q,hoc] at e
      have q':oc=p.2:=Option.some.inj e
      exact d w' (by rw [←q']; exact hocd)
theorem ZkA {M:Model} {A:Around} {E:Value→Shared→Prop} {i:Nat} {x:Str} {v:V} {u:Value} {Q:Unit→Shared→Prop} (I:Inv X pins σ H s) (hN:X.N.Nodup) (hi:X.N[i]?=some x) (hx:Loc X.env.scope x) (r:RelV v u)
    (h:∀s',Inv X pins (σ.set i (some v)) H s'→Q () s') (hf:X.fn x=true∨X.env.scope.names.lookup x=some .local:=by first | exact .inl rfl | exact .inr rfl | assumption):wpAny M A (storeName X.env x u) Q E s:=
  ZmS I hN hi hx r (fun s' I' _=>h s' I') hf
theorem Inv.call' {s':Shared} {ch:List Addr} (I:Inv X pins σ H s) (ho:s'.os=s.os) (u:Un (frs X.stack) ch H H' s.heap s'.heap) (hok:HOk X.prog X.w H' s'.heap) (hg:AllBare s'.gens)
    (hch:∀b∈ch,(b∈X.ex∨X.s₀.heap.objs.size≤b)∧b≠X.env.locals∧(∀x c,X.env.cells.lookup x=some c→c≠b)∧∀p∈X.pn++pins,p.1≠b):Inv X pins σ H' s':=by
  obtain ⟨h',g',d',t',o'⟩:=s'
  have e:o'=s.os:=ho
  subst e
  exact I.call (g':=g') (t':=t') (d':=d') u hok hg hch
end
abbrev XK:=Value→Option Addr→Hp→Prop
abbrev St:=List (Option V)
abbrev VK:=V→Hp→Prop
abbrev TE:=St→Hp→VK→Prop
abbrev TT:=St→Hp→(Bool→Hp→Prop)→Prop
abbrev TA:=St→Hp→(List V→Hp→Prop)→Prop
structure ZeM where
  nx:St→Hp→Prop
  rt:VK
  bk:St→Hp→Prop:=fun _ _=>False
  ct:St→Hp→Prop:=fun _ _=>False
abbrev TS:=ZeM→St→Hp→Prop
def EP (X:Cx) (pins:List (Addr×Obj)) (σ:St) (Q:VK) (u:Value) (s':Shared):Prop:=∃v H',Inv X pins σ H' s'∧RelV v u∧Q v H'
def TP (X:Cx) (pins:List (Addr×Obj)) (σ:St) (Q:Bool→Hp→Prop) (b:Bool) (s':Shared):Prop:=∃H',Inv X pins σ H' s'∧Q b H'
def AP (X:Cx) (pins:List (Addr×Obj)) (σ:St) (Q:List V→Hp→Prop) (us:List Value) (s':Shared):Prop:=∃vs H',Inv X pins σ H' s'∧Vals vs us∧Q vs H'
def SP (X:Cx) (pins:List (Addr×Obj)) (D:ZeM) (f:Flow) (s':Shared):Prop:=
  match f with
  | .next=>∃σ' H',Inv X pins σ' H' s'∧D.nx σ' H'
  | .brk=>∃σ' H',Inv X pins σ' H' s'∧D.bk σ' H'
  | .cont=>∃σ' H',Inv X pins σ' H' s'∧D.ct σ' H'
  | .ret u=>∃v σ' H',Inv X pins σ' H' s'∧RelV v u∧D.rt v H'
def PE (X:Cx) (e:Expr) (t:TE):Prop:=
  ∀(pins:List (Addr×Obj)) (s:Shared) (σ:St) (H:Hp) (Q:VK),Inv X pins σ H s→t σ H Q→wpAny (model X.prog X.w) X.A (eval e X.env) (EP X pins σ Q) X.xe s
def PT (X:Cx) (e:Expr) (t:TT):Prop:=
  ∀(pins:List (Addr×Obj)) (s:Shared) (σ:St) (H:Hp) (Q:Bool→Hp→Prop),Inv X pins σ H s→t σ H Q→wpAny (model X.prog X.w) X.A (isTrue e X.env (eval e X.env)) (TP X pins σ Q) X.xe s
def PW (X:Cx) (e:Expr) (t:TT):Prop:=
  ∀(whole:Sem Value) (pins:List (Addr×Obj)) (s:Shared) (σ:St) (H:Hp) (Q:Bool→Hp→Prop),Inv X pins σ H s→t σ H Q→wpAny (model X.prog X.w) X.A (isTrue e X.env whole) (TP X pins σ Q) X.xe s
theorem PW.pt {X:Cx} {e:Expr} {t:TT} (h:PW X e t):PT X e t:=h _
def PA (X:Cx) (es:List Expr) (t:TA):Prop:=
  ∀(pos:Pos) (pins:List (Addr×Obj)) (s:Shared) (σ:St) (H:Hp) (Q:List V→Hp→Prop),Inv X pins σ H s→t σ H Q→wpAny (model X.prog X.w) X.A (spliced (backTo pos (starEach es X.env))) (AP X pins σ Q) X.xe s
def PS (X:Cx) (st:Stmt) (t:TS):Prop:=
  ∀(pins:List (Addr×Obj)) (s:Shared) (σ:St) (H:Hp) (D:ZeM),Inv X pins σ H s→t D σ H→wpAny (model X.prog X.w) X.A (exec st X.env) (SP X pins D) X.xe s
def PSs (X:Cx) (st:List Stmt) (t:TS):Prop:=
  ∀(pins:List (Addr×Obj)) (s:Shared) (σ:St) (H:Hp) (D:ZeM),Inv X pins σ H s→t D σ H→wpAny (model X.prog X.w) X.A (execs st X.env) (SP X pins D) X.xe s
theorem thn {α:Type} {t:Sem α} {Q Q':α→Shared→Prop} {M:Model} {A:Around} {E:Value→Shared→Prop} {s:Shared} (h:wpAny M A t Q E s) (hQ:∀a s,Q a s→Q' a s):wpAny M A t Q' E s:=wpAny_mono h hQ fun _ _ x=>x
end L2
namespace L2
open PySem PySem.Spec PyProof.Rows
section
variable {X:Cx}
theorem bin {a b:Expr} {ta tb:TE} (ha:PE X a ta) (hb:PE X b tb) {pins:List (Addr×Obj)} {s:Shared} {σ:St} {H:Hp} {R:V→V→Hp→Prop} (I:Inv X pins σ H s) (h:ta σ H fun x H1=>tb σ H1 fun y H2=>R x y H2)
    {α:Type} {Q:α→Shared→Prop} {f:Value→Value→Sem α}
    (hf:∀v u s2 x y H2,Inv X pins σ H2 s2→RelV x v→RelV y u→R x y H2→wpAny (model X.prog X.w) X.A (f v u) Q X.xe s2) :
    wpAny (model X.prog X.w) X.A (eval a X.env) (fun v s₁=>wpAny (model X.prog X.w) X.A (eval b X.env) (fun u s₂=>wpAny (model X.prog X.w) X.A (f v u) Q X.xe s₂) X.xe s₁) X.xe s:=by
  refine thn (ha pins s σ H _ I h) fun v s1 ⟨x,H1,I1,r1,q1⟩=>?_
  refine thn (hb pins s1 σ H1 _ I1 q1) fun u s2 ⟨y,H2,I2,r2,q2⟩=>?_
  exact hf v u s2 x y H2 I2 r1 r2 q2
def ZyA (i:Nat):TE:=fun σ H Q=>∃v,σ[i]?=some (some v)∧Q v H
def tC (v:V):TE:=fun _ H Q=>Q v H
theorem Zph {i:Nat} {x:Str} {pos:Pos} (hN:X.N[i]?=some x) (hv:Vis X.env.scope x) (hd:(x == ("__debug__":Str))=false:=by decide) (hcd:(x == ("__classdict__":Str))=false:=by decide):PE X (.Name x pos) (ZyA i):=by
  intro pins s σ H Q I h
  obtain ⟨v,e,h⟩:=h
  obtain ⟨m,hn,hl⟩:=I.loc
  obtain ⟨u,r,l⟩:=hl i x v hN e hv
  have fin:EP X pins σ Q u s:=⟨v,H,I,r,h⟩
  rcases l with ⟨hk,hm⟩ | ⟨hk,c,hc,hcell⟩
  · exact wpAny_Name (wpAny_loadName_local I.ok.kind hk hn hm fin) hd
  · rcases hk with hk | hk
    · exact wpAny_Name (wpAny_loadName_cell I.ok.kind hk hc hcell fin) hd
    · exact wpAny_Name (wpAny_loadName_free I.ok.kind hk hc hcell fin hcd) hd
theorem Ztt {i j pos}:PE X (.Constant (.int i) j pos) (tC (.int i)):=fun _ _ _ H _ I h=>wpAny_Constant_int ⟨.int i,H,I.tok _,⟨_,rfl⟩,h⟩
theorem Zve {b j pos}:PE X (.Constant (.bool b) j pos) (tC (.bl b)):=fun _ _ _ H _ I h=>Constant_bool ⟨.bl b,H,I,rfl,h⟩
theorem Zts {j pos}:PE X (.Constant .none j pos) (tC .non):=fun _ _ _ H _ I h=>Constant_none ⟨.non,H,I,rfl,h⟩
theorem Ztq {x j pos}:PE X (.Constant (.str x) j pos) (tC (.str x)):=fun _ _ _ H _ I h=>Calls.Constant_str ⟨.str x,H,I.tok _,⟨_,rfl⟩,h⟩
def Gl (X:Cx) (x:Str):Prop:=X.env.kindOf x=some .globalImplicit
theorem ZgX {E:Value→Shared→Prop} {pins:List (Addr×Obj)} {s:Shared} {σ:St} {H:Hp} {x:Str} {u:Value} {pos:Pos} {Q:Value→Shared→Prop} (I:Inv X pins σ H s) (hg:Gl X x) (hm:X.mg x=some u) (h:Q u s)
    (hd:(x == ("__debug__":Str))=false:=by decide):wpAny (model X.prog X.w) X.A (eval (.Name x pos) X.env) Q E s:=
  Calls.Name_function_global I.ok.kind hg (Calls.loadGlobal_global (by rw [I.ok.glob]; exact I.mod.glob.keeps I.bk) hm h) hd
theorem Zhq {E:Value→Shared→Prop} {pins:List (Addr×Obj)} {s:Shared} {σ:St} {H:Hp} {x:Str} {u:Value} {pos:Pos} {Q:Value→Shared→Prop} (I:Inv X pins σ H s) (hg:Gl X x) (hm:X.mg x=none) (hv:bootBuiltins x=some u) (h:Q u s)
    (hn:x≠"__name__":=by decide) (hd:(x == ("__debug__":Str))=false:=by decide):wpAny (model X.prog X.w) X.A (eval (.Name x pos) X.env) Q E s:=by
  obtain ⟨mb,h1,h2⟩:=I.mod.blt
  exact Calls.Name_function_global I.ok.kind hg (Calls.loadGlobal_builtin (by rw [I.ok.glob]; exact I.mod.glob.keeps I.bk) hm (by rw [I.ok.blt]; exact h1.keeps I.bk) ((h2 x hn).trans hv) h) hd
theorem Zmc {x:Str} {v:V} {u:Value} {pos:Pos} (hg:Gl X x) (hm:X.mg x=some u) (r:RelV v u) (hd:(x == ("__debug__":Str))=false:=by decide):PE X (.Name x pos) (tC v):=
  fun _ _ _ H _ I h=>ZgX I hg hm ⟨v,H,I,r,h⟩ hd
theorem Zrp {x:Str} {v:V} {u:Value} {pos:Pos} (hg:Gl X x) (hm:X.mg x=none) (hv:bootBuiltins x=some u) (r:RelV v u) (hn:x≠"__name__":=by decide) (hd:(x == ("__debug__":Str))=false:=by decide):PE X (.Name x pos) (tC v):=
  fun _ _ _ H _ I h=>Zhq I hg hm hv ⟨v,H,I,r,h⟩ hn hd
variable {a b:Expr} {ta tb:TE} {pos:Pos}
def PC (X:Cx) (op:CmpOp) (a b:Expr) (t:TE):Prop:=
  ∀(pins:List (Addr×Obj)) (s:Shared) (σ:St) (H:Hp) (Q:VK),Inv X pins σ H s→t σ H Q→
    wpAny (model X.prog X.w) X.A (eval a X.env) (fun v s₁=>wpAny (model X.prog X.w) X.A (eval b X.env) (fun u s₂=>wpAny (model X.prog X.w) X.A (compareOp op v u) (EP X pins σ Q) X.xe s₂) X.xe s₁) X.xe s
theorem ZpD (b:Expr) {op:CmpOp} (h:op≠.In) (h2:op≠.NotIn):behindInMarks op b=false:=by
  have e1:(op == CmpOp.In)=false:=by cases op<;>first | rfl | exact absurd rfl h
  have e2:(op == CmpOp.NotIn)=false:=by cases op<;>first | rfl | exact absurd rfl h2
  cases b<;>simp [behindInMarks,e1,e2]
def tB (t:TE):TT:=fun σ H Q=>t σ H fun x H1=>∃c,x=.bl c∧Q c H1
theorem Zth {op:CmpOp} {t:TE} (h:PC X op a b t) (h1:behindInMarks op b=false:=by first | exact ZpD _ (by decide) (by decide) | rfl):PT X (.Compare a [op] [b] pos) (tB t):=by
  intro pins s σ H Q I hw
  refine wpAny_isTrue_Compare1 (thn (h pins s σ H _ I hw) fun v s1 h1=>thn h1 fun u s2 h2=>thn h2 fun c s3 ⟨x,H1,I1,r1,q1⟩=>?_) h1
  obtain ⟨d,rfl,q⟩:=q1
  cases r1
  exact wpAny_truthy_bool ⟨H1,I1,q⟩
variable {tA tB':TT} {rest:List Expr}
def ZyL (t u:TT):TT:=fun σ H Q=>t σ H fun c H1=>if c=true then u σ H1 Q else Q false H1
def tOr (t u:TT):TT:=fun σ H Q=>t σ H fun c H1=>if c=true then Q true H1 else u σ H1 Q
def ZyG (t:TT):TT:=fun σ H Q=>t σ H fun c H1=>Q (!c) H1
theorem Zq9 (ha:PT X a tA):PW X (.BoolOp .And [a] pos) tA:=by
  intro wh pins s σ H Q I h
  refine isTrue_and (thn (ha pins s σ H Q I h) fun c s1 e=>?_)
  cases c with
  | true=>exact isTrue_and_nil e
  | false=>exact e
theorem Ztd (ha:PT X a tA):PW X (.BoolOp .Or [a] pos) tA:=by
  intro wh pins s σ H Q I h
  refine isTrue_or (thn (ha pins s σ H Q I h) fun c s1 e=>?_)
  cases c with
  | false=>exact isTrue_or_nil e
  | true=>exact e
theorem Zte (ha:PT X a tA) (hb:PW X (.BoolOp .And (b::rest) pos) tB'):PW X (.BoolOp .And (a::b::rest) pos) (ZyL tA tB'):=by
  intro wh pins s σ H Q I h
  refine isTrue_and (thn (ha pins s σ H _ I h) fun c s1 ⟨H1,I1,q1⟩=>?_)
  cases c with
  | true=>exact hb wh pins s1 σ H1 Q I1 q1
  | false=>exact ⟨H1,I1,q1⟩
theorem Zu4 (ha:PT X a tA) (hb:PW X (.BoolOp .Or (b::rest) pos) tB'):PW X (.BoolOp .Or (a::b::rest) pos) (tOr tA tB'):=by
  intro wh pins s σ H Q I h
  refine isTrue_or (thn (ha pins s σ H _ I h) fun c s1 ⟨H1,I1,q1⟩=>?_)
  cases c with
  | true=>exact ⟨H1,I1,q1⟩
  | false=>exact hb wh pins s1 σ H1 Q I1 q1
theorem Ztg (ha:PT X a tA):PT X (.UnaryOp .Not a pos) (ZyG tA):=by
  intro pins s σ H Q I h
  exact isTrue_not (ha pins s σ H (fun c H1=>Q (!c) H1) I h)
def ZuU (ta tb:TE):TE:=fun σ H Q=>ta σ H fun x H1=>∃c,x=.bl c∧if c=true then tb σ H1 Q else Q (.bl false) H1
def ZyF (ta tb:TE):TE:=fun σ H Q=>ta σ H fun x H1=>∃c,x=.bl c∧if c=true then Q (.bl true) H1 else tb σ H1 Q
theorem Ztr {op} {t:TE} (h:PE X a t):PE X (.BoolOp op [a] pos) t:=fun pins s σ H Q I hw=>BoolOp_one (h pins s σ H Q I hw)
theorem Ztv (ha:PE X a ta) (hb:PE X (.BoolOp .And (b::rest) pos) tb):PE X (.BoolOp .And (a::b::rest) pos) (ZuU ta tb):=by
  intro pins s σ H Q I h
  refine BoolOp_and (thn (ha pins s σ H _ I h) fun v s1 ⟨x,H1,I1,r1,q1⟩=>?_)
  obtain ⟨c,rfl,q1⟩:=q1
  cases r1
  refine wpAny_truthy_bool ?_
  cases c with
  | true=>exact hb pins s1 σ H1 Q I1 q1
  | false=>exact ⟨.bl false,H1,I1,rfl,q1⟩
theorem Zva (ha:PE X a ta) (hb:PE X (.BoolOp .Or (b::rest) pos) tb):PE X (.BoolOp .Or (a::b::rest) pos) (ZyF ta tb):=by
  intro pins s σ H Q I h
  refine BoolOp_or (thn (ha pins s σ H _ I h) fun v s1 ⟨x,H1,I1,r1,q1⟩=>?_)
  obtain ⟨c,rfl,q1⟩:=q1
  cases r1
  refine wpAny_truthy_bool ?_
  cases c with
  | false=>exact hb pins s1 σ H1 Q I1 q1
  | true=>exact ⟨.bl true,H1,I1,rfl,q1⟩
def tIf (t:TT) (ta tb:TE):TE:=fun σ H Q=>t σ H fun c H1=>if c=true then ta σ H1 Q else tb σ H1 Q
theorem Zpl {c:Expr} (hc:PT X c tA) (ha:PE X a ta) (hb:PE X b tb):PE X (.IfExp c a b pos) (tIf tA ta tb):=by
  intro pins s σ H Q I h
  refine wpAny_IfExp (thn (hc pins s σ H _ I h) fun d s1 ⟨H1,I1,q1⟩=>?_)
  cases d with
  | true=>exact ha pins s1 σ H1 Q I1 q1
  | false=>exact hb pins s1 σ H1 Q I1 q1
end
end L2
namespace L2
open PySem PySem.Spec PyProof.Rows
def SqL (K:PySem.W.Frag) (H:Hp) (a:Addr) (xs:List V):Prop:=
  Rd H a (.lst xs)∨
    ∃(o:Obj) (its:Array Value) (n:Nat),K.lookup a=some o∧o.cls=.type "list"∧o.dict=none∧o.data=.seq its n∧its.size≤sizeLine∧Vals xs its.toList
def SqT (K:PySem.W.Frag) (H:Hp) (a:Addr) (xs:List V):Prop:=
  Rd H a (.tup xs)∨
    ∃(o:Obj) (its:Array Value) (n:Nat),K.lookup a=some o∧o.cls=.type "tuple"∧o.data=.seq its n∧its.size≤sizeLine∧Vals xs its.toList
def Zzn:Value→Option V
  | .none=>some .non
  | .bool b=>some (.bl b)
  | .int i _=>some (.int i)
  | .str x _=>some (.str x)
  | .bytes b _=>some (.byt b)
  | .float b _=>some (.flt b)
  | .ref a=>some (.ref a)
  | .type n=>some (.ty n)
  | _=>none
theorem RelV.abs {x:V} {u:Value} (r:RelV x u):Zzn u=some x:=by
  cases x with
  | non=>cases r; rfl
  | bl _=>cases r; rfl
  | int _=>obtain ⟨t,rfl⟩:=r; rfl
  | str _=>obtain ⟨t,rfl⟩:=r; rfl
  | byt _=>obtain ⟨t,rfl⟩:=r; rfl
  | flt _=>obtain ⟨t,rfl⟩:=r; rfl
  | ref _=>cases r; rfl
  | ty _=>cases r; rfl
theorem RelV.inj {x y:V} {u:Value} (r:RelV x u) (q:RelV y u):x=y:=Option.some.inj (r.abs.symm.trans q.abs)
theorem Vals.inj:∀{xs ys:List V} {us:List Value},Vals xs us→Vals ys us→xs=ys
  | _,_,_,.nil,.nil=>rfl
  | _,_,_,.cons r t,.cons r' t'=>by rw [r.inj r',Vals.inj t t']
section
variable {X:Cx} {pins:List (Addr×Obj)} {σ:St} {H:Hp} {s:Shared} {a:Addr} {xs ys:List V}
theorem SqL.of {K:PySem.W.Frag} (h:H a=some (.lst xs)):SqL K H a xs:=.inl (.inl h)
theorem SqT.of {K:PySem.W.Frag} (h:H a=some (.tup xs)):SqT K H a xs:=.inl (.inl h)
theorem Inv.list (I:Inv X pins σ H s) (h:SqL X.K H a xs):∃its:List Value,Vals xs its∧PlainL s.heap a its.toArray∧xs.length≤sizeLine:=by
  rcases h with h | ⟨o,its,n,hk,hc,hd,hs,hz,r⟩
  · obtain ⟨z,its,n,r,e⟩:=h.ok I.hok
    exact ⟨its,r,⟨_,n,e,rfl,rfl,rfl⟩,z⟩
  · refine ⟨its.toList,r,⟨o,n,I.kIn a o hk,hc,hd,by simpa using hs⟩,?_⟩
    have e:=r.length
    simp only [Array.length_toList] at e
    omega
theorem Inv.tuple (I:Inv X pins σ H s) (h:SqT X.K H a xs):∃its:List Value,Vals xs its∧IsTup s.heap a its.toArray∧xs.length≤sizeLine:=by
  rcases h with h | ⟨o,its,n,hk,hc,hs,hz,r⟩
  · obtain ⟨z,its,r,p⟩:=h.ok I.hok
    exact ⟨its,r,p,z⟩
  · refine ⟨its.toList,r,⟨o,I.kIn a o hk,hc,n,by simpa using hs⟩,?_⟩
    have e:=r.length
    simp only [Array.length_toList] at e
    omega
theorem Inv.list_inj (I:Inv X pins σ H s) (h:SqL X.K H a xs) (h':SqL X.K H a ys):xs=ys:=by
  obtain ⟨its,r,⟨o,n,e,_,_,d⟩,_⟩:=I.list h
  obtain ⟨its',r',⟨o',n',e',_,_,d'⟩,_⟩:=I.list h'
  rw [e] at e'; cases e'
  rw [d] at d'
  injection d' with d1 _
  have:its=its':=by simpa using congrArg Array.toList d1
  subst this
  exact r.inj r'
theorem Inv.tuple_inj (I:Inv X pins σ H s) (h:SqT X.K H a xs) (h':SqT X.K H a ys):xs=ys:=by
  obtain ⟨its,r,⟨o,e,_,n,d⟩,_⟩:=I.tuple h
  obtain ⟨its',r',⟨o',e',_,n',d'⟩,_⟩:=I.tuple h'
  rw [e] at e'; cases e'
  rw [d] at d'
  injection d' with d1 _
  have:its=its':=by simpa using congrArg Array.toList d1
  subst this
  exact r.inj r'
end
abbrev Cx.wish (X:Cx) (E:Value→Shared→Prop):Cx:={ X with xe:=E }
abbrev Cx.nox (X:Cx):Cx:=X.wish fun _ _=>False
theorem Cx.Ok.wish {X:Cx} (ok:X.Ok) (E:Value→Shared→Prop):(X.wish E).Ok:=
  ⟨ok.mod,ok.kind,ok.glob,ok.blt,ok.above,ok.inj,ok.has,ok.cab,ok.hd,ok.frames,ok.stk,ok.exf,ok.bs,ok.bsz,ok.noex,ok.exfs,ok.funs,ok.frf⟩
theorem Cx.Ok.unwish {X:Cx} {E:Value→Shared→Prop} (ok:(X.wish E).Ok):X.Ok:=
  ⟨ok.mod,ok.kind,ok.glob,ok.blt,ok.above,ok.inj,ok.has,ok.cab,ok.hd,ok.frames,ok.stk,ok.exf,ok.bs,ok.bsz,ok.noex,ok.exfs,ok.funs,ok.frf⟩
section
variable {X:Cx} {pins:List (Addr×Obj)} {σ:St} {H:Hp} {s:Shared} {E:Value→Shared→Prop}
theorem Inv.wish (I:Inv X pins σ H s) (E:Value→Shared→Prop):Inv (X.wish E) pins σ H s:=⟨I.ok.wish E,I.os,I.bare,I.base,I.loc,I.cell,I.free,I.freeC,I.pin,I.hok,I.len⟩
theorem Inv.unwish (I:Inv (X.wish E) pins σ H s):Inv X pins σ H s:=⟨I.ok.unwish,I.os,I.bare,I.base,I.loc,I.cell,I.free,I.freeC,I.pin,I.hok,I.len⟩
theorem SP.unwish {D:ZeM} {f:Flow} {s':Shared} (h:SP (X.wish E) pins D f s'):SP X pins D f s':=by
  cases f with
  | next=>obtain ⟨σ',H',I,q⟩:=h; exact ⟨σ',H',I.unwish,q⟩
  | brk=>obtain ⟨σ',H',I,q⟩:=h; exact ⟨σ',H',I.unwish,q⟩
  | cont=>obtain ⟨σ',H',I,q⟩:=h; exact ⟨σ',H',I.unwish,q⟩
  | ret u=>obtain ⟨v,σ',H',I,r,q⟩:=h; exact ⟨v,σ',H',I.unwish,r,q⟩
theorem PE.nox {e:Expr} {t:TE} (h:PE X.nox e t):PE X e t:=fun pins s σ H Q I hw=>
  wpAny_mono (h pins s σ H Q (I.wish _) hw) (fun _ _ ⟨v,H',I',r,q⟩=>⟨v,H',I'.unwish,r,q⟩) fun _ _ z=>False.elim z
theorem PT.nox {e:Expr} {t:TT} (h:PT X.nox e t):PT X e t:=fun pins s σ H Q I hw=>
  wpAny_mono (h pins s σ H Q (I.wish _) hw) (fun _ _ ⟨H',I',q⟩=>⟨H',I'.unwish,q⟩) fun _ _ z=>False.elim z
theorem PSs.nox {st:List Stmt} {t:TS} (h:PSs X.nox st t):PSs X st t:=fun pins s σ H D I hw=>
  wpAny_mono (h pins s σ H D (I.wish _) hw) (fun _ _ q=>q.unwish) fun _ _ z=>False.elim z
end
section
variable {X:Cx} {st:Stmt} {rest:List Stmt} {t u:TS} {e:Expr} {te:TE} {pos:Pos}
def ZuQ:TS:=fun D σ H=>D.nx σ H
def ZyD (t u:TS):TS:=fun D σ H=>t { D with nx:=u D } σ H
theorem Zrd:PSs X [] ZuQ:=fun _ _ σ H _ I h=>wpAny_execs_nil ⟨σ,H,I,h⟩
theorem Zpa (h1:PS X st t) (h2:PSs X rest u):PSs X (st::rest) (ZyD t u):=by
  intro pins s σ H D I h
  refine wpAny_execs_cons (thn (h1 pins s σ H { D with nx:=u D } I h) fun f s1 q=>?_)
  cases f with
  | next=>
    obtain ⟨σ',H',I',q⟩:=q
    exact h2 pins s1 σ' H' D I' q
  | ret v=>exact q
  | brk=>exact q
  | cont=>exact q
theorem Zrc (h1:PS X st t):PSs X [st] t:=by
  intro pins s σ H D I h
  refine wpAny_execs_cons (thn (h1 pins s σ H D I h) fun f s1 q=>?_)
  cases f with
  | next=>exact wpAny_execs_nil q
  | ret v=>exact q
  | brk=>exact q
  | cont=>exact q
theorem Inv.quiet {pins:List (Addr×Obj)} {σ:St} {H:Hp} {s:Shared} (I:Inv X pins σ H s):interactive X.env=false:=by simp [interactive,I.ok.kind]
def ZuR (te:TE):TS:=fun D σ H=>te σ H fun _ H1=>D.nx σ H1
theorem Zl9 (he:PE X e te) (hs:swapsWith e none pos.line X.env=pure false:=by rfl):PS X (.Expr e pos) (ZuR te):=by
  intro pins s σ H D I h
  exact wpAny_Expr_any (thn (he pins s σ H _ I h) fun v s1 ⟨x,H1,I1,r1,q1⟩=>⟨σ,H1,I1,q1⟩) I.quiet hs
def ZyE (te:TE):TS:=fun D σ H=>te σ H D.rt
theorem Zti (he:PE X e te):PS X (.Return (some e) pos) (ZyE te):=by
  intro pins s σ H D I h
  exact wpAny_Return_some (thn (he pins s σ H _ I h) fun v s1 ⟨x,H1,I1,r1,q1⟩=>⟨x,σ,H1,I1,r1,q1⟩)
def ZuO:TS:=fun D _ H=>D.rt .non H
theorem Zre:PS X (.Return none pos) ZuO:=fun _ _ σ H _ I h=>wpAny_Return_none ⟨.non,σ,H,I,rfl,h⟩
def ZyI (c:TT) (t u:TS):TS:=fun D σ H=>c σ H fun b H1=>if b=true then t D σ H1 else u D σ H1
theorem Zu6 {c:Expr} {a b:List Stmt} {tc:TT} (hc:PT X c tc) (ha:PSs X a t) (hb:PSs X b u):PS X (.If c a b pos) (ZyI tc t u):=by
  intro pins s σ H D I h
  refine wpAny_If (thn (hc pins s σ H _ I h) fun d s1 ⟨H1,I1,q1⟩=>?_)
  cases d with
  | true=>exact ha pins s1 σ H1 D I1 q1
  | false=>exact hb pins s1 σ H1 D I1 q1
end
abbrev TG:=V→St→Hp→(St→Hp→Prop)→Prop
abbrev TGs:=List V→St→Hp→(St→Hp→Prop)→Prop
def PG (X:Cx) (target:Expr) (t:TG):Prop:=
  ∀(pins:List (Addr×Obj)) (s:Shared) (σ:St) (H:Hp) (v:V) (u:Value) (Q:St→Hp→Prop),Inv X pins σ H s→RelV v u→t v σ H Q→
    wpAny (model X.prog X.w) X.A (assign target X.env u) (fun _ s'=>∃σ' H',Inv X pins σ' H' s'∧Q σ' H') X.xe s
def PGs (X:Cx) (ts:List Expr) (t:TGs):Prop:=
  ∀(pins:List (Addr×Obj)) (s:Shared) (σ:St) (H:Hp) (vs:List V) (us:List Value) (Q:St→Hp→Prop),Inv X pins σ H s→Vals vs us→t vs σ H Q→
    wpAny (model X.prog X.w) X.A (assignInOrder ((assignEach ts X.env).map (·.2)) us) (fun _ s'=>∃σ' H',Inv X pins σ' H' s'∧Q σ' H') X.xe s
section
variable {X:Cx} {pos:Pos}
def Zk4 (i:Nat):TG:=fun v σ H Q=>Q (σ.set i (some v)) H
theorem Zfr {i:Nat} {x:Str} (hN:X.N.Nodup) (hi:X.N[i]?=some x) (hx:Loc X.env.scope x) (hf:X.fn x=true∨X.env.scope.names.lookup x=some .local:=by first | exact .inl rfl | exact .inr rfl | assumption):PG X (.Name x pos) (Zk4 i):=by
  intro pins s σ H v u Q I r h
  exact wpAny_assign_Name (ZkA I hN hi hx r (fun s' I'=>⟨_,H,I',h⟩) hf)
def Zzf:TGs:=fun vs σ H Q=>vs=[]∧Q σ H
def ZvE (t:TG) (u:TGs):TGs:=fun vs σ H Q=>∃v r,vs=v::r∧t v σ H fun σ' H'=>u r σ' H' Q
theorem Zrk:PGs X [] Zzf:=by
  intro pins s σ H vs us Q I r h
  obtain ⟨e,h⟩:=h
  subst e
  cases r
  exact assignInOrder_nil ⟨σ,H,I,h⟩
theorem ZkI {e:Expr} {es:List Expr} {t:TG} {u:TGs} (h1:PG X e t) (h2:PGs X es u)
    (hs:(assignEach (e::es) X.env).map (·.2)=assign e X.env::(assignEach es X.env).map (·.2):=by rfl):PGs X (e::es) (ZvE t u):=by
  intro pins s σ H vs us Q I r h
  obtain ⟨v,vr,e1,h⟩:=h
  subst e1
  cases r with
  | cons r rr=>
    rw [hs]
    refine assignInOrder_cons (thn (h1 pins s σ H _ _ _ I r h) fun _ s1 ⟨σ1,H1,I1,q1⟩=>?_)
    exact h2 pins s1 σ1 H1 _ _ Q I1 rr q1
def Zze (K:PySem.W.Frag) (n:Nat) (t:TGs):TG:=fun v σ H Q=>∃a xs,v=.ref a∧SqT K H a xs∧xs.length=n∧t xs σ H Q
theorem Zto {es:List Expr} {k:Nat} {t:TGs} {n:Nat} (hc:X.calm=true) (h:PGs X es t)
    (hn:(assignEach es X.env).length=n:=by rfl) (hst:(assignEach es X.env).findIdx? (·.1)=none:=by rfl):PG X (.Tuple es k pos) (Zze X.K n t):=by
  intro pins s σ H v u Q I r hw
  obtain ⟨a,xs,e1,hq,hl,hw⟩:=hw
  subst e1
  cases r
  obtain ⟨its,rv,ht,hz⟩:=I.tuple hq
  refine assign_Tuple_tuple (I.ok.hd hc) ht (by simp [hn,←hl,rv.length]) hst fun h' hx=>?_
  have I1:Inv X pins σ H { s with heap:=h' }:=I.kept (t':=s.toks) fun b o e=>hx b o (Nat.ne_of_lt (Heap.lt_size e)) e
  exact h pins _ σ H xs _ Q I1 (by simpa using rv) hw
def ZuT (te:TE) (g:TG):TS:=fun D σ H=>te σ H fun x H1=>g x σ H1 D.nx
theorem Zpc {i:Nat} {x:Str} {e:Expr} {te:TE} {pos':Pos} (hN:X.N.Nodup) (hi:X.N[i]?=some x) (hx:Loc X.env.scope x) (he:PE X e te) (hs:swapsWith e (some (.Name x pos')) pos.line X.env=pure false:=by rfl) (hf:X.fn x=true∨X.env.scope.names.lookup x=some .local:=by first | exact .inl rfl | exact .inr rfl | assumption) :
    PS X (.Assign [.Name x pos'] e pos) (ZuT te (Zk4 i)):=by
  intro pins s σ H D I h
  refine wpAny_Assign_Name (thn (he pins s σ H _ I h) fun v s1 ⟨y,H1,I1,r1,q1⟩=>?_) hs
  exact ZkA I1 hN hi hx r1 (fun s2 I2=>⟨_,H1,I2,q1⟩) hf
end
section
variable {X:Cx} {pos:Pos}
def Zs1 (c:TT) (tb:TS):TS:=fun D σ H=>∃W:Nat→St→Hp→Prop,(∃m,W m σ H)∧∀m σ H,W m σ H→
  c σ H fun b H1=>if b=true then ∃N:St→Hp→Prop,(∀σ' H',N σ' H'→∃m',m'<m∧W m' σ' H')∧tb { D with nx:=N,ct:=N,bk:=D.nx } σ H1 else D.nx σ H1
theorem Zpb {c:Expr} {body:List Stmt} {tc:TT} {tb:TS} (hp:PassesOwn (model X.prog X.w) X.A X.env X.xe) (hc:PT X c tc) (hb:PSs X body tb):PS X (.While c body [] pos) (Zs1 tc tb):=by
  intro pins s σ H D I h
  obtain ⟨W,⟨m0,w0⟩,turn⟩:=h
  refine wpAny_While (codeAny_whileLoop (fun n s'=>∃σ' H',Inv X pins σ' H' s'∧W n σ' H') ?_ m0 ⟨σ,H,I,w0⟩)
  rintro n s1 ⟨σ1,H1,I1,w1⟩
  refine wpAny_passesOwn hp (thn (hc pins s1 σ1 H1 _ I1 (turn n σ1 H1 w1)) fun b s2 ⟨H2,I2,q2⟩=>?_)
  cases b with
  | true=>
    obtain ⟨N,hN,q2⟩:=q2
    rw [if_pos rfl]
    refine wpAny_passesOwn hp (thn (hb pins s2 σ1 H2 _ I2 q2) fun f s3 q3=>?_)
    cases f with
    | next=>
      obtain ⟨σ3,H3,I3,n3⟩:=q3
      obtain ⟨m',hm,w3⟩:=hN σ3 H3 n3
      exact ⟨m',hm,σ3,H3,I3,w3⟩
    | cont=>
      obtain ⟨σ3,H3,I3,n3⟩:=q3
      obtain ⟨m',hm,w3⟩:=hN σ3 H3 n3
      exact ⟨m',hm,σ3,H3,I3,w3⟩
    | brk=>exact q3
    | ret v=>exact q3
  | false=>
    rw [if_neg Bool.false_ne_true]
    exact wpAny_execs_nil ⟨σ1,H2,I2,q2⟩
end
structure It where
  go:Nat→Hp→Prop
  yld:Nat→Hp→V→Hp→Prop
  stop:Nat→Hp→Prop
def Zh1 (X:Cx) (pins:List (Addr×Obj)) (H:Hp) (b:Addr):Prop:=
  H b=none∧b≠X.env.locals∧b∉X.fs∧(b∈X.ex∨X.s₀.heap.objs.size≤b)∧(∀x c,X.env.cells.lookup x=some c→c≠b)∧∀p∈X.pn++pins,p.1≠b
theorem Inv.fpOk {X:Cx} {pins:List (Addr×Obj)} {σ:St} {H H':Hp} {s:Shared} {b:Addr} (I:Inv X pins σ H s) (hb:s.heap.objs.size≤b) (hn:H' b=none):Zh1 X pins H' b:=by
  refine ⟨hn,Nat.ne_of_gt (Nat.lt_of_lt_of_le I.lt hb),I.nofs hb,.inr (Nat.le_trans I.sz hb),fun x c e z=>?_,fun p hp z=>?_⟩
  · obtain ⟨v,q⟩:=I.cell x c e
    exact absurd (Nat.lt_of_lt_of_le q.lt (by rw [z]; exact hb)) (Nat.lt_irrefl _)
  · exact absurd (Nat.lt_of_lt_of_le (Heap.lt_size (I.pin p hp).1) (by rw [z]; exact hb)) (Nat.lt_irrefl _)
structure Znp (P:Program) (w:World) (K:PySem.W.Frag) (tg:Expr) (J:It) (fp:List Addr) (it:Addr) (tn:Nat→Heap→Prop):Prop where
  mem:it∈fp
  obj:∀i h,tn i h→∀b∈fp,∃o,h.get? b=some o∧∀v,o.data≠.cell v
  keep:∀i h h',tn i h→(∀b∈fp,∀o,h.get? b=some o→h'.get? b=some o)→tn i h'
  item:∀(X:Cx),X.prog=P→X.w=w→X.K=K→X.calm=true→∀(i:Nat) (pins:List (Addr×Obj)) (s:Shared) (σ:St) (H:Hp) (E:Value→Shared→Prop),Inv X pins σ H s→(∀b∈fp,Zh1 X pins H b)→tn i s.heap→J.go i H→
    wpAny (model P w) X.A (pyNext (.ref it)) (fun r s1=>∃u,r=some u∧
      wpAny (model P w) X.A (letOwnedTupleGo tg (.ref it) u) (fun _ s2=>∃x H',Inv X pins σ H' s2∧RelV x u∧J.yld i H x H'∧tn (i+1) s2.heap∧∀b∈fp,H' b=none) E s1) E s
  done:∀(X:Cx),X.prog=P→X.w=w→X.K=K→X.calm=true→∀(i:Nat) (pins:List (Addr×Obj)) (s:Shared) (σ:St) (H:Hp) (E:Value→Shared→Prop),Inv X pins σ H s→(∀b∈fp,Zh1 X pins H b)→tn i s.heap→J.stop i H→
    wpAny (model P w) X.A (pyNext (.ref it)) (fun r s1=>r=none∧Inv X pins σ H s1) E s
  self:∀(A:Around) (i:Nat) (s:Shared) (Q:Value→Shared→Prop) (E:Value→Shared→Prop),tn i s.heap→Q (.ref it) s→wpAny (model P w) A (pyIter (.ref it)) Q E s
abbrev TI:=St→Hp→(It→Hp→Prop)→Prop
def PIE (X:Cx) (pins:List (Addr×Obj)) (σ:St) (tg:Expr) (R:It→Hp→Prop) (itv:Value) (s2:Shared):Prop:=
  ∃(it:Addr) (fp:List Addr) (tn:Nat→Heap→Prop) (J:It) (H':Hp),itv=.ref it∧Inv X pins σ H' s2∧Znp X.prog X.w X.K tg J fp it tn∧tn 0 s2.heap∧(∀b∈fp,Zh1 X pins H' b)∧R J H'
def PI (X:Cx) (tg iter:Expr) (wi:TI):Prop:=
  ∀(pins:List (Addr×Obj)) (s:Shared) (σ:St) (H:Hp) (R:It→Hp→Prop),Inv X pins σ H s→wi σ H R→
    wpAny (model X.prog X.w) X.A (eval iter X.env) (fun v s1=>wpAny (model X.prog X.w) X.A (pyIter v) (PIE X pins σ tg R) X.xe s1) X.xe s
theorem Zp5 {M:Model} {A:Around} {E:Value→Shared→Prop} {s:Shared} {tg:Expr} {it:Addr} {u:Value} {o:Obj} {n:String} {vs:Array Value} {Q:Unit→Shared→Prop} (ho:s.heap.get? it=some o) (hc:o.cls=.type n) (hd:o.data=.fields vs)
    (hn:["enumerate","zip","dict_itemiterator","dict_reverseitemiterator","odict_iterator","itertools.zip_longest","itertools.pairwise"].contains n=false) (hQ:Q () s):wpAny M A (letOwnedTupleGo tg (.ref it) u) Q E s:=by
  unfold letOwnedTupleGo
  cases tg<;>first
    | exact wpAny_pure hQ
    | (cases u<;>first
        | exact wpAny_pure hQ
        | (refine wpAny_bind (wpAny_load ho ?_)
           rw [hc,hd]
           show wpAny M A (if (["enumerate","zip","dict_itemiterator","dict_reverseitemiterator","odict_iterator","itertools.zip_longest","itertools.pairwise"].contains n && vs[0]? == some (rawInt _))=true then _ else _) Q E s
           rw [if_neg (by intro h; rw [hn,Bool.false_and] at h; cases h)]
           exact wpAny_pure hQ))
def Itl (K:PySem.W.Frag) (a:Addr):It:=
  ⟨fun i H=>∃xs x,SqL K H a xs∧xs[i]?=some x,fun i H x H'=>H'=H∧∀xs,SqL K H a xs→xs[i]?=some x,fun i H=>∃xs,SqL K H a xs∧xs.length≤i⟩
def Itt (K:PySem.W.Frag) (a:Addr):It:=
  ⟨fun i H=>∃xs x,SqT K H a xs∧xs[i]?=some x,fun i H x H'=>H'=H∧∀xs,SqT K H a xs→xs[i]?=some x,fun i H=>∃xs,SqT K H a xs∧xs.length≤i⟩
def Itr (lo:Int) (n:Nat):It:=⟨fun i _=>i<n,fun i H x H'=>H'=H∧x=.int (lo+i),fun i _=>n≤i⟩
theorem ZmN {P:Program} {w:World} {K:PySem.W.Frag} {tg:Expr} (a it:Addr):Znp P w K tg (Itl K a) [it] it (fun i h=>h.IsListIter it a i) where
  mem:=by simp
  obj:=fun i h st b hb=>by
    have e:b=it:=by simpa using hb
    subst e
    obtain ⟨o,e,c,d⟩:=st
    exact ⟨o,e,fun v z=>by rw [d] at z; cases z⟩
  keep:=fun i h h' st k=>st.at fun o e=>k it (by simp) o e
  item:=by
    intro X hP hw hK hc i pins s σ H E I hf st hg
    subst hP hw hK
    obtain ⟨xs,x,hq,hx⟩:=hg
    obtain ⟨its,rv,p,hz⟩:=I.list hq
    obtain ⟨u,hu,ru⟩:=rv.get hx
    obtain ⟨f0,f1,f2,f3,f4,f5⟩:=hf it (by simp)
    refine wpAny_pyNext_list_item st p.isList (x:=u) (by simpa using hu) fun h' st' sb=>?_
    have I1:Inv X pins σ H { s with heap:=h' }:=I.turned (t':=s.toks) (fun b o hb e=>(sb.2 b hb).trans e) f0 f1 f3 f4 f5
    obtain ⟨o,e,c,d⟩:=id st'
    exact ⟨u,rfl,Zp5 (s:={ s with heap:=h' }) e c d (by decide) ⟨x,H,I1,ru,⟨rfl,fun ys hy=>by rw [I.list_inj hy hq]; exact hx⟩,st',fun b hb=>(hf b hb).1⟩⟩
  done:=by
    intro X hP hw hK hc i pins s σ H E I hf st hg
    subst hP hw hK
    obtain ⟨xs,hq,hx⟩:=hg
    obtain ⟨its,rv,p,hz⟩:=I.list hq
    obtain ⟨f0,f1,f2,f3,f4,f5⟩:=hf it (by simp)
    have hl:=rv.length
    exact wpAny_pyNext_list_end (I.ok.hd hc) st p.isList (by simp; omega) fun h' eb=>⟨rfl,I.turned (t':=s.toks) (fun b o hb e=>eb b o hb e) f0 f1 f3 f4 f5⟩
  self:=fun _ _ _ _ _ st h=>wpAny_pyIter_listiter st h
theorem Zlo {P:Program} {w:World} {K:PySem.W.Frag} {tg:Expr} (a it:Addr):Znp P w K tg (Itt K a) [it] it (fun i h=>h.IsTupleIter it a i) where
  mem:=by simp
  obj:=fun i h st b hb=>by
    have e:b=it:=by simpa using hb
    subst e
    obtain ⟨o,e,c,d⟩:=st
    exact ⟨o,e,fun v z=>by rw [d] at z; cases z⟩
  keep:=fun i h h' st k=>st.at fun o e=>k it (by simp) o e
  item:=by
    intro X hP hw hK hc i pins s σ H E I hf st hg
    subst hP hw hK
    obtain ⟨xs,x,hq,hx⟩:=hg
    obtain ⟨its,rv,p,hz⟩:=I.tuple hq
    obtain ⟨u,hu,ru⟩:=rv.get hx
    obtain ⟨f0,f1,f2,f3,f4,f5⟩:=hf it (by simp)
    refine wpAny_pyNext_tuple_item st (show s.heap.IsTuple a its.toArray from p) (x:=u) (by simpa using hu) fun h' st' sb=>?_
    have I1:Inv X pins σ H { s with heap:=h' }:=I.turned (t':=s.toks) (fun b o hb e=>(sb.2 b hb).trans e) f0 f1 f3 f4 f5
    obtain ⟨o,e,c,d⟩:=id st'
    exact ⟨u,rfl,Zp5 (s:={ s with heap:=h' }) e c d (by decide) ⟨x,H,I1,ru,⟨rfl,fun ys hy=>by rw [I.tuple_inj hy hq]; exact hx⟩,st',fun b hb=>(hf b hb).1⟩⟩
  done:=by
    intro X hP hw hK hc i pins s σ H E I hf st hg
    subst hP hw hK
    obtain ⟨xs,hq,hx⟩:=hg
    obtain ⟨its,rv,p,hz⟩:=I.tuple hq
    obtain ⟨f0,f1,f2,f3,f4,f5⟩:=hf it (by simp)
    have hl:=rv.length
    exact wpAny_pyNext_tuple_end (I.ok.hd hc) st (show s.heap.IsTuple a its.toArray from p) (by simp; omega) fun h' eb=>⟨rfl,I.turned (t':=s.toks) (fun b o hb e=>eb b o hb e) f0 f1 f3 f4 f5⟩
  self:=fun _ _ _ _ _ st h=>wpAny_pyIter_tupleiter st h
theorem Zlp {P:Program} {w:World} {K:PySem.W.Frag} {tg:Expr} (it:Addr) (lo:Int) (n:Nat):Znp P w K tg (Itr lo n) [it] it (fun i h=>IsRangeIter h it (lo+(i:Nat)*1) ((n:Int)-(i:Nat)) 1) where
  mem:=by simp
  obj:=fun i h st b hb=>by
    have e:b=it:=by simpa using hb
    subst e
    exact ⟨_,st,fun v z=>by
      have z':Data.fields _=Data.cell v:=z
      cases z'⟩
  keep:=fun i h h' st k=>k it (by simp) _ st
  item:=by
    intro X hP hw hK hc i pins s σ H E I hf st hg
    subst hP hw hK
    obtain ⟨f0,f1,f2,f3,f4,f5⟩:=hf it (by simp)
    have W:=Walks.range (prog:=X.prog) (w:=X.w) (I.ok.hd hc) it lo 1 n
    refine W.item i s _ _ hg st fun v h' tk hv st' kk=>?_
    obtain ⟨t,rfl⟩:=hv
    have I1:Inv X pins σ H { s with heap:=h',toks:=tk }:=I.turned (fun b o hb e=>kk b o (by simpa using hb) e) f0 f1 f3 f4 f5
    refine ⟨_,rfl,Zp5 (s:={ s with heap:=h',toks:=tk }) (n:="range_iterator") st' rfl rfl (by decide) ⟨.int (lo+i),H,I1,⟨t,?_⟩,⟨rfl,rfl⟩,st',fun b hb=>(hf b hb).1⟩⟩
    rw [Int.mul_one]
  done:=by
    intro X hP hw hK hc i pins s σ H E I hf st hg
    subst hP hw hK
    obtain ⟨f0,f1,f2,f3,f4,f5⟩:=hf it (by simp)
    exact wpAny_pyNext_range_end (I.ok.hd hc) st (by have:n≤i:=hg; omega) fun h' eb=>⟨rfl,I.turned (t':=s.toks) (fun b o hb e=>eb b o hb e) f0 f1 f3 f4 f5⟩
  self:=fun _ _ _ _ _ st h=>wpAny_pyIter_rangeiter st h
end L2
namespace L2
open PySem PySem.Spec PyProof.Rows
section
variable {X:Cx} {tg:Expr}
theorem Zo5 {pins:List (Addr×Obj)} {σ:St} {H:Hp} {s:Shared} {R:It→Hp→Prop} {E:Value→Shared→Prop} {lo hi:Int} {t u v:Tok} {tk:Nat} (I:Inv X pins σ H s) (h1 : -(2 ^ 62)≤lo) (h2:lo<2 ^ 62) (h3 : -(2 ^ 62)≤hi) (h4:hi<2 ^ 62)
    (q:R (Itr lo (hi-lo).toNat) H):wpAny (model X.prog X.w) X.A (pyIter (.ref s.heap.objs.size)) (PIE X pins σ tg R) E { s with heap:=s.heap.push { cls:=.type "range",data:=.fields #[.int lo t,.int hi u,.int 1 v] },toks:=tk }:=by
  refine wpAny_pyIter_range (IsRange.new ..) (small_one h1 h2 h3 h4) ?_
  have I1:Inv X pins σ H { s with heap:=s.heap.push { cls:=.type "range",data:=.fields #[.int lo t,.int hi u,.int 1 v] },toks:=tk }:=I.kept fun b o e=>Heap.get?_push_of_some _ e
  refine ⟨(s.heap.push { cls:=.type "range",data:=.fields #[.int lo t,.int hi u,.int 1 v] }).objs.size,[(s.heap.push { cls:=.type "range",data:=.fields #[.int lo t,.int hi u,.int 1 v] }).objs.size],_,_,H,rfl,
    I1.kept (t':=tk) fun b o e=>Heap.get?_push_of_some _ e,Zlp _ lo (hi-lo).toNat,?_,fun b hb=>?_,q⟩
  · have e1:lo+((0:Nat):Int)*1=lo:=by simp
    have e2:(((hi-lo).toNat:Nat):Int)-((0:Nat):Int)=Builtin.Range.rangeSize lo hi 1:=by rw [rangeSize_one]; split<;>omega
    show IsRangeIter _ _ (lo+((0:Nat):Int)*1) ((((hi-lo).toNat:Nat):Int)-((0:Nat):Int)) 1
    rw [e1,e2]
    exact Heap.get?_push_size _ rfl
  · have e:b=(s.heap.push { cls:=.type "range",data:=.fields #[.int lo t,.int hi u,.int 1 v] }).objs.size:=by simpa using hb
    subst e
    exact I1.fpOk (Nat.le_refl _) (I1.hok.fresh (Nat.le_refl _))
def Zvz (ta:TA):TI:=fun σ H R=>ta σ H fun vs H1=>∃j:Int,vs=[.int j]∧-(2 ^ 62)≤j∧j<2 ^ 62∧R (Itr 0 j.toNat) H1
theorem ZmY {a:Expr} {ta:TA} {p pos:Pos} (hg:Gl X "range") (hm:X.mg "range"=none) (ha:PA X [a] ta) (hs:starEach [a] X.env=[(false,eval a X.env)]:=by rfl):PI X tg (.Call (.Name "range" p) [a] [] pos) (Zvz ta):=by
  intro pins s σ H R I h
  refine Call_ (Zhq I hg hm boot_range (PyProof.Rows.callWith_type1 (thn (ha pos pins s σ H _ I h) fun us s1 ⟨vs,H1,I1,r1,q1⟩=>?_) hs rfl))
  obtain ⟨j,e,q1,q2,q⟩:=q1
  subst e
  cases r1 with
  | cons r rr=>
    cases rr
    obtain ⟨t,rfl⟩:=r
    exact call_range_1 (Zo5 I1 (by omega) (by omega) q1 q2 (by simpa using q))
def ZyJ (wi:TI) (g:TG) (tb:TS):TS:=fun D σ H=>wi σ H fun J H1=>∃W:Nat→Nat→St→Hp→Prop,(∃m,W 0 m σ H1)∧∀i m σ H,W i m σ H→
  (J.stop i H∧D.nx σ H)∨(J.go i H∧∃N:St→Hp→Prop,(∀σ' H',N σ' H'→∃m',m'<m∧W (i+1) m' σ' H')∧∀x H',J.yld i H x H'→g x σ H' fun σ2 H2=>tb { D with nx:=N,ct:=N,bk:=D.nx } σ2 H2)
def ZiM (fp:List Addr) (h:Heap):List (Addr×Obj):=fp.filterMap fun b=>(h.get? b).map fun o=>(b,o)
theorem ZdM {fp:List Addr} {h:Heap} {b:Addr} {o:Obj} (hb:b∈fp) (e:h.get? b=some o):(b,o)∈ZiM fp h:=List.mem_filterMap.mpr ⟨b,hb,by rw [e]; rfl⟩
theorem Zm2 {fp:List Addr} {h:Heap} {p:Addr×Obj} (hp:p∈ZiM fp h):p.1∈fp∧h.get? p.1=some p.2:=by
  obtain ⟨b,hb,e⟩:=List.mem_filterMap.mp hp
  cases q:h.get? b with
  | none=>rw [q] at e; cases e
  | some o=>
    rw [q] at e
    have e':(b,o)=p:=Option.some.inj e
    subst e'
    exact ⟨hb,q⟩
theorem Inv.pinned {pins:List (Addr×Obj)} {σ:St} {H:Hp} {s:Shared} {fp:List Addr} (I:Inv X pins σ H s) (hf:∀b∈fp,Zh1 X pins H b) (ho:∀b∈fp,∃o,s.heap.get? b=some o∧∀v,o.data≠.cell v):Inv X (pins++ZiM fp s.heap) σ H s:=
  I.pins_of fun p hp=>(List.mem_append.mp hp).elim (fun z=>I.pin p (List.mem_append_right _ z)) fun z=>by
    obtain ⟨hb,e⟩:=Zm2 z
    obtain ⟨f0,f1,f2,_⟩:=hf p.1 hb
    obtain ⟨o,e',d⟩:=ho p.1 hb
    rw [e] at e'; cases e'
    exact ⟨e,f0,f1,f2,d⟩
theorem Inv.unpinned {pins pl:List (Addr×Obj)} {σ:St} {H:Hp} {s:Shared} (I:Inv X (pins++pl) σ H s):Inv X pins σ H s:=I.pins_of fun p hp=>I.pin p (List.mem_append_right _ (List.mem_append_left _ hp))
theorem Zpd {iter:Expr} {body:List Stmt} {wi:TI} {g:TG} {tb:TS} {pos:Pos} (hp:PassesOwn (model X.prog X.w) X.A X.env X.xe) (hc:X.calm=true) (hi:PI X tg iter wi) (hg:PG X tg g) (hb:PSs X body tb)
    (hs:∀x,foldedSetIterable iter X.env x=pure x:=by intro _; rfl):PS X (.For tg iter body [] pos) (ZyJ wi g tb):=by
  intro pins s σ H D I h
  refine wpAny_For (thn (hi pins s σ H _ I h) fun v s1 h1=>thn h1 fun itv s2 h2=>?_) hs
  obtain ⟨it,fp,tn,J,H2,e,I2,T,st2,f2,W,⟨m0,w0⟩,turn⟩:=h2
  subst e
  have stat:∀{H':Hp},(∀b∈fp,H' b=none)→∀b∈fp,Zh1 X pins H' b:=fun hn b hb=>⟨hn b hb,(f2 b hb).2⟩
  refine codeAny_forLoop_any (fun n s'=>∃i σ' H',Inv X pins σ' H' s'∧tn i s'.heap∧(∀b∈fp,H' b=none)∧W i n σ' H') ?_ m0 ⟨0,σ,H2,I2,st2,fun b hb=>(f2 b hb).1,w0⟩
  rintro n s3 ⟨i,σ3,H3,I3,st3,fr3,w3⟩
  rcases turn i n σ3 H3 w3 with ⟨stop,qn⟩ | ⟨go,N,hN,step⟩
  · refine wpAny_passesOwn hp (thn (T.done X rfl rfl rfl hc i pins s3 σ3 H3 X.xe I3 (stat fr3) st3 stop) fun r s4 ⟨hr,I4⟩=>?_)
    subst hr
    exact wpAny_execs_nil ⟨σ3,H3,I4,qn⟩
  · refine wpAny_passesOwn hp (thn (T.item X rfl rfl rfl hc i pins s3 σ3 H3 X.xe I3 (stat fr3) st3 go) fun r s4 ⟨u,hr,h4⟩=>?_)
    subst hr
    refine wpAny_passesOwn hp (thn h4 fun _ s5 ⟨x,H5,I5,r5,y5,st5,fr5⟩=>?_)
    have I5':=I5.pinned (stat fr5) (T.obj _ _ st5)
    refine wpAny_passesOwn hp (thn (hg _ s5 σ3 H5 x u _ I5' r5 (step x H5 y5)) fun _ s6 ⟨σ6,H6,I6,q6⟩=>?_)
    refine wpAny_passesOwn hp (thn (hb _ s6 σ6 H6 _ I6 q6) fun f s7 q7=>?_)
    have again:∀{σ7:St} {H7:Hp},Inv X (pins++ZiM fp s5.heap) σ7 H7 s7→N σ7 H7→∃m,m<n∧∃i σ' H',Inv X pins σ' H' s7∧tn i s7.heap∧(∀b∈fp,H' b=none)∧W i m σ' H':=fun {σ7 H7} I7 n7=>by
      obtain ⟨m',hm,w7⟩:=hN σ7 H7 n7
      refine ⟨m',hm,i+1,σ7,H7,I7.unpinned,T.keep _ _ _ st5 fun b hb o e=>(I7.pin (b,o) (List.mem_append_right _ (List.mem_append_right _ (ZdM hb e)))).1,fun b hb=>?_,w7⟩
      obtain ⟨o,e,d⟩:=T.obj _ _ st5 b hb
      exact (I7.pin (b,o) (List.mem_append_right _ (List.mem_append_right _ (ZdM hb e)))).2.1
    cases f with
    | next=>obtain ⟨σ7,H7,I7,n7⟩:=q7; exact again I7 n7
    | cont=>obtain ⟨σ7,H7,I7,n7⟩:=q7; exact again I7 n7
    | brk=>obtain ⟨σ7,H7,I7,q7⟩:=q7; exact ⟨σ7,H7,I7.unpinned,q7⟩
    | ret v=>obtain ⟨x7,σ7,H7,I7,r7,q7⟩:=q7; exact ⟨x7,σ7,H7,I7.unpinned,r7,q7⟩
end
end L2
namespace L2
open PySem PySem.Spec PyProof.Rows
abbrev R2:=V→V→Hp→VK→Prop
def OpR (X:Cx) (f:Value→Value→Sem Value) (r:R2):Prop:=
  ∀(pins:List (Addr×Obj)) (s:Shared) (σ:St) (H:Hp) (x y:V) (v u:Value) (Q:VK),Inv X pins σ H s→RelV x v→RelV y u→r x y H Q→
    wpAny (model X.prog X.w) X.A (f v u) (EP X pins σ Q) X.xe s
def UnR (X:Cx) (f:Value→Sem Value) (r:V→Hp→VK→Prop):Prop:=
  ∀(pins:List (Addr×Obj)) (s:Shared) (σ:St) (H:Hp) (x:V) (v:Value) (Q:VK),Inv X pins σ H s→RelV x v→r x H Q→
    wpAny (model X.prog X.w) X.A (f v) (EP X pins σ Q) X.xe s
def CallR (X:Cx) (f:Value) (r:List V→Hp→VK→Prop):Prop:=
  ∀(pins:List (Addr×Obj)) (s:Shared) (σ:St) (H:Hp) (xs:List V) (us:List Value) (Q:VK),Inv X pins σ H s→Vals xs us→r xs H Q→
    wpAny (model X.prog X.w) X.A (call f us) (EP X pins σ Q) X.xe s
def Zzo (X:Cx) (r:V→Hp→(Bool→Hp→Prop)→Prop):Prop:=
  ∀(pins:List (Addr×Obj)) (s:Shared) (σ:St) (H:Hp) (x:V) (v:Value) (Q:Bool→Hp→Prop),Inv X pins σ H s→RelV x v→r x H Q→
    wpAny (model X.prog X.w) X.A (truthy v) (TP X pins σ Q) X.xe s
def tOp (r:R2) (ta tb:TE):TE:=fun σ H Q=>ta σ H fun x H1=>tb σ H1 fun y H2=>r x y H2 Q
def tUn (r:V→Hp→VK→Prop) (ta:TE):TE:=fun σ H Q=>ta σ H fun x H1=>r x H1 Q
def rI (C:Int→Int→Prop) (g:Int→Int→V):R2:=fun x y H Q=>∃i j,x=.int i∧y=.int j∧C i j∧Q (g i j) H
def rI0 (g:Int→Int→V):R2:=fun x y H Q=>∃i j,x=.int i∧y=.int j∧Q (g i j) H
def rU (g:Int→V):V→Hp→VK→Prop:=fun x H Q=>∃i,x=.int i∧Q (g i) H
section
variable {X:Cx} {a b c:Expr} {ta tb tc:TE} {pos:Pos}
theorem ZtX (ha:PE X a ta) (hb:PE X b tb) {pins:List (Addr×Obj)} {s:Shared} {σ:St} {H:Hp} {R:V→V→Hp→Prop} (I:Inv X pins σ H s)
    (h:ta σ H fun x H1=>tb σ H1 fun y H2=>R x y H2) {Q:Value→Shared→Prop} {f:Value→Value→Sem Value}
    (hf:∀v u s2 x y H2,Inv X pins σ H2 s2→RelV x v→RelV y u→R x y H2→wpAny (model X.prog X.w) X.A (f v u) Q X.xe s2) :
    wpAny (model X.prog X.w) X.A (eval a X.env) (fun v s₁=>wpAny (model X.prog X.w) X.A (eval b X.env) (fun u s₂=>wpAny (model X.prog X.w) X.A (f v u) Q X.xe s₂) X.xe s₁) X.xe s:=by
  refine thn (ha pins s σ H _ I h) fun v s1 ⟨x,H1,I1,r1,q1⟩=>?_
  refine thn (hb pins s1 σ H1 _ I1 q1) fun u s2 ⟨y,H2,I2,r2,q2⟩=>?_
  exact hf v u s2 x y H2 I2 r1 r2 q2
theorem Zvb {op:Operator} {r:R2} (ho:OpR X (binaryOp op) r) (ha:PE X a ta) (hb:PE X b tb):PE X (.BinOp a op b pos) (tOp r ta tb):=by
  intro pins s σ H Q I h
  exact wpAny_BinOp (ZtX ha hb I h fun v u s2 x y H2 I2 rx ry q=>ho pins s2 σ H2 x y v u Q I2 rx ry q)
theorem Zu8 {op:UnaryOp} {r:V→Hp→VK→Prop} (ho:UnR X (unaryOp op) r) (ha:PE X a ta):PE X (.UnaryOp op a pos) (tUn r ta):=by
  intro pins s σ H Q I h
  exact UnaryOp_ (thn (ha pins s σ H _ I h) fun v s1 ⟨x,H1,I1,r1,q1⟩=>ho pins s1 σ H1 x v Q I1 r1 q1)
theorem opI {f:Value→Value→Sem Value} {C:Int→Int→Prop} {g:Int→Int→Int}
    (rule:∀(i j:Int) (t u:Tok) (s:Shared) (Q:Value→Shared→Prop) (E:Value→Shared→Prop),C i j→Q (.int (g i j) s.toks) { s with toks:=s.toks+1 }→wpAny (model X.prog X.w) X.A (f (.int i t) (.int j u)) Q E s) :
    OpR X f (rI C fun i j=>.int (g i j)):=by
  intro pins s σ H x y v u Q I rx ry h
  obtain ⟨i,j,rfl,rfl,hc,q⟩:=h
  obtain ⟨t,rfl⟩:=rx
  obtain ⟨t',rfl⟩:=ry
  exact rule i j t t' s _ _ hc ⟨.int (g i j),H,I.tok _,⟨_,rfl⟩,q⟩
theorem ZtF {f:Value→Value→Sem Value} {g:Int→Int→Int}
    (rule:∀(i j:Int) (t u:Tok) (s:Shared) (Q:Value→Shared→Prop) (E:Value→Shared→Prop),Q (.int (g i j) s.toks) { s with toks:=s.toks+1 }→wpAny (model X.prog X.w) X.A (f (.int i t) (.int j u)) Q E s) :
    OpR X f (rI0 fun i j=>.int (g i j)):=by
  intro pins s σ H x y v u Q I rx ry h
  obtain ⟨i,j,rfl,rfl,q⟩:=h
  obtain ⟨t,rfl⟩:=rx
  obtain ⟨t',rfl⟩:=ry
  exact rule i j t t' s _ _ ⟨.int (g i j),H,I.tok _,⟨_,rfl⟩,q⟩
theorem Zrr {f:Value→Value→Sem Value} {g:Int→Int→Bool}
    (rule:∀(i j:Int) (t u:Tok) (s:Shared) (Q:Value→Shared→Prop) (E:Value→Shared→Prop),Q (.bool (g i j)) s→wpAny (model X.prog X.w) X.A (f (.int i t) (.int j u)) Q E s) :
    OpR X f (rI0 fun i j=>.bl (g i j)):=by
  intro pins s σ H x y v u Q I rx ry h
  obtain ⟨i,j,rfl,rfl,q⟩:=h
  obtain ⟨t,rfl⟩:=rx
  obtain ⟨t',rfl⟩:=ry
  exact rule i j t t' s _ _ ⟨.bl (g i j),H,I,rfl,q⟩
def CMul (i j:Int):Prop:=(-(2 ^ 64)<i∧i<2 ^ 64)∨(-(2 ^ 64)<j∧j<2 ^ 64)
theorem CMul.ok {i j:Int} (h:CMul i j):IntMulOk i j:=by
  rcases h with ⟨h1,h2⟩ | ⟨h1,h2⟩
  · exact .of_left (intBits_le_64 h1 h2)
  · exact .of_right (intBits_le_64 h1 h2)
theorem op_add:OpR X (binaryOp .Add) (rI0 fun i j=>.int (i+j)):=ZtF fun _ _ _ _ _ _ _ q=>add_int q
theorem Ztx:OpR X (binaryOp .Sub) (rI0 fun i j=>.int (i-j)):=ZtF fun _ _ _ _ _ _ _ q=>sub_int q
theorem op_mul:OpR X (binaryOp .Mult) (rI CMul fun i j=>.int (i*j)):=opI fun _ _ _ _ _ _ _ hc q=>mul_int q hc.ok
theorem ZtA:OpR X (binaryOp .Mod) (rI (fun _ j=>0<j) fun i j=>.int (i % j)):=opI fun i j _ _ _ _ _ hc q=>by
  have h1:(0:Int)<j:=hc
  exact mod_int' (by omega) (by rw [Int.fmod_eq_emod_of_nonneg i (by omega)]; exact q)
theorem ZtE:OpR X (binaryOp .BitAnd) (rI0 fun i j=>.int (Builtin.bitAnd i j)):=ZtF fun _ _ _ _ _ _ _ q=>and_int q
theorem unI {f:Value→Sem Value} {g:Int→Int}
    (rule:∀(i:Int) (t:Tok) (s:Shared) (Q:Value→Shared→Prop) (E:Value→Shared→Prop),Q (.int (g i) s.toks) { s with toks:=s.toks+1 }→wpAny (model X.prog X.w) X.A (f (.int i t)) Q E s) :
    UnR X f (rU fun i=>.int (g i)):=by
  intro pins s σ H x v Q I rx h
  obtain ⟨i,rfl,q⟩:=h
  obtain ⟨t,rfl⟩:=rx
  exact rule i t s _ _ ⟨.int (g i),H,I.tok _,⟨_,rfl⟩,q⟩
theorem ZsK:UnR X (unaryOp .USub) (rU fun i=>.int (-i)):=unI fun _ _ _ _ _ q=>neg_int q
end
section
variable {X:Cx} {a b c:Expr} {ta tb tc:TE} {pos:Pos}
theorem Zp7 {pins:List (Addr×Obj)} {σ:St} {H:Hp} {s:Shared} {Q:VK} {k k':Bool} (I:Inv X pins σ H s) (q:Q (.bl k) H) (e:k=k'):EP X pins σ Q (.bool k') s:=by
  subst e
  exact ⟨.bl k,H,I,rfl,q⟩
theorem Zvj:OpR X (compareOp .Lt) (rI0 fun i j=>.bl (decide (i<j))):=Zrr fun _ _ _ _ _ _ _ q=>lt_int q
theorem Zvk:OpR X (compareOp .LtE) (rI0 fun i j=>.bl (decide (i≤j))):=Zrr fun _ _ _ _ _ _ _ q=>le_int q
theorem Zvl:OpR X (compareOp .Gt) (rI0 fun i j=>.bl (decide (j<i))):=Zrr fun _ _ _ _ _ _ _ q=>gt_int q
theorem Zvm:OpR X (compareOp .GtE) (rI0 fun i j=>.bl (decide (j≤i))):=Zrr fun _ _ _ _ _ _ _ q=>ge_int q
theorem op_isN:OpR X (compareOp .Is) (fun x y H Q=>y=.non∧Q (.bl (decide (x=.non))) H):=by
  intro pins s σ H x y v u Q I rx ry h
  obtain ⟨rfl,q⟩:=h
  cases ry
  refine is_none_gen (Zp7 I q ?_)
  cases x<;>first
    | (cases rx; rfl)
    | (obtain ⟨t,rfl⟩:=rx; rfl)
theorem op_notN:OpR X (compareOp .IsNot) (fun x y H Q=>y=.non∧Q (.bl (!decide (x=.non))) H):=by
  intro pins s σ H x y v u Q I rx ry h
  obtain ⟨rfl,q⟩:=h
  cases ry
  refine isnot_none_gen (Zp7 I q ?_)
  cases x<;>first
    | (cases rx; rfl)
    | (obtain ⟨t,rfl⟩:=rx; rfl)
theorem OpR.or {f:Value→Value→Sem Value} {r r':R2} (h:OpR X f r) (h':OpR X f r'):OpR X f (fun x y H Q=>r x y H Q∨r' x y H Q):=by
  intro pins s σ H x y v u Q I rx ry q
  rcases q with q | q
  · exact h pins s σ H x y v u Q I rx ry q
  · exact h' pins s σ H x y v u Q I rx ry q
theorem ZpC (b:Expr) {op:CmpOp} (h:op≠.In:=by decide) (h2:op≠.NotIn:=by decide):behindInMarks op b=false:=by
  have e1:(op == CmpOp.In)=false:=by cases op<;>first | rfl | exact absurd rfl h
  have e2:(op == CmpOp.NotIn)=false:=by cases op<;>first | rfl | exact absurd rfl h2
  cases b<;>simp [behindInMarks,e1,e2]
theorem Zrn {op:CmpOp} {r:R2} (ho:OpR X (compareOp op) r) (ha:PE X a ta) (hb:PE X b tb) (hm:behindInMarks op b=false):PE X (.Compare a [op] [b] pos) (tOp r ta tb):=by
  intro pins s σ H Q I h
  exact wpAny_Compare1 (ZtX ha hb I h fun v u s2 x y H2 I2 rx ry q=>ho pins s2 σ H2 x y v u Q I2 rx ry q) hm
def Zsg (t:TE):TT:=fun σ H Q=>t σ H fun x H'=>∃k,x=.bl k∧Q k H'
theorem Zrb {op:CmpOp} {r:R2} (ho:OpR X (compareOp op) r) (ha:PE X a ta) (hb:PE X b tb) (hm:behindInMarks op b=false):PT X (.Compare a [op] [b] pos) (Zsg (tOp r ta tb)):=by
  intro pins s σ H Q I h
  refine wpAny_isTrue_Compare1 (thn (ha pins s σ H _ I h) fun v s1 ⟨x,H1,I1,r1,q1⟩=>thn (hb pins s1 σ H1 _ I1 q1) fun u s2 ⟨y,H2,I2,r2,q2⟩=>
    thn (ho pins s2 σ H2 x y v u _ I2 r1 r2 q2) fun c s3 ⟨z,H3,I3,r3,k,e,q3⟩=>?_) hm
  subst e
  cases r3
  exact wpAny_truthy_bool ⟨H3,I3,q3⟩
def Zlv (r r':R2) (ta tb tc:TE):TE:=fun σ H Q=>ta σ H fun x H1=>tb σ H1 fun y H2=>r x y H2 fun z H3=>∃k,z=.bl k∧
  (if k=true then tc σ H3 fun w' H4=>r' y w' H4 Q else Q (.bl false) H3)
theorem Zpp {op op':CmpOp} {r r':R2} (ho:OpR X (compareOp op) r) (ho':OpR X (compareOp op') r') (ha:PE X a ta) (hb:PE X b tb) (hc:PE X c tc)
    (hm:lastMarks [op,op'] [b,c]=false:=by with_unfolding_all rfl):PE X (.Compare a [op,op'] [b,c] pos) (Zlv r r' ta tb tc):=by
  intro pins s σ H Q I h
  refine Compare_chain (thn (ha pins s σ H _ I h) fun v s1 ⟨x,H1,I1,r1,q1⟩=>chain_link (thn (hb pins s1 σ H1 _ I1 q1) fun u s2 ⟨y,H2,I2,r2,q2⟩=>
    thn (ho pins s2 σ H2 x y v u _ I2 r1 r2 q2) fun d s3 ⟨z,H3,I3,r3,k,e,q3⟩=>?_)) hm
  subst e
  cases r3
  refine wpAny_truthy_bool ?_
  cases k with
  | false=>exact ite_ff ⟨.bl false,H3,I3,rfl,q3⟩
  | true=>exact ite_tt (chain_last (thn (hc pins s3 σ H3 _ I3 q3) fun w' s4 ⟨z',H4,I4,r4,q4⟩=>ho' pins s4 σ H4 y z' u w' Q I4 r2 r4 q4))
theorem Zo9 {op op':CmpOp} {r r':R2} (ho:OpR X (compareOp op) r) (ho':OpR X (compareOp op') r') (ha:PE X a ta) (hb:PE X b tb) (hc:PE X c tc)
    (hm:lastMarks [op,op'] [b,c]=false:=by with_unfolding_all rfl):PT X (.Compare a [op,op'] [b,c] pos) (Zsg (Zlv r r' ta tb tc)):=by
  intro pins s σ H Q I h
  refine isTrue_chain (thn (ha pins s σ H _ I h) fun v s1 ⟨x,H1,I1,r1,q1⟩=>test_link (thn (hb pins s1 σ H1 _ I1 q1) fun u s2 ⟨y,H2,I2,r2,q2⟩=>
    thn (ho pins s2 σ H2 x y v u _ I2 r1 r2 q2) fun d s3 ⟨z,H3,I3,r3,k,e,q3⟩=>?_)) hm
  subst e
  cases r3
  refine wpAny_truthy_bool ?_
  cases k with
  | false=>
    obtain ⟨k',e',q'⟩:=q3
    cases e'
    exact ite_ff ⟨H3,I3,q'⟩
  | true=>
    refine ite_tt (test_last (thn (hc pins s3 σ H3 _ I3 q3) fun w' s4 ⟨z',H4,I4,r4,q4⟩=>thn (ho' pins s4 σ H4 y z' u w' _ I4 r2 r4 q4) fun d' s5 ⟨z2,H5,I5,r5,k2,e2,q5⟩=>?_))
    subst e2
    cases r5
    exact wpAny_truthy_bool ⟨H5,I5,q5⟩
def TruV (K:PySem.W.Frag) (x:V) (H:Hp) (k:Bool):Prop:=
  match x with
  | .non=>k=false
  | .bl b=>k=b
  | .int i=>k=(i != 0)
  | .str y=>y.length≤sizeLine∧k=((y.length:Int) != 0)
  | .byt y=>y.size≤sizeLine∧k=((y.size:Int) != 0)
  | .ref p=>(∃xs,SqL K H p xs∧k=!xs.isEmpty)∨(∃xs,SqT K H p xs∧k=!xs.isEmpty)∨∃kvs,H p=some (.dK kvs)∧k=!kvs.isEmpty
  | _=>False
theorem ZlI {κ:Type} {kvs:List (κ×V)} {vs:List (κ×Value)} (r:KV kvs vs):(!vs.isEmpty)=!kvs.isEmpty:=by
  cases r<;>rfl
theorem Zhs {xs:List V} {its:List Value} (r:Vals xs its):(!its.toArray.isEmpty)=!xs.isEmpty:=by
  cases r<;>simp
theorem Zf5:(sizeLine:Nat)<2 ^ 63:=by rw [sizeLine_eq]; decide
theorem ZoU:Zzo X (fun x H Q=>∃k,TruV X.K x H k∧Q k H):=by
  intro pins s σ H x v Q I rx h
  obtain ⟨k,e,q⟩:=h
  have hl:=Zf5
  have hs:sizeLine=16777216:=sizeLine_eq
  cases x with
  | non=>
    cases rx
    have e':k=false:=e
    subst e'
    exact truthy_none ⟨H,I,q⟩
  | bl b=>
    cases rx
    have e':k=b:=e
    subst e'
    exact wpAny_truthy_bool ⟨H,I,q⟩
  | int i=>
    obtain ⟨t,rfl⟩:=rx
    have e':k=(i != 0):=e
    subst e'
    exact PySem.P.truthy_int ⟨H,I,q⟩
  | str y=>
    obtain ⟨t,rfl⟩:=rx
    obtain ⟨hy,e'⟩:y.length≤sizeLine∧k=((y.length:Int) != 0):=e
    subst e'
    exact PySem.P.truthy_str (by omega) ⟨H,I.tok _,q⟩
  | byt y=>
    obtain ⟨t,rfl⟩:=rx
    obtain ⟨hy,e'⟩:y.size≤sizeLine∧k=((y.size:Int) != 0):=e
    subst e'
    exact PySem.W.truthy_bytes (by omega) ⟨H,I.tok _,q⟩
  | ref p=>
    cases rx
    have e':(∃xs,SqL X.K H p xs∧k=!xs.isEmpty)∨(∃xs,SqT X.K H p xs∧k=!xs.isEmpty)∨∃kvs,H p=some (.dK kvs)∧k=!kvs.isEmpty:=e
    rcases e' with ⟨xs,hx,e'⟩ | ⟨xs,hx,e'⟩ | ⟨kvs,hx,e'⟩
    · subst e'
      obtain ⟨its,r,pl,hz⟩:=I.list hx
      have hlen:=r.length
      exact wpAny_truthy_list pl.isList (by simp only [List.size_toArray]; omega) ⟨H,I.tok _,by rw [Zhs r]; exact q⟩
    · subst e'
      obtain ⟨its,r,pl,hz⟩:=I.tuple hx
      have hlen:=r.length
      exact truthy_tuple pl (by simp only [List.size_toArray]; omega) ⟨H,I.tok _,by rw [Zhs r]; exact q⟩
    · subst e'
      obtain ⟨hz,hS,vs,r,m⟩:kvs.length≤sizeLine∧(p == sysModules)=false∧∃vs,KV kvs vs∧s.heap.DictOf (ZaE X.prog X.w) p vs:=I.hok p _ hx
      have hlen:kvs.length=vs.length:=Paired.length r
      exact wpAny_truthy_dict hS m (by omega) ⟨H,I.tok _,by rw [ZlI r]; exact q⟩
  | _=>exact (show False from e).elim
theorem Zo8 (ha:PE X a ta) (he:∀whole,isTrue a X.env whole=(do let v ←whole; standAt a.pos; holding [v] (truthy v))) :
    PT X a (fun σ H Q=>ta σ H fun x H'=>∃k,TruV X.K x H' k∧Q k H'):=by
  intro pins s σ H Q I h
  exact isTrue_plain (thn (ha pins s σ H _ I h) fun v s1 ⟨x,H1,I1,r1,q1⟩=>ZoU pins s1 σ H1 x v Q I1 r1 q1) (he _)
theorem op_add_str:OpR X (binaryOp .Add) (fun x y H Q=>∃i j,x=.str i∧y=.str j∧i.length+j.length≤sizeLine∧Q (.str (i++j)) H):=by
  intro pins s σ H x y v u Q I rx ry h
  obtain ⟨i,j,rfl,rfl,hz,q⟩:=h
  obtain ⟨t,rfl⟩:=rx
  obtain ⟨t',rfl⟩:=ry
  exact add_str (fun t' tk=>⟨.str (i++j),H,I.tok _,⟨_,rfl⟩,q⟩) hz
theorem Zfk {x:V} {us:List Value} (r:Vals [x] us):∃u,us=[u]∧RelV x u:=by
  cases r with
  | cons r1 r2=>cases r2; exact ⟨_,rfl,r1⟩
theorem ZoS {x y:V} {us:List Value} (r:Vals [x,y] us):∃u w',us=[u,w']∧RelV x u∧RelV y w':=by
  cases r with
  | cons r1 r2=>
    cases r2 with
    | cons r3 r4=>cases r4; exact ⟨_,_,rfl,r1,r3⟩
theorem Znm (hc:X.calm=true):CallR X (.builtin "max") (fun xs H Q=>∃i j,xs=[.int i,.int j]∧Q (.int (if j > i then j else i)) H):=by
  intro pins s σ H xs us Q I r h
  obtain ⟨i,j,rfl,q⟩:=h
  obtain ⟨u,w',rfl,⟨t,rfl⟩,⟨t',rfl⟩⟩:=ZoS r
  refine max_two_ints (I.ok.hd hc) fun h' tk k=>⟨_,H,I.kept k,?_,q⟩
  by_cases hj:j > i
  · rw [if_pos hj,if_pos hj]; exact ⟨_,rfl⟩
  · rw [if_neg hj,if_neg hj]; exact ⟨_,rfl⟩
theorem Znl (hc:X.calm=true):CallR X (.builtin "min") (fun xs H Q=>∃i j,xs=[.int i,.int j]∧Q (.int (if j<i then j else i)) H):=by
  intro pins s σ H xs us Q I r h
  obtain ⟨i,j,rfl,q⟩:=h
  obtain ⟨u,w',rfl,⟨t,rfl⟩,⟨t',rfl⟩⟩:=ZoS r
  refine min_two_ints (I.ok.hd hc) fun h' tk k=>⟨_,H,I.kept k,?_,q⟩
  by_cases hj:j<i
  · rw [if_pos hj,if_pos hj]; exact ⟨_,rfl⟩
  · rw [if_neg hj,if_neg hj]; exact ⟨_,rfl⟩
theorem Znn:CallR X (.type "int") (fun xs H Q=>(∃i,xs=[.int i]∧Q (.int i) H)∨∃k,xs=[.bl k]∧Q (.int (if k then 1 else 0)) H):=by
  intro pins s σ H xs us Q I r h
  rcases h with ⟨i,rfl,q⟩ | ⟨k,rfl,q⟩
  · obtain ⟨u,rfl,t,rfl⟩:=Zfk r
    exact call_int_int ⟨.int i,H,I,⟨_,rfl⟩,q⟩
  · obtain ⟨u,rfl,r1⟩:=Zfk r
    cases r1
    exact call_int_bool ⟨.int (if k then 1 else 0),H,I.tok _,⟨_,rfl⟩,q⟩
end
end L2
namespace L2
open PySem PySem.Spec PyProof.Rows
structure ObjM (h:Heap) (x dx C:Addr) (mA:Str→Option Value):Prop where
  obj:h.get? x=some (PySem.W.instObj C dx)
  ns:h.Ns1 dx mA
  ne:dx≠x
theorem Zm8 {h:Heap} {dx:Addr} {mA:Str→Option Value} (n:h.Ns1 dx mA):∃od,h.get? dx=some od∧∀name,PySem.W.lookIn name od=some (mA name):=by
  obtain ⟨o,es,ep,ho,hd,hk,_,hm⟩:=n
  refine ⟨o,ho,fun name=>?_⟩
  have e:=hm name
  unfold nsFind findBy at e
  rw [←Array.find?_toList] at e
  unfold PySem.W.lookIn
  rw [hd]
  dsimp only
  split
  · rename_i y q
    rw [q] at e
    exact congrArg some e
  · rename_i q
    rw [q] at e
    have a:es.toList.any (·.refKey)=false:=by
      rw [List.any_eq_false]
      intro y hy
      obtain ⟨z,t,hkey⟩:=hk y (Array.mem_toList_iff.mp hy)
      simp [DictEntry.refKey,hkey]
    have a':¬es.toList.any (·.refKey)=true:=by rw [a]; exact Bool.false_ne_true
    rw [if_neg a']
    exact congrArg some e
theorem ObjM.look {h:Heap} {x dx C:Addr} {mA:Str→Option Value} (I:ObjM h x dx C mA):∃od,PySem.W.InstAt h x (PySem.W.instObj C dx) C (some od)∧∀name,PySem.W.lookIn name od=some (mA name):=
  let ⟨od,ho,hl⟩:=Zm8 I.ns
  ⟨od,⟨I.obj,rfl,rfl,ho⟩,hl⟩
section
variable {prog:Program} {w:World} {A:Around} {E:Value→Shared→Prop} {s:Shared} {K:PySem.W.Frag} {x dx C f:Addr} {mA:Str→Option Value} {name:Str} {v:Value}
theorem ZrG {expr:Bool} {Q:Value→Shared→Prop} (X:K.In s.heap) (I:ObjM s.heap x dx C mA) (hg:PySem.W.plainGet K C name=true) (hh:PySem.W.hasDictIn K C=true)
    (ha:PySem.W.findIn K (.ref C) name=some none) (hv:mA name=some v) (hv':PySem.W.handedIn v=true) (h:Q v { s with toks:=s.toks+1 }) :
    wpAny (model prog w) A (getAttr (.ref x) name expr) Q E s:=by
  obtain ⟨od,J,hl⟩:=I.look
  exact PySem.W.get_value X J (PySem.W.plainGet_of hg).1 (PySem.W.findObj_own hh ha rfl (by rw [hl,hv])) hv' h
theorem Zq2 {ns:List Str} {Q:Unit→Shared→Prop} (X:K.In s.heap) (I:ObjM s.heap x dx C mA)
    (hs:PySem.W.findIn K (.ref C) "__setattr__"=some (some (.builtin "object.__setattr__"))) (hp:PySem.W.plainOver K C=true) (ht:PySem.W.takerIn K C name=some none) (hh:PySem.W.hasDictIn K C=true)
    (hw:PySem.Within mA ns) (hsz:ns.length≤sizeLine)
    (h:∀h',ObjM h' x dx C (fun y=>if y=name then some v else mA y)→Heap.SameBut dx s.heap h'→Q () { s with heap:=h',toks:=s.toks+2 }) :
    wpAny (model prog w) A (setAttr (.ref x) name v) Q E s:=by
  obtain ⟨od,J,hl⟩:=I.look
  refine PySem.W.set_plain X J hs (PySem.W.osa_open (s:={ s with toks:=s.toks+1 }) (r:=none) X J hp ht fun b=>?_)
  obtain ⟨cd,hc,hd'⟩:=PySem.W.any_some hh
  have hx:s.heap.get? x=some ⟨.ref C,some dx,.plain,#[]⟩:=I.obj
  refine wpAny_bind (wpAny_pure (wpAny_bind (wpAny_bind (wpAny_loadPart hx (wpAny_bind (PySem.W.Looks.here (s:={ s with toks:=s.toks+1 }) (PySem.W.looks_clsIn X hc) ?_))))))
  rw [hd']
  refine wpAny_pure (a:=some dx) (wpAny_bind (wpAny_pure (wpAny_bind ?_)))
  refine wpAny_nsSet1 (s:={ s with toks:=s.toks+1 }) I.ns fun h' hn2 hs2=>?_
  obtain ⟨oD,esD,epD,hoD,hdD,hcD⟩:=hn2.count (PySem.Within.cons name v hw)
  refine wpAny_bind (wpAny_lookBehind hoD (by rw [hdD]; exact pastItsLine_dict (Nat.le_trans hcD (by rw [List.length_cons]; omega))) ?_)
  exact wpAny_pure (h _ ⟨(hs2.2 _ (Ne.symm I.ne)).trans I.obj,hn2,I.ne⟩ hs2)
theorem ZpP {R:Result→Shared→Prop} {vs:List Value} {kw:List (Str×Value)} (X:K.In s.heap) (hm:PySem.W.makesIn K C=true)
    (hi:PySem.W.findIn K (.ref C) "__init__"=some (some (.ref f))) (hf:PySem.W.typeIn K (.ref f)=some (.type "function"))
    (h:codeAny (model prog w) (A.under (.builtin "type.__call__" ⟨.ref C::vs,kw⟩)) (.call (.ref f) ⟨.ref (s.heap.objs.size+1)::vs,kw⟩) (PySem.W.InitBack (s.heap.objs.size+1) R)
      { s with heap:=(s.heap.push PySem.W.emptyDict).push (PySem.W.instObj C s.heap.objs.size) }) :
    codeAny (model prog w) A (.call (.ref C) ⟨vs,kw⟩) R s:=by
  obtain ⟨hh,g,d,t,os⟩:=s
  exact PySem.W.make_core (PySem.W.makes_of X hm) (PySem.W.looks_findIn X hi) (fun self=>PySem.W.bind_fn X self hf) (.inl rfl) h
end
def Zdn (f:Str) (v:V):List (Str×V)→List (Str×V)
  | []=>[(f,v)]
  | (g,x)::r=>if g=f then (g,v)::r else (g,x)::Zdn f v r
theorem Zgp (f g:Str) (v:V):∀fs:List (Str×V),(Zdn f v fs).lookup g=if g=f then some v else fs.lookup g
  | []=>by
    show List.lookup g [(f,v)]=_
    by_cases h:g=f
    · have hb:(g == f)=true:=beq_iff_eq.mpr h
      simp only [List.lookup,hb,if_pos h]
    · have hb:(g == f)=false:=beq_eq_false_iff_ne.mpr h
      simp only [List.lookup,hb,if_neg h]
  | (k,x)::r=>by
    have ih:=Zgp f g v r
    rw [show Zdn f v ((k,x)::r)=(if k=f then (k,v)::r else (k,x)::Zdn f v r) from rfl]
    by_cases hk:k=f
    · rw [if_pos hk]
      by_cases h:g=k
      · have hb:(g == k)=true:=beq_iff_eq.mpr h
        simp only [List.lookup,hb,if_pos (h.trans hk)]
      · have hb:(g == k)=false:=beq_eq_false_iff_ne.mpr h
        simp only [List.lookup,hb,if_neg (fun e:g=f=>h (e.trans hk.symm))]
    · rw [if_neg hk]
      by_cases h:g=k
      · have hb:(g == k)=true:=beq_iff_eq.mpr h
        simp only [List.lookup,hb,if_neg (fun e:g=f=>hk (h.symm.trans e))]
      · have hb:(g == k)=false:=beq_eq_false_iff_ne.mpr h
        simp only [List.lookup,hb]
        exact ih
theorem Zf9 (f:Str) (v:V):∀fs:List (Str×V),f∈(Zdn f v fs).map (·.1)∧∀g,g∈fs.map (·.1)→g∈(Zdn f v fs).map (·.1)
  | []=>⟨by simp [Zdn],fun g h=>by simp at h⟩
  | (k,x)::r=>by
    obtain ⟨i1,i2⟩:=Zf9 f v r
    rw [show Zdn f v ((k,x)::r)=(if k=f then (k,v)::r else (k,x)::Zdn f v r) from rfl]
    by_cases hk:k=f
    · rw [if_pos hk]
      subst hk
      exact ⟨by simp,fun g h=>by simpa using h⟩
    · rw [if_neg hk]
      refine ⟨?_,fun g h=>?_⟩
      · rw [List.map_cons]
        exact List.mem_cons_of_mem _ i1
      · rw [List.map_cons] at h ⊢
        rcases List.mem_cons.mp h with e | e
        · exact List.mem_cons.mpr (.inl e)
        · exact List.mem_cons_of_mem _ (i2 g e)
theorem Zgq (f:Str) (v:V):∀fs:List (Str×V),(Zdn f v fs).length≤fs.length+1
  | []=>by simp [Zdn]
  | (k,x)::r=>by
    have ih:=Zgq f v r
    rw [show Zdn f v ((k,x)::r)=(if k=f then (k,v)::r else (k,x)::Zdn f v r) from rfl]
    by_cases hk:k=f
    · rw [if_pos hk,List.length_cons,List.length_cons]; omega
    · rw [if_neg hk,List.length_cons,List.length_cons]; omega
theorem RelO.some_of {v:V} {o:Option Value} (r:RelO (some v) o):∃u,o=some u∧RelV v u:=by
  cases o with
  | none=>exact (show False from r).elim
  | some u=>exact ⟨u,rfl,r⟩
theorem RelO.none_of {o:Option Value} (r:RelO none o):o=none:=by
  cases o with
  | none=>rfl
  | some u=>exact (show False from r).elim
theorem Znf {v:V} {u:Value} (r:RelV v u):PySem.W.handedIn u=true:=by
  cases v with
  | non=>cases (show u=Value.none from r); rfl
  | bl b=>cases (show u=Value.bool b from r); rfl
  | int i=>obtain ⟨t,e⟩:=(show ∃t,u=Value.int i t from r); cases e; rfl
  | str x=>obtain ⟨t,e⟩:=(show ∃t,u=Value.str x t from r); cases e; rfl
  | byt b=>obtain ⟨t,e⟩:=(show ∃t,u=Value.bytes b t from r); cases e; rfl
  | flt b=>obtain ⟨t,e⟩:=(show ∃t,u=Value.float b t from r); cases e; rfl
  | ref a=>cases (show u=Value.ref a from r); rfl
  | ty n=>cases (show u=Value.type n from r); rfl
section
variable {P:Program} {w:World} {H H':Hp} {h h':Heap} {a C dx:Addr} {fs fs':List (Str×V)}
theorem ZiV (hok:HOk P w H h) (e:H a=some (.ins C dx fs)):∃mA,ObjM h a dx C mA∧(∀f,RelO (fs.lookup f) (mA f))∧PySem.Within mA (fs.map (·.1))∧fs.length≤1000∧H dx=some (.own a):=by
  obtain ⟨d,z,ne,ob,mA,n,r,q⟩:=(show ObjOk P w H h a (.ins C dx fs) from hok a _ e)
  exact ⟨mA,⟨ob,n,ne⟩,r,q,z,d⟩
end
structure Cls (K:PySem.W.Frag) (C:Addr):Prop where
  pg:PySem.W.plainGet K C Str.empty=true
  hd:PySem.W.hasDictIn K C=true
  po:PySem.W.plainOver K C=true
  sa:PySem.W.findIn K (.ref C) "__setattr__"=some (some (.builtin "object.__setattr__"))
theorem Cls.get {K:PySem.W.Frag} {C:Addr} (c:Cls K C) (f:Str):PySem.W.plainGet K C f=true:=c.pg
def NoAttr (K:PySem.W.Frag) (C:Addr) (f:Str):Prop:=PySem.W.findIn K (.ref C) f=some none
theorem NoAttr.taker {K:PySem.W.Frag} {C:Addr} {f:Str} (n:NoAttr K C f):PySem.W.takerIn K C f=some none:=by
  unfold PySem.W.takerIn
  rw [show PySem.W.findIn K (.ref C) f=some none from n]
  rfl
structure Con (K:PySem.W.Frag) (C:Addr) (f:Str) (v:V) (u:Value):Prop where
  at_:PySem.W.findIn K (.ref C) f=some (some u)
  rel:RelV v u
  get:PySem.W.specialIn K u "__get__"=some none
  cp:PySem.W.copiedNames.contains f=false
structure Zzp (K:PySem.W.Frag) (C:Addr) (m:Str) (f:Addr):Prop where
  at_:PySem.W.findIn K (.ref C) m=some (some (.ref f))
  fn:PySem.W.isFn K (.ref f)=true
  kp:PySem.W.keepIn K (.ref f)=true
section
variable {X:Cx} {pins:List (Addr×Obj)} {σ:St} {H:Hp} {s:Shared} {a C dx:Addr} {fs:List (Str×V)} {f:Str} {v:V} {A:Around} {E:Value→Shared→Prop}
theorem ZlJ {b:Bool} {Q:Value→Shared→Prop} (I:Inv X pins σ H s) (e:H a=some (.ins C dx fs)) (c:Cls X.K C) (n:NoAttr X.K C f) (l:fs.lookup f=some v)
    (h:∀u s',Inv X pins σ H s'→RelV v u→Q u s'):wpAny (model X.prog X.w) A (getAttr (.ref a) f b) Q E s:=by
  obtain ⟨mA,O,r,_,_,_⟩:=ZiV I.hok e
  obtain ⟨u,hu,ru⟩:=RelO.some_of (v:=v) (o:=mA f) (by rw [←l]; exact r f)
  exact ZrG I.kIn O (c.get f) c.hd n hu (Znf ru) (h u _ (I.tok _) ru)
theorem Zlw {y:V} {u:Value} {Q:Unit→Shared→Prop} (I:Inv X pins σ H s) (e:H a=some (.ins C dx fs)) (c:Cls X.K C) (n:NoAttr X.K C f) (hl:fs.length<1000) (ry:RelV y u)
    (h:∀s',Inv X pins σ (upd H a (.ins C dx (Zdn f y fs))) s'→Q () s'):wpAny (model X.prog X.w) A (setAttr (.ref a) f u) Q E s:=by
  obtain ⟨mA,O,r,wi,_,ho⟩:=ZiV I.hok e
  have hz:(fs.map (·.1)).length≤sizeLine:=by rw [List.length_map,sizeLine_eq]; omega
  refine Zq2 I.kIn O c.sa c.po n.taker c.hd wi hz fun h' O' sb=>h _ ?_
  have hd:∃o,h'.get? dx=some o:=let ⟨o,_,_,e',_⟩:=O'.ns; ⟨o,e'⟩
  refine I.write (x:=a) (e:=dx) (by rw [e]; exact True.intro) (.inr ho) (fun b q hb z=>(sb.2 b hb).trans z) hd ?_
  refine ⟨by rw [ZP O.ne]; exact ho,?_,O.ne,O'.obj,_,O'.ns,fun g=>?_,fun g hg=>?_⟩
  · have:=Zgq f y fs; omega
  · show RelO ((Zdn f y fs).lookup g) (if g=f then some u else mA g)
    rw [Zgp]
    by_cases q:g=f
    · rw [if_pos q,if_pos q]; exact ry
    · rw [if_neg q,if_neg q]; exact r g
  · by_cases q:g=f
    · rw [q]; exact (Zf9 f y fs).1
    · refine (Zf9 f y fs).2 g (wi g fun z=>hg ?_)
      show (if g=f then some u else mA g)=none
      rw [if_neg q]; exact z
theorem Inv.made (I:Inv X pins σ H s):Inv X pins σ (upd (upd H s.heap.objs.size (.own (s.heap.objs.size+1))) (s.heap.objs.size+1) (.ins C s.heap.objs.size []))
    { s with heap:=(s.heap.push PySem.W.emptyDict).push (PySem.W.instObj C s.heap.objs.size) }:=by
  have e1:(s.heap.push PySem.W.emptyDict).get? s.heap.objs.size=some PySem.W.emptyDict:=Heap.get?_push_size s.heap rfl
  have e2:((s.heap.push PySem.W.emptyDict).push (PySem.W.instObj C s.heap.objs.size)).get? (s.heap.objs.size+1)=some (PySem.W.instObj C s.heap.objs.size):=by
    have:=Heap.get?_push_size (s.heap.push PySem.W.emptyDict) (o:=PySem.W.instObj C s.heap.objs.size) rfl
    rwa [Heap.size_push] at this
  have e3:(s.heap.push PySem.W.emptyDict).Ns s.heap.objs.size (fun _=>none):=⟨PySem.W.emptyDict,#[],_,e1,rfl,(fun e he=>absurd he (by simp)),fun _=>rfl⟩
  have I1:=I.laid (a:=s.heap.objs.size) (o:=.own (s.heap.objs.size+1)) (h':=s.heap.push PySem.W.emptyDict) (t':=s.toks) (fun b u q=>Heap.get?_push_of_some _ q) (Nat.le_refl _) ⟨_,e1⟩
  refine I1.laid (a:=s.heap.objs.size+1) (o:=.ins C s.heap.objs.size []) (t':=s.toks) (fun b u q=>Heap.get?_push_of_some _ q) (Nat.le_of_eq (Heap.size_push _ _)) ?_
  have ne:s.heap.objs.size≠s.heap.objs.size+1:=Nat.ne_of_lt (Nat.lt_succ_self _)
  refine ⟨by rw [ZP ne,zI],Nat.zero_le _,ne,e2,fun _=>none,(Heap.Ns1.of_empty e3).at fun o q=>Heap.get?_push_of_some _ q,fun _=>True.intro,fun y hy=>absurd rfl hy⟩
theorem Zr0 {prog:Program} {w:World} {env:Env} {e:Expr} {f:Str} {pos:Pos} {s:Shared} {Q:Value→Shared→Prop} (hb:attributeBase e f env (eval e env)=eval e env)
    (h:wpAny (model prog w) A (eval e env) (fun o s₁=>wpAny (model prog w) A (getAttr o f true) Q E s₁) E s):wpAny (model prog w) A (eval (.Attribute e f pos) env) Q E s:=
  Attribute_any_ h (by rw [arm_eval_Attribute,hb])
end
def ZyK (K:PySem.W.Frag) (ta:TE) (f:Str):TE:=fun σ H Q=>ta σ H fun x H1=>∃a C dx fs v,x=.ref a∧H1 a=some (.ins C dx fs)∧Cls K C∧NoAttr K C f∧fs.lookup f=some v∧Q v H1
def ZyS (K:PySem.W.Frag) (ta tv:TE) (f:Str):TS:=fun D σ H=>tv σ H fun y H1=>ta σ H1 fun x H2=>∃a C dx fs,x=.ref a∧H2 a=some (.ins C dx fs)∧Cls K C∧NoAttr K C f∧fs.length<1000∧
  D.nx σ (upd H2 a (.ins C dx (Zdn f y fs)))
section
variable {X:Cx} {o e value:Expr} {f:Str} {pos pos' tpos:Pos} {ta tv:TE}
theorem Ztu (he:PE X e ta) (hb:attributeBase e f X.env (eval e X.env)=eval e X.env):PE X (.Attribute e f pos) (ZyK X.K ta f):=by
  intro pins s σ H Q I h
  refine Zr0 hb (thn (he pins s σ H _ I h) fun u s1 ⟨x,H1,I1,rx,a,C,dx,fs,v,ex,ea,c,n,l,q⟩=>?_)
  subst ex
  obtain rfl:u=Value.ref a:=rx
  exact ZlJ I1 ea c n l fun u' s2 I2 ru=>⟨v,H1,I2,ru,q⟩
theorem Ztj (ha:PE X o ta) (hv:PE X value tv) (hs:swapsWith value (some (.Attribute o f pos')) pos.line X.env=pure false):PS X (.Assign [.Attribute o f pos'] value pos) (ZyS X.K ta tv f):=by
  intro pins s σ H D I h
  refine plainObj_wpAny_Assign_Attribute (thn (hv pins s σ H _ I h) fun u s1 ⟨y,H1,I1,ry,q⟩=>thn (ha pins s1 σ H1 _ I1 q) fun ov s2 ⟨x,H2,I2,rx,a,C,dx,fs,ex,ea,c,n,l,q2⟩=>?_) hs
  subst ex
  obtain rfl:ov=Value.ref a:=rx
  exact Zlw I2 ea c n l ry fun s3 I3=>⟨σ,_,I3,q2⟩
end
section
variable {X:Cx} {pins:List (Addr×Obj)} {σ:St} {H:Hp} {s:Shared} {A:Around} {E:Value→Shared→Prop} {Q:Value→Shared→Prop} {c:Value} {b:Bool}
inductive ZfS (K:PySem.W.Frag) (H:Hp):V→Value→Prop where
  | non:ZfS K H .non (.type "NoneType")
  | bl (x:Bool):ZfS K H (.bl x) (.type "bool")
  | int (i:Int):ZfS K H (.int i) (.type "int")
  | str (x:Str):ZfS K H (.str x) (.type "str")
  | flt (x:UInt64):ZfS K H (.flt x) (.type "float")
  | lst {a:Addr} {xs:List V} (e:H a=some (.lst xs)):ZfS K H (.ref a) (.type "list")
  | frz {a:Addr} {o:Obj} {xs:List V} (e:H a=some (.frz o (.lst xs))):ZfS K H (.ref a) (.type "list")
  | tup {a:Addr} {xs:List V} (e:H a=some (.tup xs)):ZfS K H (.ref a) (.type "tuple")
  | dK {a:Addr} {kvs:List (Key×V)} (e:H a=some (.dK kvs)):ZfS K H (.ref a) (.type "dict")
  | dT {a:Addr} {kvs:List (List Key×V)} (e:H a=some (.dT kvs)):ZfS K H (.ref a) (.type "dict")
  | ins {a C dx:Addr} {fs:List (Str×V)} (e:H a=some (.ins C dx fs)) (cl:Cls K C) (ha:PySem.W.findIn K (.ref C) "__class__"=some (some (.builtin "object.__class__")))
      (hn:PySem.W.specialIn K (.builtin "object.__class__") "__get__"=some (some (.builtin "getset_descriptor.__get__"))) (htk:PySem.W.takesIn K (.builtin "object.__class__")=some true)
      (hm:PySem.W.mroIn K C (.type "object")=some true):ZfS K H (.ref a) (.ref C)
theorem Znb {x:V} {u t:Value} (I:Inv X pins σ H s) (rx:RelV x u) (ty:ZfS X.K H x t) (e:PySem.W.kitOne X.K t c=some b) (h:∀tk,Q (.bool b) { s with toks:=tk }) :
    wpAny (model X.prog X.w) A (call (.builtin "isinstance") [u,c]) Q E s:=by
  cases ty with
  | non=>cases (show u=Value.none from rx); exact PySem.W.kia_one PySem.W.kitx_none I.kIn True.intro e (fun z=>nomatch z) h
  | bl y=>cases (show u=Value.bool y from rx); exact PySem.W.kia_one PySem.W.kitx_bool I.kIn True.intro e (fun z=>nomatch z) h
  | int i=>obtain ⟨t,q⟩:=(show ∃t,u=Value.int i t from rx); cases q; exact PySem.W.kia_one PySem.W.kitx_int I.kIn True.intro e (fun z=>nomatch z) h
  | str y=>obtain ⟨t,q⟩:=(show ∃t,u=Value.str y t from rx); cases q; exact PySem.W.kia_one PySem.W.kitx_str I.kIn True.intro e (fun z=>nomatch z) h
  | flt y=>obtain ⟨t,q⟩:=(show ∃t,u=Value.float y t from rx); cases q; exact PySem.W.kia_one PySem.W.kitx_float I.kIn True.intro e (fun z=>nomatch z) h
  | @lst a xs ea=>
    cases (show u=Value.ref a from rx)
    obtain ⟨_,_,n,_,h1⟩:=(show ObjOk X.prog X.w H s.heap a (.lst xs) from I.hok a _ ea)
    exact PySem.W.kia_one PySem.W.kitx_list I.kIn ⟨_,h1,rfl⟩ e (fun z=>nomatch z) h
  | @frz a ob xs ea=>
    cases (show u=Value.ref a from rx)
    obtain ⟨_,_,_,n,_,h1⟩:=(show ObjOk X.prog X.w H s.heap a (.frz ob (.lst xs)) from I.hok a _ ea)
    exact PySem.W.kia_one PySem.W.kitx_list I.kIn ⟨_,h1,rfl⟩ e (fun z=>nomatch z) h
  | @tup a xs ea=>
    cases (show u=Value.ref a from rx)
    obtain ⟨_,_,_,p⟩:=(show ObjOk X.prog X.w H s.heap a (.tup xs) from I.hok a _ ea)
    obtain ⟨o,h1,h2,_⟩:=p
    exact PySem.W.kia_one PySem.W.kitx_tuple I.kIn ⟨o,h1,h2⟩ e (fun z=>nomatch z) h
  | @dK a kvs ea=>
    cases (show u=Value.ref a from rx)
    obtain ⟨_,_,vs,_,p⟩:=(show ObjOk X.prog X.w H s.heap a (.dK kvs) from I.hok a _ ea)
    obtain ⟨o,es,ep,h1,h2,_⟩:=p
    exact PySem.W.kia_one PySem.W.kitx_dict I.kIn ⟨o,h1,h2.1⟩ e (fun z=>nomatch z) h
  | @dT a kvs ea=>
    cases (show u=Value.ref a from rx)
    obtain ⟨_,_,xs,_,o,es,ep,h1,h2,_⟩:=(show ObjOk X.prog X.w H s.heap a (.dT kvs) from I.hok a _ ea)
    exact PySem.W.kia_one PySem.W.kitx_dict I.kIn ⟨o,h1,h2.1⟩ e (fun z=>nomatch z) h
  | @ins a C dx fs ea cl ha hn htk hm=>
    cases (show u=Value.ref a from rx)
    obtain ⟨mA,O,_⟩:=ZiV I.hok ea
    obtain ⟨od,J,_⟩:=O.look
    exact PySem.W.kia_one (PySem.W.kitx_own (cl.get _) cl.hd ha hn htk hm) I.kIn J e (fun z=>nomatch z) h
end
end L2
namespace L2
open PySem PySem.Spec PyProof.Rows
structure Room (k:Nat) (A:Around):Prop where
  hd:A.handled=none
  dp:A.depth+3*k+5<recursionLimit
  un:A.units+16*k+200<cLine
theorem Room.mono {j k:Nat} {A:Around} (r:Room k A) (h:j≤k):Room j A:=⟨r.hd,by have:=r.dp; omega,by have:=r.un; omega⟩
theorem Room.deeper {k:Nat} {A:Around} (r:Room (k+1) A) (env:Env):Room k (A.deeper env):=
  ⟨r.hd,by have:=r.dp; show A.depth+1+3*k+5<_; omega,by have:=r.un; show A.units+3+16*k+200<_; omega⟩
theorem Room.in1 {k:Nat} {A:Around} (r:Room (k+1) A):Room k A.in1:=
  ⟨r.hd,by have:=r.dp; show A.depth+3*k+5<_; omega,by have:=r.un; show A.units+1+16*k+200<_; omega⟩
theorem ZlE {A:Around} {C:Addr} {us:List Value} {kw:List (Str×Value)}:(A.under (.builtin "type.__call__" ⟨.ref C::us,kw⟩)).depth=A.depth+1:=by
  first | rfl | simp [Around.under,Code.weight,Code.isCreation,Code.isGuard,Code.isCaller,Code.frames,Code.isFrame,guardIds]
theorem ZlD {A:Around} {C:Addr} {us:List Value} {kw:List (Str×Value)}:(A.under (.builtin "type.__call__" ⟨.ref C::us,kw⟩)).units=A.units+1:=by
  first | rfl | simp [Around.under,Code.cUnits,Code.frames,Code.isFrame]
theorem Room.make {k:Nat} {A:Around} (r:Room (k+1) A) (C:Addr) (us:List Value) (kw:List (Str×Value)):Room k (A.under (.builtin "type.__call__" ⟨.ref C::us,kw⟩)):=
  ⟨r.hd,by have:=r.dp; rw [ZlE]; omega,by have:=r.un; rw [ZlD]; omega⟩
theorem Room.depth {k:Nat} {A:Around} (r:Room k A):A.depth<recursionLimit:=by have:=r.dp; omega
theorem Room.units {k:Nat} {A:Around} (r:Room k A):A.units+64<cLine:=by have:=r.un; omega
def Zs2:TA:=fun _ H Q=>Q [] H
def Zsj (ta:TE) (tr:TA):TA:=fun σ H Q=>ta σ H fun x H1=>tr σ H1 fun xs H2=>Q (x::xs) H2
section
variable {X:Cx} {e:Expr} {es:List Expr} {te:TE} {t:TA} {pos:Pos}
theorem ZlA:PA X [] Zs2:=fun _ _ _ _ H Q I h=>Calls.spliced_nil ⟨[],H,I,.nil,h⟩
theorem ZiN (ha:PE X e te) (hr:PA X es t) (hs:starEach (e::es) X.env=(false,eval e X.env)::starEach es X.env:=by rfl):PA X (e::es) (Zsj te t):=by
  intro pos pins s σ H Q I h
  rw [hs]
  show wpAny _ _ (spliced ((false,eval e X.env)::backTo pos (starEach es X.env))) _ _ s
  refine Calls.spliced_cons (thn (ha pins s σ H _ I h) fun u s1 ⟨x,H1,I1,r1,q1⟩=>?_)
  exact thn (hr pos pins s1 σ H1 _ I1 q1) fun us s2 ⟨xs,H2,I2,r2,q2⟩=>⟨x::xs,H2,I2,.cons r1 r2,q2⟩
def ZyB (t:TA):TE:=fun σ H Q=>t σ H fun xs H1=>xs.length≤sizeLine∧∀p,H1 p=none→Q (.ref p) (upd H1 p (.tup xs))
def ZyH (t:TA):TE:=fun σ H Q=>t σ H fun xs H1=>xs.length≤sizeLine∧∀p,H1 p=none→Q (.ref p) (upd H1 p (.lst xs))
theorem Ztp {x1} (h:PA X es t):PE X (.Tuple es x1 pos) (ZyB t):=by
  intro pins s σ H Q I hq
  refine wpAny_Tuple_spliced (thn (h pos pins s σ H _ I hq) fun us s1 ⟨xs,H1,I1,r,z,q⟩=>⟨by rw [←r.length]; exact z,?_⟩)
  have hf:H1 s1.heap.objs.size=none:=I1.hok.fresh (Nat.le_refl _)
  refine ⟨.ref s1.heap.objs.size,upd H1 s1.heap.objs.size (.tup xs),I1.laid (t':=s1.toks) (fun b u e=>Heap.get?_push_of_some _ e) (Nat.le_refl _) ?_,rfl,q _ hf⟩
  exact ⟨z,us,r,⟨_,Heap.get?_push_size _ rfl,rfl,_,rfl⟩⟩
theorem Zpk (h:PA X es t):PE X (.List es pos) (ZyH t):=by
  intro pins s σ H Q I hq
  refine wpAny_List_spliced (thn (h pos pins s σ H _ I hq) fun us s1 ⟨xs,H1,I1,r,z,q⟩=>⟨by rw [←r.length]; exact z,?_⟩)
  have hf:H1 s1.heap.objs.size=none:=I1.hok.fresh (Nat.le_refl _)
  refine ⟨.ref s1.heap.objs.size,upd H1 s1.heap.objs.size (.lst xs),I1.laid (t':=s1.toks) (fun b u e=>Heap.get?_push_of_some _ e) (Nat.le_refl _) ?_,rfl,q _ hf⟩
  exact ⟨z,us,0,r,Heap.get?_push_size _ rfl⟩
end
abbrev Sp:=List V→Hp→VK→XK→Prop
abbrev CXT:=List Env→Hp→Shared→XK→Value→Shared→Prop
structure Env0 (P:Program) (w:World) (K:PySem.W.Frag) (mg:Str→Option Value) (base:Heap) (A:Around) (outer:List Env) (s:Shared) (H:Hp):Prop where
  frames:A.frames=some outer
  mod:Mod K mg base
  bs:∀b o,base.get? b=some o→s.heap.get? b=some o∧H b=none
  bsz:base.objs.size≤s.heap.objs.size
  funs:s.heap.FunFrames base outer
  frf:∀b∈frs outer,H b=none
  hok:HOk P w H s.heap
  bare:AllBare s.gens
def CE (outer:List Env) (P:Program) (w:World) (H:Hp) (s:Shared) (Q:VK) (u:Value) (s':Shared):Prop:=
  ∃v H',s'.os=s.os∧AllBare s'.gens∧Un (frs outer) [] H H' s.heap s'.heap∧HOk P w H' s'.heap∧RelV v u∧Q v H'
def CR (CX:CXT) (outer:List Env) (P:Program) (w:World) (H:Hp) (s:Shared) (Q:VK) (E:XK) (r:Result) (s':Shared):Prop:=
  match r with
  | .ok (.ret u)=>CE outer P w H s Q u s'
  | .ok _=>False
  | .error e=>CX outer H s E e s'
structure FnOk (P:Program) (w:World) (K:PySem.W.Frag) (mg:Str→Option Value) (base:Heap) (CX:CXT) (k:Nat) (f:Addr) (fd:FuncData) (ps:List Str) (sp:Sp):Prop where
  len:∀vs H Q E,sp vs H Q E→vs.length=ps.length
  run:∀(A:Around) (outer:List Env) (s:Shared) (H:Hp) (args:Args) (us:List Value) (vs:List V) (Q:VK) (E:XK),Room k A→Env0 P w K mg base A outer s H→BindsTo s fd args (ps.zip us)→Vals vs us→sp vs H Q E→
    codeAny (model P w) A (.call (.ref f) args) (CR CX outer P w H s Q E) s
theorem FnOk.mono {P:Program} {w:World} {K:PySem.W.Frag} {mg:Str→Option Value} {base:Heap} {CX:CXT} {j k:Nat} {f:Addr} {fd:FuncData} {ps:List Str} {sp:Sp} (F:FnOk P w K mg base CX j f fd ps sp) (h:j≤k) :
    FnOk P w K mg base CX k f fd ps sp:=⟨F.len,fun A outer s H args us vs Q E hr=>F.run A outer s H args us vs Q E (hr.mono h)⟩
theorem FnOk.imp {P:Program} {w:World} {K:PySem.W.Frag} {mg:Str→Option Value} {base:Heap} {CX:CXT} {k:Nat} {f:Addr} {fd:FuncData} {ps:List Str} {sp sp':Sp} (F:FnOk P w K mg base CX k f fd ps sp)
    (h:∀vs H Q E,sp' vs H Q E→sp vs H Q E):FnOk P w K mg base CX k f fd ps sp':=
  ⟨fun vs H Q E q=>F.len vs H Q E (h _ _ _ _ q),fun A outer s H args us vs Q E hr he hb hv hs=>F.run A outer s H args us vs Q E hr he hb hv (h _ _ _ _ hs)⟩
theorem Env0.make {P:Program} {w:World} {K:PySem.W.Frag} {mg:Str→Option Value} {base:Heap} {A:Around} {outer:List Env} {s:Shared} {H:Hp} (e:Env0 P w K mg base A outer s H) (C:Addr) (us:List Value) (kw:List (Str×Value)) :
    Env0 P w K mg base (A.under (.builtin "type.__call__" ⟨.ref C::us,kw⟩)) outer s H:=⟨by first | exact e.frames | (simpa [Around.under,Code.envs,Code.isFrame,pushEnvs] using e.frames),e.mod,e.bs,e.bsz,e.funs,e.frf,e.hok,e.bare⟩
theorem Env0.in1 {P:Program} {w:World} {K:PySem.W.Frag} {mg:Str→Option Value} {base:Heap} {A:Around} {outer:List Env} {s:Shared} {H:Hp} (e:Env0 P w K mg base A outer s H) :
    Env0 P w K mg base A.in1 outer s H:=⟨e.frames,e.mod,e.bs,e.bsz,e.funs,e.frf,e.hok,e.bare⟩
section
variable {X:Cx} {pins:List (Addr×Obj)} {σ:St} {H:Hp} {s s':Shared}
theorem Inv.env0 (I:Inv X pins σ H s):Env0 X.prog X.w X.K X.mg X.base X.A X.stack s H:=
  ⟨I.ok.frames,I.ok.mod,I.bs,Nat.le_trans I.ok.bsz I.sz,I.stack,I.stkFree,I.hok,I.bare⟩
theorem Inv.after {Q:VK} {u:Value} (I:Inv X pins σ H s) (h:CE X.stack X.prog X.w H s Q u s'):EP X pins σ Q u s':=by
  obtain ⟨v,H',os,bare,un,hok,r,q⟩:=h
  obtain ⟨hh,g,d,t,os'⟩:=s'
  obtain rfl:os'=s.os:=os
  exact ⟨v,H',I.call (h':=hh) (g':=g) (d':=d) (t':=t) (ch:=[]) un hok bare (fun b z=>absurd z (by simp)),r,q⟩
end
def Zsk (sp:Sp) (dvs:List V) (E:XK) (t:TA):TE:=fun σ H Q=>t σ H fun vs H1=>sp (vs++dvs) H1 Q E
def Zsh (C:Addr) (sp:Sp) (dvs:List V) (E:XK) (t:TA):TE:=fun σ H Q=>t σ H fun vs H1=>∀x dx,H1 x=none→H1 dx=none→dx≠x→
  sp (.ref x::(vs++dvs)) (upd (upd H1 dx (.own x)) x (.ins C dx [])) (fun v H2=>v=.non∧Q (.ref x) H2) E
def Binds (K:PySem.W.Frag) (fd:FuncData) (ps:List Str) (ds:List Value):Prop:=
  ∀(s:Shared) (us:List Value),K.In s.heap→(us++ds).length=ps.length→BindsTo s fd ⟨us,[]⟩ (ps.zip (us++ds))
theorem Binds.all {K:PySem.W.Frag} {fd:FuncData} {ps:List Str} (h:∀us:List Value,us.length=ps.length→bindArgs fd ⟨us,[]⟩=pure (ps.zip us)):Binds K fd ps []:=fun s us _ hl=>by
  rw [List.append_nil] at hl ⊢
  exact .of_eq (h us hl)
def Zgm (CX:CXT) (X:Cx) (E:XK):Prop:=∀(pins:List (Addr×Obj)) (σ:St) (H:Hp) (s:Shared) (e:Value) (s':Shared),Inv X pins σ H s→CX X.stack H s E e s'→X.xe e s'
section
variable {X:Cx} {CX:CXT} {k:Nat} {f C:Addr} {fd:FuncData} {ps:List Str} {sp:Sp} {dvs:List V} {ds:List Value} {E:XK} {x m:Str} {p pos apos:Pos} {e o:Expr} {es:List Expr} {ta:TE} {t:TA}
theorem Zta {pins:List (Addr×Obj)} {σ:St} {H:Hp} {s:Shared} {Q:VK} {us:List Value} {vs:List V} (F:FnOk X.prog X.w X.K X.mg X.base CX k f fd ps sp) (hr:Room k X.A) (hb:Binds X.K fd ps ds) (hd:Vals dvs ds) (hx:Zgm CX X E)
    (I:Inv X pins σ H s) (r:Vals vs us) (h:sp (vs++dvs) H Q E):wpAny (model X.prog X.w) X.A (call (.ref f) us) (EP X pins σ Q) X.xe s:=by
  have r2:Vals (vs++dvs) (us++ds):=r.append hd
  have hl:(us++ds).length=ps.length:=by rw [←r2.length]; exact F.len _ _ _ _ h
  refine wpAny_call (codeAny_mono (F.run X.A X.stack s H ⟨us,[]⟩ (us++ds) (vs++dvs) Q E hr I.env0 (hb s us I.kIn hl) r2 h) fun r s' hq=>?_)
  cases r with
  | error e=>exact hx pins σ H s e s' I hq
  | ok fl=>
    cases fl with
    | ret u=>exact I.after hq
    | next=>exact False.elim hq
    | brk=>exact False.elim hq
    | cont=>exact False.elim hq
theorem Zro (F:FnOk X.prog X.w X.K X.mg X.base CX k f fd ps sp) (hr:Room k X.A) (hg:Gl X x) (hm:X.mg x=some (.ref f)) (hk:PySem.W.keepIn X.K (.ref f)=true) (hb:Binds X.K fd ps ds) (hd:Vals dvs ds) (hx:Zgm CX X E)
    (ha:PA X (e::es) t) (hdb:(x == ("__debug__":Str))=false:=by decide) (he:starEach (e::es) X.env=(false,eval e X.env)::starEach es X.env:=by rfl) (hpl:(backTo pos (starEach es X.env)).any (·.1)=false:=by rfl) :
    PE X (.Call (.Name x p) (e::es) [] pos) (Zsk sp dvs E t):=by
  intro pins s σ H Q I h
  refine wpAny_Call_Name_kw (ZgX I hg hm ?_ hdb)
  refine PySem.W.callWith_K (h₀:=X.base) I.ok.mod.kin hk (thn (ha pos pins s σ H _ I h) fun us s1 ⟨vs,H1,I1,r,q⟩=>⟨I1.kIn,?_⟩) he hpl
  exact Zta F hr hb hd hx I1 r q
structure Mk (K:PySem.W.Frag) (C f:Addr):Prop where
  makes:PySem.W.makesIn K C=true
  init:PySem.W.findIn K (.ref C) "__init__"=some (some (.ref f))
  fn:PySem.W.isFn K (.ref f)=true
  kp:PySem.W.keepIn K (.ref C)=true
theorem ZkF {pins:List (Addr×Obj)} {σ:St} {H:Hp} {s:Shared} {Q:VK} {us:List Value} {vs:List V} (M:Mk X.K C f) (F:FnOk X.prog X.w X.K X.mg X.base CX k f fd ps sp) (hr:Room (k+1) X.A) (hb:Binds X.K fd ps ds) (hd:Vals dvs ds)
    (hx:Zgm CX X E) (I:Inv X pins σ H s) (r:Vals vs us)
    (h:∀x dx,H x=none→H dx=none→dx≠x→sp (.ref x::(vs++dvs)) (upd (upd H dx (.own x)) x (.ins C dx [])) (fun v H2=>v=.non∧Q (.ref x) H2) E) :
    wpAny (model X.prog X.w) X.A (call (.ref C) us) (EP X pins σ Q) X.xe s:=by
  have hq:=h (s.heap.objs.size+1) s.heap.objs.size (I.hok.fresh (Nat.le_succ _)) (I.hok.fresh (Nat.le_refl _)) (Nat.ne_of_lt (Nat.lt_succ_self _))
  have I2:=Inv.made (C:=C) I
  have r2:Vals (V.ref (s.heap.objs.size+1)::(vs++dvs)) (Value.ref (s.heap.objs.size+1)::(us++ds)):=.cons rfl (r.append hd)
  have hl:(Value.ref (s.heap.objs.size+1)::us++ds).length=ps.length:=by
    have e:=r2.length
    rw [F.len _ _ _ _ hq] at e
    exact e.symm
  refine wpAny_call (ZpP (f:=f) I.kIn M.makes M.init (beq_iff_eq.mp M.fn) (codeAny_mono (F.run _ X.stack _ _ ⟨Value.ref (s.heap.objs.size+1)::us,[]⟩ (Value.ref (s.heap.objs.size+1)::(us++ds)) _ _ E (hr.make C us [])
    (I2.env0.make C us []) (hb _ (Value.ref (s.heap.objs.size+1)::us) I2.kIn hl) r2 hq) fun r s' hq'=>?_))
  cases r with
  | error e=>exact hx pins σ _ _ e s' I2 hq'
  | ok fl=>
    cases fl with
    | ret u=>
      obtain ⟨v,H',I3,rv,ev,q3⟩:=I2.after hq'
      subst ev
      exact ⟨rv,⟨V.ref (s.heap.objs.size+1),H',I3,rfl,q3⟩⟩
    | next=>exact False.elim hq'
    | brk=>exact False.elim hq'
    | cont=>exact False.elim hq'
theorem Zrl (M:Mk X.K C f) (F:FnOk X.prog X.w X.K X.mg X.base CX k f fd ps sp) (hr:Room (k+1) X.A) (hg:Gl X x) (hm:X.mg x=some (.ref C)) (hb:Binds X.K fd ps ds) (hd:Vals dvs ds) (hx:Zgm CX X E)
    (ha:PA X (e::es) t) (hdb:(x == ("__debug__":Str))=false:=by decide) (he:starEach (e::es) X.env=(false,eval e X.env)::starEach es X.env:=by rfl) (hpl:(backTo pos (starEach es X.env)).any (·.1)=false:=by rfl) :
    PE X (.Call (.Name x p) (e::es) [] pos) (Zsh C sp dvs E t):=by
  intro pins s σ H Q I h
  refine wpAny_Call_Name_kw (ZgX I hg hm ?_ hdb)
  refine PySem.W.callWith_K (h₀:=X.base) I.ok.mod.kin M.kp (thn (ha pos pins s σ H _ I h) fun us s1 ⟨vs,H1,I1,r,q⟩=>⟨I1.kIn,?_⟩) he hpl
  exact ZkF M F hr hb hd hx I1 r q
theorem Zpj (M:Mk X.K C f) (F:FnOk X.prog X.w X.K X.mg X.base CX k f fd ps sp) (hr:Room (k+1) X.A) (hg:Gl X x) (hm:X.mg x=some (.ref C)) (hb:Binds X.K fd ps ds) (hd:Vals dvs ds) (hx:Zgm CX X E)
    (hdb:(x == ("__debug__":Str))=false:=by decide):PE X (.Call (.Name x p) [] [] pos) (Zsh C sp dvs E Zs2):=by
  intro pins s σ H Q I h
  refine wpAny_Call_Name_kw (ZgX I hg hm ?_ hdb)
  exact PySem.W.callWith_K0 I.kIn M.kp (ZkF (us:=[]) M F hr hb hd hx I .nil h)
end
section
variable {X:Cx} {CX:CXT} {k:Nat} {f C:Addr} {fd:FuncData} {ps ks:List Str} {sp:Sp} {E:XK} {x m:Str} {p pos apos kpos:Pos} {e o:Expr} {es:List Expr} {kws:List Keyword} {te ta:TE} {t tk:TA} {nm:Option Str}
structure Zzr (K:PySem.W.Frag) (fd:FuncData) (ps ks:List Str) (g:List Value→List Value→List Value) (gV:List V→List V→List V):Prop where
  to:∀(s:Shared) (us ws:List Value),K.In s.heap→(g us ws).length=ps.length→BindsTo s fd ⟨us,ks.zip ws⟩ (ps.zip (g us ws))
  rel:∀{vs:List V} {us:List Value} {zs:List V} {ws:List Value},Vals vs us→Vals zs ws→Vals (gV vs zs) (g us ws)
variable {g:List Value→List Value→List Value} {gV:List V→List V→List V}
end
structure Zo (N P:List Str) (sc:Scope):Prop where
  kind:sc.kind=.function
  co:sc.isCoroutine=false
  gen:sc.isGenerator=false
  nd:N.Nodup
  pre:N.take P.length=P
  par:∀x∈P,sc.names.lookup x=some .local∨sc.names.lookup x=some .cell
  nofree:∀y∈sc.names,y.2≠.free
theorem Ziv {kindOf:Str→Option NameKind} {x:Str}:∀{binds:List (Str×Value)} {m:Str→Option Value},(∀v,(x,v)∉binds)→bindL kindOf binds m x=m x
  | [],_,_=>rfl
  | (n,v)::r,m,h=>by
    unfold bindL
    rw [Ziv fun w hw=>h w (List.mem_cons_of_mem _ hw)]
    split
    · have:x≠n:=by rintro rfl; exact h v List.mem_cons_self
      simp [this]
    · rfl
theorem Zix {kindOf:Str→Option NameKind} {x:Str}:∀{binds:List (Str×Value)} {m:Str→Option Value},(∀v,(x,v)∉binds)→bindC kindOf binds m x=m x
  | [],_,_=>rfl
  | (n,v)::r,m,h=>by
    unfold bindC
    rw [Zix fun w hw=>h w (List.mem_cons_of_mem _ hw)]
    split
    · rfl
    · have:x≠n:=by rintro rfl; exact h v List.mem_cons_self
      simp [this]
theorem Ziw {kindOf:Str→Option NameKind} {x:Str} {v:Value}:∀{P:List Str} {vs:List Value} {i:Nat} {m:Str→Option Value},P.Nodup→P[i]?=some x→vs[i]?=some v→kindOf x=some .local→
    bindL kindOf (P.zip vs) m x=some v
  | [],_,_,_,_,h,_,_=>by simp at h
  | _::_,[],_,_,_,_,h,_=>by simp at h
  | p::P,w::vs,0,m,nd,h1,h2,hk=>by
    simp at h1 h2; subst h1; subst h2
    show bindL kindOf ((p,w)::P.zip vs) m p=_
    unfold bindL
    rw [Ziv fun v hv=>(List.nodup_cons.mp nd).1 (List.of_mem_zip hv).1,if_pos hk]
    simp
  | p::P,w::vs,i+1,m,nd,h1,h2,hk=>by
    show bindL kindOf ((p,w)::P.zip vs) m x=_
    unfold bindL
    exact Ziw (i:=i) (List.nodup_cons.mp nd).2 (by simpa using h1) (by simpa using h2) hk
theorem Ziy {kindOf:Str→Option NameKind} {x:Str} {v:Value}:∀{P:List Str} {vs:List Value} {i:Nat} {m:Str→Option Value},P.Nodup→P[i]?=some x→vs[i]?=some v→kindOf x≠some .local→
    bindC kindOf (P.zip vs) m x=some v
  | [],_,_,_,_,h,_,_=>by simp at h
  | _::_,[],_,_,_,_,h,_=>by simp at h
  | p::P,w::vs,0,m,nd,h1,h2,hk=>by
    simp at h1 h2; subst h1; subst h2
    show bindC kindOf ((p,w)::P.zip vs) m p=_
    unfold bindC
    rw [Zix fun v hv=>(List.nodup_cons.mp nd).1 (List.of_mem_zip hv).1,if_neg hk]
    simp
  | p::P,w::vs,i+1,m,nd,h1,h2,hk=>by
    show bindC kindOf ((p,w)::P.zip vs) m x=_
    unfold bindC
    exact Ziy (i:=i) (List.nodup_cons.mp nd).2 (by simpa using h1) (by simpa using h2) hk
def Zdm (N:List Str) (vs:List V):St:=vs.map some++List.replicate (N.length-vs.length) none
def ZgR (CX:CXT) (P:Program) (w:World) (K:PySem.W.Frag) (mg:Str→Option Value) (base:Heap) (N:List Str) (qual:Str) (scope:Scope) (f:Addr) (cd:Value) (A:Around) (outer:List Env) (s:Shared) (H:Hp) (E:XK):Cx where
  prog:=P
  w:=w
  K:=K
  mg:=mg
  base:=base
  A:=A.deeper (envOfC qual scope s.heap.objs.size f cd)
  N:=N
  s₀:=s
  H₀:=H
  env:=envOfC qual scope s.heap.objs.size f cd
  outer:=outer
  stack:=envOfC qual scope s.heap.objs.size f cd::outer
  ex:=[]
  calm:=true
  fn:=fun _=>true
  pn:=[]
  xe:=fun e s'=>wpAny (model P w) (A.deeper (envOfC qual scope s.heap.objs.size f cd)) (leaving (envOfC qual scope s.heap.objs.size f cd) e) (fun _ s''=>CX outer H s E e s'') (fun e' s''=>CX outer H s E e' s'') s'
theorem Zle {sc:Scope} {n:Nat} {x:Str} (h:sc.names.lookup x=some .cell):∃c,(cellsFrom n sc.names []).lookup x=some c:=by
  have q:=PySem.W.cellsFrom_some sc.names n [] (.inl h)
  exact Option.isSome_iff_exists.mp q
theorem Znc {CX:CXT} {P:Program} {w:World} {K:PySem.W.Frag} {mg:Str→Option Value} {base:Heap} {N ps:List Str} {qual:Str} {scope:Scope} {f:Addr} {cd:Value} {A:Around} {outer:List Env} {s s1:Shared} {H:Hp} {E:XK} {us:List Value} {vs:List V}
    (S:Zo N ps scope) (hd:A.handled=none) (e0:Env0 P w K mg base A outer s H) (hl:vs.length=ps.length) (r:Vals vs us)
    (x:InCallC s s.heap.objs.size (bindL (envOfC qual scope s.heap.objs.size f cd).kindOf (ps.zip us) fun _=>none) (cellsFrom (s.heap.objs.size+1) scope.names []) (bindC (envOfC qual scope s.heap.objs.size f cd).kindOf (ps.zip us) fun _=>none) s1) :
    Inv (ZgR CX P w K mg base N qual scope f cd A outer s H E) [] (Zdm N vs) H s1:=by
  have hpl:ps.length≤N.length:=by have:=congrArg List.length S.pre; rw [List.length_take] at this; omega
  obtain ⟨h1,tk,rfl,hk⟩:=x.done
  have noA:∀b:Addr,b∉(ZgR CX P w K mg base N qual scope f cd A outer s H E).ex:=fun b z=>absurd (show b∈([]:List Addr) from z) (by simp)
  refine ⟨⟨e0.mod,S.kind,rfl,rfl,Nat.le_refl _,fun y z c h1 h2=>?_,fun y hy=>?_,fun y c _ h=>?_,fun _=>hd,Around.frames_deeper e0.frames,.inr ⟨rfl,rfl⟩,fun b z=>absurd z (noA b),e0.bs,e0.bsz,fun b _ _=>noA b,fun b z=>absurd z (noA b),e0.funs,e0.frf⟩,
    rfl,e0.bare,Un.kept hk,⟨_,x.toInCall.ns,fun i y v h1 h2 h3=>?_⟩,fun y c h=>⟨_,x.cell y c h⟩,e0.hok.fresh (Nat.le_refl _),fun y c h=>?_,fun p hp=>absurd (show p∈([]:List (Addr×Obj)) from hp) (by simp),e0.hok.kept hk,?_⟩
  · exact name_of_addr x.apart (PySem.mem_of_lookup h1) (PySem.mem_of_lookup h2)
  · have hy:scope.names.lookup y=some .cell∨scope.names.lookup y=some .free:=hy
    rcases hy with hy | hy
    · exact Zle hy
    · exact absurd rfl (S.nofree _ (PySem.mem_of_lookup hy))
  · exact Nat.le_of_lt (x.above y c (PySem.mem_of_lookup h))
  · have hi:i<vs.length:=by
      unfold Zdm at h2
      by_cases hi:i<vs.length
      · exact hi
      · rw [List.getElem?_append_right (by simpa using hi)] at h2
        rw [List.getElem?_replicate] at h2
        split at h2<;>cases h2
    have ha:vs[i]?=some v:=by
      unfold Zdm at h2
      rw [List.getElem?_append_left (by simpa using hi),List.getElem?_map] at h2
      cases e:vs[i]? with
      | none=>rw [e] at h2; cases h2
      | some a=>rw [e] at h2; cases h2; rfl
    obtain ⟨u,hu,rv⟩:=r.get ha
    have hp:ps[i]?=some y:=by
      rw [←S.pre,List.getElem?_take_of_lt (by omega)]; exact h1
    have ndP:ps.Nodup:=by rw [←S.pre]; exact S.nd.sublist (List.take_sublist _ _)
    refine ⟨u,rv,?_⟩
    rcases S.par y (List.mem_of_getElem? hp) with k | k
    · exact .inl ⟨k,Ziw ndP hp hu k⟩
    · obtain ⟨c,e⟩:=Zle (n:=s.heap.objs.size+1) k
      refine .inr ⟨.inl k,c,e,?_⟩
      have q:=x.cell y c e
      rw [Ziy ndP hp hu (by show scope.names.lookup y≠_; rw [k]; decide)] at q
      exact q
  · exact e0.hok.fresh (Nat.le_of_lt (x.above y c (PySem.mem_of_lookup h)))
  · unfold Zdm
    show _=N.length
    rw [List.length_append,List.length_map,List.length_replicate]
    omega
theorem ZvG {CX:CXT} {P:Program} {w:World} {K:PySem.W.Frag} {mg:Str→Option Value} {base:Heap} {k:Nat} {f:Addr} {name qual:Str} {params:Arguments} {body:List Stmt} {scope:Scope} {dV kV doc pm cdv ct oc:Value} {an od:Option Addr}
    {osl:Array (Option Value)} {N ps:List Str} {sp:Sp} (lk:K.lookup f=some ⟨oc,od,.func (PySem.W.fnOf name qual params body scope dV kV doc pm an cdv ct),osl⟩) (hcd:PySem.W.codeIn K cdv qual=true) (S:Zo N ps scope)
    (len:∀vs H Q E,sp vs H Q E→vs.length=ps.length)
    (hbody:∀(A:Around) (outer:List Env) (s:Shared) (H:Hp) (vs:List V) (Q:VK) (E:XK),Room k (A.deeper (envOfC qual scope s.heap.objs.size f cdv))→sp vs H Q E→
      ∃t,PSs (ZgR CX P w K mg base N qual scope f cdv A outer s H E) body t∧t { nx:=fun _ H'=>Q .non H',rt:=Q } (Zdm N vs) H) :
    FnOk P w K mg base CX (k+1) f (PySem.W.fnOf name qual params body scope dV kV doc pm an cdv ct) ps sp:=by
  refine ⟨len,fun A outer s H args us vs Q E hr e0 hb r hsp=>?_⟩
  have hl:=len _ _ _ _ hsp
  have KX:K.In s.heap:=e0.mod.kin.keeps fun b o e=>(e0.bs b o e).1
  have lim:s.heap.NoLimit:=e0.mod.nolimit.keeps fun b o e=>(e0.bs b o e).1
  have hkind:∀y∈ps.zip us,scope.names.lookup y.1=some .local∨(scope.names.lookup y.1=some .cell∧((cellsFrom (s.heap.objs.size+1) scope.names []).lookup y.1).isSome=true):=fun ⟨n,v⟩ hy=>by
    rcases S.par n (List.of_mem_zip hy).1 with q | q
    · exact .inl q
    · exact .inr ⟨q,PySem.W.cellsFrom_some _ _ _ (.inl q)⟩
  refine codeAny_call_function hr.depth (KX _ _ lk) rfl S.co S.gen rfl (PySem.W.codeRec_of KX hcd) (hb _ _ _ _ ?_)
  refine wpAny_newFunctionEnv_cells S.kind hkind fun env he s1 x=>?_
  subst he
  refine ⟨lim.keeps x.toInCall.keep,codeAny_func ?_⟩
  obtain ⟨t,ht,hq⟩:=hbody A outer s H vs Q E (hr.deeper _) hsp
  have I:Inv (ZgR CX P w K mg base N qual scope f cdv A outer s H E) [] (Zdm N vs) H s1:=Znc S hr.hd e0 hl r x
  refine wpAny_mono (ht [] s1 (Zdm N vs) H _ I hq) (fun fl s' hs=>?_) fun e s' hs=>hs
  have fin:∀{σ':St} {H':Hp} {v:V} {u:Value},Inv (ZgR CX P w K mg base N qual scope f cdv A outer s H E) [] σ' H' s'→RelV v u→Q v H'→CE outer P w H s Q u s':=
    fun {σ' H' v u} J rv q=>⟨v,H',J.os,J.bare,J.base,J.hok,rv,q⟩
  cases fl with
  | ret u=>
    obtain ⟨v,σ',H',J,rv,q⟩:=hs
    exact fin J rv q
  | next=>
    obtain ⟨σ',H',J,q⟩:=hs
    exact fin (v:=V.non) (u:=Value.none) J rfl q
  | brk=>
    obtain ⟨_,_,_,q⟩:=hs
    exact False.elim q
  | cont=>
    obtain ⟨_,_,_,q⟩:=hs
    exact False.elim q
end L2
namespace L2
open PySem PySem.Spec PyProof.Rows
section
variable {X:Cx} {x:Str} {p pos:Pos} {e:Expr} {es:List Expr} {t:TA} {id T:String} {r:List V→Hp→VK→Prop}
def tCB (r:List V→Hp→VK→Prop) (t:TA):TE:=fun σ H Q=>t σ H fun vs H1=>r vs H1 Q
theorem Zpr (hc:CallR X (.builtin id) r) (hg:Gl X x) (hm:X.mg x=none) (hv:bootBuiltins x=some (.builtin id)) (ha:PA X (e::es) t) (hn:x≠"__name__":=by decide) (hdb:(x == ("__debug__":Str))=false:=by decide)
    (he:starEach (e::es) X.env=(false,eval e X.env)::starEach es X.env:=by rfl) (hpl:(backTo pos (starEach es X.env)).any (·.1)=false:=by rfl):PE X (.Call (.Name x p) (e::es) [] pos) (tCB r t):=by
  intro pins s σ H Q I h
  refine wpAny_Call_Name_kw (Zhq I hg hm hv ?_ hn hdb)
  exact PyProof.Rows.callWith_builtin1 (thn (ha pos pins s σ H _ I h) fun us s1 ⟨vs,H1,I1,r1,q1⟩=>hc pins s1 σ H1 vs us Q I1 r1 q1) he hpl
theorem Zm0 (hc:CallR X (.type T) r) (hg:Gl X x) (hm:X.mg x=none) (hv:bootBuiltins x=some (.type T)) (ha:PA X (e::es) t) (hn:x≠"__name__":=by decide) (hdb:(x == ("__debug__":Str))=false:=by decide)
    (he:starEach (e::es) X.env=(false,eval e X.env)::starEach es X.env:=by rfl) (hpl:(backTo pos (starEach es X.env)).any (·.1)=false:=by rfl):PE X (.Call (.Name x p) (e::es) [] pos) (tCB r t):=by
  intro pins s σ H Q I h
  refine wpAny_Call_Name_kw (Zhq I hg hm hv ?_ hn hdb)
  exact PyProof.Rows.callWith_type1 (thn (ha pos pins s σ H _ I h) fun us s1 ⟨vs,H1,I1,r1,q1⟩=>hc pins s1 σ H1 vs us Q I1 r1 q1) he hpl
end
end L2
namespace HT
open PySem PyProof.Rows
section
open PySem.SeqAt
open PySem.AutoSeq1 (wpAny_loadPart')
open PySem.MeetsSeq PySem.MeetsSeq2 PySem.MeetsSeq3
end
section
variable {prog:Program} {w:World} {A:Around} {E:Value→Shared→Prop} {s:Shared}
theorem cat_tup {t b:Addr} {vs ws:List Value} {Q:Value→Shared→Prop} (ht:IsTup s.heap t vs.toArray) (hb:IsTup s.heap b ws.toArray) (hv:vs≠[])
    (h1:ws=[]→Q (.ref t) s) (h2:ws≠[]→Q (.ref s.heap.objs.size) { s with heap:=s.heap.push { cls:=.type "tuple",data:=.seq (vs++ws).toArray } })
    (hsz:vs.length+ws.length≤sizeLine):wpAny (model prog w) A (binaryOp .Add (.ref t) (.ref b)) Q E s:=by
  obtain ⟨⟨cls,dd,data,sl⟩,ho,hc,n,hd⟩:=id ht
  obtain ⟨⟨cls2,dd2,data2,sl2⟩,ho2,hc2,n2,hd2⟩:=id hb
  simp only at hc hd hc2 hd2
  subst hc hd hc2 hd2
  have e:vs.toArray++ws.toArray=(vs++ws).toArray:=by simp
  by_cases hw:ws=[]
  · exact concat_meets ⟨_,ho,rfl⟩ ⟨_,ho2,rfl⟩ noFill_tuple_add seq_tuple_add PySem.F.slot_tuple_add PySem.F.entry_tuple_add (PySem.F.args_tuple_add_2 _ _)
      (tuple_addW1 t b vs.toArray ws.toArray n n2 dd dd2 sl sl2 (by simpa using hv) (by simp [hw])) ⟨ho,ho2,h1 hw⟩
  · refine concat_meets ⟨_,ho,rfl⟩ ⟨_,ho2,rfl⟩ noFill_tuple_add seq_tuple_add PySem.F.slot_tuple_add PySem.F.entry_tuple_add (PySem.F.args_tuple_add_2 _ _)
      (tuple_addW2 t b vs.toArray ws.toArray n n2 dd dd2 sl sl2 (by simpa using hv) (by simpa using hw) (by rw [List.size_toArray,List.size_toArray]; exact hsz)) ⟨ho,ho2,?_⟩
    rw [e]
    exact h2 hw
def sIx (n d:Nat):Option Int→Nat
  | none=>d
  | some v=>if v<0 then (v+(n:Int)).toNat else min v.toNat n
theorem sIx_none (n d:Nat):sIx n d none=d:=rfl
theorem sIx_nat (n d k:Nat):sIx n d (some (k:Int))=min k n:=by
  show (if (k:Int)<0 then ((k:Int)+(n:Int)).toNat else min (k:Int).toNat n)=min k n
  rw [if_neg (by omega),Int.toNat_natCast]
theorem Zs9 (n d:Nat) (hd:d≤n) (o:Option Int):sIx n d o≤n:=by
  cases o with
  | none=>exact hd
  | some v=>
    show (if v<0 then (v+(n:Int)).toNat else min v.toNat n)≤n
    by_cases hv:v<0
    · rw [if_pos hv]; omega
    · rw [if_neg hv]; exact Nat.min_le_right _ _
theorem Zmz (v:Int) (n d:Nat):(if v<0 then max (v+(n:Int)) 0 else min v (n:Int))=((sIx n d (some v):Nat):Int):=by
  show (if v<0 then max (v+(n:Int)) 0 else min v (n:Int))=(((if v<0 then (v+(n:Int)).toNat else min v.toNat n):Nat):Int)
  by_cases hv:v<0
  · simp only [if_pos hv]; omega
  · simp only [if_neg hv]; omega
theorem ZlR (lo hi:Option Int) (n:Nat):Builtin.Slice.sliceAdjust lo hi 1 (n:Int)=(((sIx n 0 lo:Nat):Int),((sIx n n hi:Nat):Int)):=by
  have h1:¬((1:Int)<0):=by omega
  unfold Builtin.Slice.sliceAdjust
  simp only [h1,if_false]
  refine Prod.ext ?_ ?_
  · cases lo with
    | none=>rfl
    | some v=>exact Zmz v n 0
  · cases hi with
    | none=>rfl
    | some v=>exact Zmz v n n
theorem Zlz (i j:Nat):Builtin.Slice.slicePlaces (i:Int) (j:Int) 1=j-i:=by
  unfold Builtin.Slice.slicePlaces
  have h1:(1:Int) > 0:=by omega
  simp only [h1,if_true,Int.ediv_one]
  split<;>omega
theorem Zhf {v:Value} {o:Option Int} {Q:Option Int→Shared→Prop} (p:IsPart v o) (h:Q o s):wpAny (model prog w) A (Builtin.Slice.slicePartIndex v) Q E s:=by
  cases p with
  | none=>exact slicePart_none h
  | int i t=>exact slicePart_int h
theorem ZfX {sl:Addr} {vl vu:Value} {lo hi:Option Int} {n:Nat} {Q:Int×Int×Nat→Shared→Prop} (hs:s.heap.IsSliceOf sl vl vu .none) (pl:IsPart vl lo) (pu:IsPart vu hi)
    (h:Q (((sIx n 0 lo:Nat):Int),1,sIx n n hi-sIx n 0 lo) s):wpAny (model prog w) A (Builtin.Slice.sliceApplied (.ref sl) (pure (n:Int))) Q E s:=by
  obtain ⟨os,hos,hcs,hds⟩:=id hs
  unfold Builtin.Slice.sliceApplied Builtin.Slice.sliceFields
  refine wpAny_bind (wpAny_bind (wpAny_field hos hds (x:=vl) rfl (wpAny_bind (wpAny_field hos hds (x:=vu) rfl (wpAny_bind (wpAny_field hos hds (x:=.none) rfl (wpAny_pure ?_)))))))
  refine wpAny_bind (slicePart_none ?_)
  show wpAny _ _ (if ((1:Int) == 0)=true then _ else _) _ _ s
  rw [if_neg (by decide)]
  refine wpAny_bind (Zhf pl (wpAny_bind (Zhf pu (wpAny_bind (wpAny_pure ?_)))))
  show wpAny _ _ (match Builtin.Slice.sliceAdjust lo hi 1 (n:Int) with | (lo,hi)=>pure (lo,(1:Int),Builtin.Slice.slicePlaces lo hi 1)) _ _ s
  rw [ZlR lo hi n]
  show wpAny _ _ (pure (((sIx n 0 lo:Nat):Int),(1:Int),Builtin.Slice.slicePlaces ((sIx n 0 lo:Nat):Int) ((sIx n n hi:Nat):Int) 1)) _ _ s
  rw [Zlz]
  exact wpAny_pure h
theorem Zpg (xs:Array Value) (i k:Nat):((List.range k).filterMap fun (m:Nat)=>xs[((i:Int)+(m:Int)*1).toNat]?).toArray=((xs.toList.drop i).take k).toArray:=by
  have e:(fun (m:Nat)=>xs[((i:Int)+(m:Int)*1).toNat]?)=fun m=>xs[i+m]?:=by
    funext m
    have:((i:Int)+(m:Int)*1).toNat=i+m:=by omega
    rw [this]
  rw [e]
  have:=pick_run xs i k
  rw [List.filterMap_map] at this
  have e2:((fun x=>xs[x]?)∘fun x=>i+x)=fun m=>xs[i+m]?:=rfl
  rw [e2] at this
  rw [this]
theorem getItem_tuple_cut {t sl:Addr} {items:Array Value} {vl vu:Value} {lo hi:Option Int} {Q:Value→Shared→Prop} (ht:IsTup s.heap t items) (hs:s.heap.IsSliceOf sl vl vu .none) (pl:IsPart vl lo) (pu:IsPart vu hi)
    (hw:¬(sIx items.size 0 lo=0∧sIx items.size items.size hi=items.size))
    (h:Q (.ref s.heap.objs.size) { s with heap:=s.heap.push { cls:=.type "tuple",data:=.seq ((items.toList.drop (sIx items.size 0 lo)).take (sIx items.size items.size hi-sIx items.size 0 lo)).toArray } })
    (hsz:items.size≤sizeLine):wpAny (model prog w) A (getItem (.ref t) (.ref sl)) Q E s:=by
  have htake:sizeOk (.seq ((items.toList.drop (sIx items.size 0 lo)).take (sIx items.size items.size hi-sIx items.size 0 lo)).toArray):=by
    show ((items.toList.drop (sIx items.size 0 lo)).take (sIx items.size items.size hi-sIx items.size 0 lo)).toArray.size≤sizeLine
    rw [List.size_toArray,List.length_take,List.length_drop,Array.length_toList]
    omega
  have hj:sIx items.size items.size hi≤items.size:=Zs9 _ _ (Nat.le_refl _) hi
  obtain ⟨os,hos,hcs,hds⟩:=id hs
  have hTs:s.TypeIs (.ref sl) "slice":=⟨os,hos,hcs⟩
  unfold getItem
  try with_reducible refine wpAny_holding ?_
  first | refine wpAny_bind (wpAny_pure ?_) | skip
  refine wpAny_bind (wpAny_sequenceKey ht.typeIs (by decide) ?_)
  refine wpAny_bind (wpAny_callSpecial?_slot (name:=Str.ofString "__getitem__") ht.typeIs PyProof.Rows.slot_tuple_getitem
    (wpAny_call_entry PyProof.Rows.slot_tuple_getitem ht.typeIs entry_tuple_getitem ?_ (args_tuple_getitem _ _)))
  show wpAny _ _ (Builtin.Tuple.tupleItemsOf (.ref t) >>= _) _ _ s
  refine wpAny_bind (tupleItemsOf_ ht ?_)
  refine wpAny_bind (wpAny_typeOf hTs ?_)
  rw [if_pos (by decide)]
  refine wpAny_bind (ZfX hs pl pu ?_)
  have hno:¬((((sIx items.size 0 lo:Nat):Int) == 0 && (1:Int) == 1 && (sIx items.size items.size hi-sIx items.size 0 lo) == items.size)=true):=by
    intro q
    rw [Bool.and_eq_true,Bool.and_eq_true] at q
    have q1:((sIx items.size 0 lo:Nat):Int)=0:=eq_of_beq q.1.1
    have q2:sIx items.size items.size hi-sIx items.size 0 lo=items.size:=eq_of_beq q.2
    exact hw ⟨by omega,by omega⟩
  show wpAny _ _ (if (((sIx items.size 0 lo:Nat):Int) == 0 && (1:Int) == 1 && (sIx items.size items.size hi-sIx items.size 0 lo) == items.size)=true then _ else _) _ _ s
  rw [if_neg hno,Zpg]
  first
    | exact wpAny_bind (m:=Builtin.Tuple.tupleExact _) (wpAny_newObj_type (wpAny_pure ⟨_,rfl,wpAny_pure h⟩) htake)
    | exact wpAny_bind (m:=Builtin.Tuple.tupleExact _) (wpAny_newObj_type (wpAny_bind (wpAny_pure (wpAny_pure ⟨_,rfl,wpAny_pure h⟩))) htake)
    | exact wpAny_bind (wpAny_bind (m:=Builtin.Tuple.tupleExact _) (wpAny_newObj_type (wpAny_pure (wpAny_pure ⟨_,rfl,wpAny_pure h⟩)) htake))
    | exact wpAny_bind (wpAny_bind (m:=Builtin.Tuple.tupleExact _) (wpAny_newObj_type (wpAny_pure ⟨_,rfl,wpAny_pure h⟩) htake))
end
end HT
namespace L2
open PySem PySem.Spec PyProof.Rows
abbrev TO:=St→Hp→(Option Int→Hp→Prop)→Prop
def PO (X:Cx) (e:Option Expr) (t:TO):Prop:=
  ∀(pins:List (Addr×Obj)) (s:Shared) (σ:St) (H:Hp) (Q:Option Int→Hp→Prop),Inv X pins σ H s→t σ H Q→
    wpAny (model X.prog X.w) X.A (evalPart e X.env) (fun u s'=>∃o H',Inv X pins σ H' s'∧IsPart u o∧Q o H') X.xe s
def ZqZ:TO:=fun _ H Q=>Q none H
def ZuP (t:TE):TO:=fun σ H Q=>t σ H fun x H1=>∃i,x=.int i∧Q (some i) H1
section
variable {X:Cx} {e:Expr} {te:TE} {lo hi:Option Expr} {tl th:TO} {pos p2:Pos}
theorem Zrh:PO X none ZqZ:=by
  intro pins s σ H Q I h
  rw [evalPart_none]
  exact wpAny_pure ⟨none,H,I,.none,h⟩
theorem Zrg (h:PE X e te):PO X (some e) (ZuP te):=by
  intro pins s σ H Q I hw
  rw [evalPart_some]
  refine thn (h pins s σ H _ I hw) fun u s1 ⟨x,H1,I1,r1,q1⟩=>?_
  obtain ⟨i,rfl,q⟩:=q1
  obtain ⟨t,rfl⟩:=r1
  exact ⟨some i,H1,I1,.int i t,q⟩
def SlR (X:Cx) (r:V→Option Int→Option Int→Hp→VK→Prop):Prop:=
  ∀(pins:List (Addr×Obj)) (s:Shared) (σ:St) (H:Hp) (x:V) (v vl vu:Value) (lo hi:Option Int) (sl:Addr) (Q:VK),Inv X pins σ H s→RelV x v→s.heap.IsSliceOf sl vl vu .none→IsPart vl lo→IsPart vu hi→r x lo hi H Q→
    ∃T id,typeLookup (.type T) "__getitem__"=pure (some (.builtin id))∧s.TypeIs v T∧wpAny (model X.prog X.w) X.A (getItem v (.ref sl)) (EP X pins σ Q) X.xe s
theorem SlR.or {r r':V→Option Int→Option Int→Hp→VK→Prop} (h:SlR X r) (h':SlR X r'):SlR X (fun x lo hi H Q=>r x lo hi H Q∨r' x lo hi H Q):=by
  intro pins s σ H x v vl vu lo hi sl Q I rx hs pl pu q
  rcases q with q | q
  · exact h pins s σ H x v vl vu lo hi sl Q I rx hs pl pu q
  · exact h' pins s σ H x v vl vu lo hi sl Q I rx hs pl pu q
def tSl (r:V→Option Int→Option Int→Hp→VK→Prop) (te:TE) (tl th:TO):TE:=fun σ H Q=>te σ H fun x H1=>tl σ H1 fun l H2=>th σ H2 fun u H3=>r x l u H3 Q
theorem Zpi {r:V→Option Int→Option Int→Hp→VK→Prop} (hr:SlR X r) (he:PE X e te) (hl:PO X lo tl) (hu:PO X hi th):PE X (.Subscript e (.Slice lo hi none p2) pos) (tSl r te tl th):=by
  intro pins s σ H Q I h
  refine Subscript_ (thn (he pins s σ H _ I h) fun v s1 ⟨x,H1,I1,r1,q1⟩=>?_)
  refine wpAny_Slice (thn (hl pins s1 σ H1 _ I1 q1) fun vl s2 ⟨l,H2,I2,pl,q2⟩=>thn (hu pins s2 σ H2 _ I2 q2) fun vu s3 ⟨u,H3,I3,pu,q3⟩=>?_)
  rw [evalPart_none]
  refine wpAny_pure ?_
  have I4:Inv X pins σ H3 { s3 with heap:=s3.heap.push { cls:=.type "slice",data:=.fields #[vl,vu,.none] } }:=I3.kept (t':=s3.toks) fun b ob q=>Heap.get?_push_of_some _ q
  obtain ⟨T,id,hT,ht,hg⟩:=hr pins { s3 with heap:=s3.heap.push { cls:=.type "slice",data:=.fields #[vl,vu,.none] } } σ H3 x v vl vu l u s3.heap.objs.size Q I4 r1 (Heap.IsSliceOf.new ..) pl pu q3
  show wpAny (model X.prog X.w) X.A (subscriptTail e (.Slice lo hi none p2) v (.ref s3.heap.objs.size)) (EP X pins σ Q) X.xe { s3 with heap:=s3.heap.push { cls:=.type "slice",data:=.fields #[vl,vu,.none] } }
  exact tail_any (ops:=[.ref s3.heap.objs.size,v]) ht hT hg (by with_unfolding_all rfl)
def Zla (xs:List V) (lo hi:Option Int):List V:=(xs.drop (HT.sIx xs.length 0 lo)).take (HT.sIx xs.length xs.length hi-HT.sIx xs.length 0 lo)
theorem Zgv (xs:List V) (lo hi:Option Int):(Zla xs lo hi).length≤xs.length:=by
  unfold Zla
  rw [List.length_take,List.length_drop]
  omega
def ZyT (K:PySem.W.Frag):V→Option Int→Option Int→Hp→VK→Prop:=fun x lo hi H Q=>∃a xs,x=.ref a∧SqT K H a xs∧
  ¬(HT.sIx xs.length 0 lo=0∧HT.sIx xs.length xs.length hi=xs.length)∧∀p,H p=none→Q (.ref p) (upd H p (.tup (Zla xs lo hi)))
theorem Zs6:SlR X (ZyT X.K):=by
  intro pins s σ H x v vl vu lo hi sl Q I rx hs pl pu h
  obtain ⟨a,xs,rfl,hx,hw,q⟩:=h
  cases rx
  obtain ⟨its,r,ht,hz⟩:=I.tuple hx
  have hlen:its.toArray.size=xs.length:=by rw [List.size_toArray]; exact r.length.symm
  refine ⟨"tuple",_,PyProof.Rows.slot_tuple_getitem.lookup,ht.typeIs,?_⟩
  refine HT.getItem_tuple_cut ht hs pl pu (by rw [hlen]; exact hw) ?_ (by rw [hlen]; exact hz)
  rw [hlen]
  refine ⟨.ref s.heap.objs.size,_,I.laid (t':=s.toks) (o:=.tup (Zla xs lo hi)) (fun b ob q=>Heap.get?_push_of_some _ q) (Nat.le_refl _) ?_,rfl,q _ (I.hok.fresh (Nat.le_refl _))⟩
  exact ⟨Nat.le_trans (Zgv xs lo hi) hz,_,(r.drop (HT.sIx xs.length 0 lo)).take (HT.sIx xs.length xs.length hi-HT.sIx xs.length 0 lo),IsTup.new _ _⟩
def Zu3 (K:PySem.W.Frag):R2:=fun x y H Q=>∃a b xs ys,x=.ref a∧y=.ref b∧SqT K H a xs∧SqT K H b ys∧xs≠[]∧xs.length+ys.length≤sizeLine∧
  (ys=[]→Q (.ref a) H)∧(ys≠[]→∀p,H p=none→Q (.ref p) (upd H p (.tup (xs++ys))))
theorem Vals.nil_iff {xs:List V} {us:List Value} (r:Vals xs us):us=[]↔xs=[]:=by
  cases r with
  | nil=>simp
  | cons _ _=>simp
theorem op_catT:OpR X (binaryOp .Add) (Zu3 X.K):=by
  intro pins s σ H x y v u Q I rx ry h
  obtain ⟨a,b,xs,ys,rfl,rfl,ha,hb,hx,hz,q1,q2⟩:=h
  cases rx
  cases ry
  obtain ⟨its,r1,p1,_⟩:=I.tuple ha
  obtain ⟨its2,r2,p2,_⟩:=I.tuple hb
  refine HT.cat_tup p1 p2 (fun z=>hx (r1.nil_iff.mp z)) (fun z=>⟨.ref a,H,I,rfl,q1 (r2.nil_iff.mp z)⟩) (fun z=>?_) (by rw [←r1.length,←r2.length]; exact hz)
  refine ⟨.ref s.heap.objs.size,_,I.laid (t':=s.toks) (o:=.tup (xs++ys)) (fun b ob q=>Heap.get?_push_of_some _ q) (Nat.le_refl _) ?_,rfl,q2 (fun w=>z (r2.nil_iff.mpr w)) _ (I.hok.fresh (Nat.le_refl _))⟩
  exact ⟨by rw [List.length_append]; exact hz,_,r1.append r2,IsTup.new _ _⟩
end
end L2
namespace L2
open PySem PySem.Spec PyProof.Rows
def ixN (n:Nat) (i:Int):Option Nat:=if 0≤i then (if i<n then some i.toNat else none) else if -(n:Int)≤i then some (i+n).toNat else none
def atI {α:Type} (xs:List α) (i:Int):Option α:=(ixN xs.length i).bind fun j=>xs[j]?
theorem ZrD {n:Nat} {i:Int} {j:Nat} (h:ixN n i=some j):seqIndex? i n=some j∧j<n∧-(n:Int)≤i∧i<n:=by
  unfold ixN at h
  by_cases h0:0≤i
  · rw [if_pos h0] at h
    by_cases h1:i<n
    · rw [if_pos h1] at h
      have e:i.toNat=j:=Option.some.inj h
      exact ⟨by rw [seqIndex_of h0 h1,e],by omega,by omega,h1⟩
    · rw [if_neg h1] at h; cases h
  · rw [if_neg h0] at h
    by_cases h1 : -(n:Int)≤i
    · rw [if_pos h1] at h
      have e:(i+n).toNat=j:=Option.some.inj h
      exact ⟨by rw [seqIndex_neg (by omega) h1,e],by omega,h1,by omega⟩
    · rw [if_neg h1] at h; cases h
theorem Zi7 {α:Type} {xs:List α} {i:Int} {v:α} (h:atI xs i=some v):∃j,seqIndex? i xs.length=some j∧xs[j]?=some v∧j<xs.length∧-(xs.length:Int)≤i∧i<xs.length:=by
  unfold atI at h
  cases e:ixN xs.length i with
  | none=>rw [e] at h; cases h
  | some j=>
    rw [e] at h
    obtain ⟨h1,h2,h3,h4⟩:=ZrD e
    exact ⟨j,h1,h,h2,h3,h4⟩
theorem ZeW {α:Type} {xs:List α} {j:Nat} {v:α} (h:xs[j]?=some v):atI xs (j:Int)=some v:=by
  have hj:j<xs.length:=(List.getElem?_eq_some_iff.mp h).1
  have e:ixN xs.length (j:Int)=some j:=by
    unfold ixN
    rw [if_pos (by omega),if_pos (by omega)]; simp
  unfold atI; rw [e]; exact h
def ZmL (b:Expr):Prop:=∀o i,subscripted b false o i=operate [o,i] (getItem o i)
def IxR (X:Cx) (r:R2):Prop:=
  ∀(value slice:Expr) (pins:List (Addr×Obj)) (s:Shared) (σ:St) (H:Hp) (x y:V) (v u:Value) (Q:VK),Inv X pins σ H s→RelV x v→RelV y u→r x y H Q→
    subscripted slice false v u=operate [v,u] (getItem v u)→wpAny (model X.prog X.w) X.A (subscriptTail value slice v u) (EP X pins σ Q) X.xe s
def MtR (X:Cx) (id:String) (r:V→List V→Hp→VK→Prop):Prop:=
  ∀(pins:List (Addr×Obj)) (s:Shared) (σ:St) (H:Hp) (x:V) (xs:List V) (v:Value) (us:List Value) (Q:VK),Inv X pins σ H s→RelV x v→Vals xs us→r x xs H Q→
    wpAny (model X.prog X.w) X.A (call (.builtin id) (v::us)) (EP X pins σ Q) X.xe s
section
variable {X:Cx} {a b:Expr} {ta tb:TE} {pos:Pos}
theorem IxR.or {r r':R2} (h:IxR X r) (h':IxR X r'):IxR X (fun x y H Q=>r x y H Q∨r' x y H Q):=by
  intro value slice pins s σ H x y v u Q I rx ry q hs
  rcases q with q | q
  · exact h value slice pins s σ H x y v u Q I rx ry q hs
  · exact h' value slice pins s σ H x y v u Q I rx ry q hs
theorem MtR.or {id:String} {r r':V→List V→Hp→VK→Prop} (h:MtR X id r) (h':MtR X id r'):MtR X id (fun x xs H Q=>r x xs H Q∨r' x xs H Q):=by
  intro pins s σ H x xs v us Q I rx rs q
  rcases q with q | q
  · exact h pins s σ H x xs v us Q I rx rs q
  · exact h' pins s σ H x xs v us Q I rx rs q
theorem Zvd {r:R2} (hr:IxR X r) (ha:PE X a ta) (hb:PE X b tb) (hs:ZmL b):PE X (.Subscript a b pos) (tOp r ta tb):=by
  intro pins s σ H Q I h
  exact Subscript_ (ZtX ha hb I h fun v u s2 x y H2 I2 rx ry q=>hr a b pins s2 σ H2 x y v u Q I2 rx ry q (hs _ _))
def Zu2 (K:PySem.W.Frag):R2:=fun x y H Q=>∃p xs i v,x=.ref p∧y=.int i∧SqL K H p xs∧atI xs i=some v∧Q v H
def Zu0 (K:PySem.W.Frag):R2:=fun x y H Q=>∃p xs i v,x=.ref p∧y=.int i∧SqT K H p xs∧atI xs i=some v∧Q v H
def Zu1:R2:=fun x y H Q=>∃z i c,x=.str z∧y=.int i∧z.length≤sizeLine∧atI z.cps.toList i=some c∧Q (.str ⟨#[c]⟩) H
theorem ix_list:IxR X (Zu2 X.K):=by
  intro value slice pins s σ H x y v u Q I rx ry h hs
  obtain ⟨p,xs,i,z,rfl,rfl,hq,he,q⟩:=h
  cases rx
  obtain ⟨t,rfl⟩:=ry
  obtain ⟨its,r,pl,hz⟩:=I.list hq
  obtain ⟨j,h1,h2,h3,h4,h5⟩:=Zi7 he
  obtain ⟨w,ew,rw'⟩:=r.get h2
  have hl:=r.length
  have hn:=Zf5
  have fin:EP X pins σ Q w s:=⟨z,H,I,rw',q⟩
  by_cases h0:0≤i
  · have hj:i.toNat=j:=by
      rw [seqIndex_of h0 h5] at h1
      exact Option.some.inj h1
    exact item_listR pl.isList h0 (by omega) (by rw [hj]; simpa using ew) fin hs
  · have hj:(i+(its.toArray.size:Int)).toNat=j:=by
      rw [seqIndex_neg (by omega) h4] at h1
      rw [List.size_toArray,←hl]
      exact Option.some.inj h1
    exact subscriptTail_builtinR (x:=w) pl.isList.typeIs slot_list_getitem.lookup
      (wpAny_getItem_list_neg (Q:=fun r s'=>r=w∧EP X pins σ Q r s') pl.isList (by omega) (by rw [List.size_toArray]<;>omega) (by omega) (by rw [hj]; simpa using ew) ⟨rfl,fin⟩) hs
theorem ix_tup:IxR X (Zu0 X.K):=by
  intro value slice pins s σ H x y v u Q I rx ry h hs
  obtain ⟨p,xs,i,z,rfl,rfl,hq,he,q⟩:=h
  cases rx
  obtain ⟨t,rfl⟩:=ry
  obtain ⟨its,r,pl,hz⟩:=I.tuple hq
  obtain ⟨j,h1,h2,h3,h4,h5⟩:=Zi7 he
  obtain ⟨w,ew,rw'⟩:=r.get h2
  have hl:=r.length
  have hn:=Zf5
  have fin:EP X pins σ Q w s:=⟨z,H,I,rw',q⟩
  exact subscriptTail_builtinR (x:=w) pl.typeIs slot_tuple_getitem.lookup
    (getItem_tuple (j:=j) (Q:=fun r s'=>r=w∧EP X pins σ Q r s') pl (by omega) (by omega) (by rw [List.size_toArray,←hl]; exact h1) (by simpa using ew) ⟨rfl,fin⟩) hs
theorem ZtO:IxR X Zu1:=by
  intro value slice pins s σ H x y v u Q I rx ry h hs
  obtain ⟨z,i,c,rfl,rfl,hz,he,q⟩:=h
  obtain ⟨t,rfl⟩:=rx
  obtain ⟨t',rfl⟩:=ry
  obtain ⟨j,h1,h2,h3,h4,h5⟩:=Zi7 he
  have hl:z.cps.toList.length=z.length:=by simp [Str.length]
  rw [hl] at h1 h4 h5
  have hn:=Zf5
  exact tail_any (typeIs_str s z t) slot_str_getitem.lookup (getItem_str (c:=c) (by
    have e1:decide (i < -(2 ^ 63:Int))=false:=decide_eq_false (by omega)
    have e2:decide (i≥2 ^ 63)=false:=decide_eq_false (by omega)
    rw [e1,e2,Bool.or_false]) (by rw [h1]; simpa using h2) ⟨.str ⟨#[c]⟩,H,I.tok _,⟨_,rfl⟩,q⟩) hs
def rIx (K:PySem.W.Frag):R2:=fun x y H Q=>Zu2 K x y H Q∨Zu0 K x y H Q∨Zu1 x y H Q
theorem ZtP:IxR X (rIx X.K):=ix_list.or (ix_tup.or ZtO)
theorem Inv.lst {pins:List (Addr×Obj)} {σ:St} {H:Hp} {s:Shared} {p:Addr} {xs:List V} (I:Inv X pins σ H s) (h:H p=some (.lst xs)) :
    ∃(its:List Value) (n:Nat),Vals xs its∧s.heap.get? p=some { cls:=.type "list",data:=.seq its.toArray n }∧xs.length≤sizeLine:=by
  obtain ⟨z,its,n,r,e⟩:=I.hok p _ h
  exact ⟨its,n,r,e,z⟩
theorem ZiI (lo hi:Option Int) (n:Nat):(sliceBounds lo hi none n).1=((HT.sIx n 0 lo:Nat):Int)∧(sliceBounds lo hi none n).2.1=((HT.sIx n n hi:Nat):Int)∧(sliceBounds lo hi none n).2.2=1:=by
  refine ⟨?_,?_,rfl⟩
  · cases lo with
    | none=>simp [sliceBounds,HT.sIx]
    | some i=>
      simp only [sliceBounds,HT.sIx,Option.getD_none,show (1:Int) > 0 by decide,if_true]
      by_cases h:i<0
      · simp only [h,if_true]<;>omega
      · simp only [h,if_false]<;>omega
  · cases hi with
    | none=>simp [sliceBounds,HT.sIx]
    | some i=>
      simp only [sliceBounds,HT.sIx,Option.getD_none,show (1:Int) > 0 by decide,if_true]
      by_cases h:i<0
      · simp only [h,if_true]<;>omega
      · simp only [h,if_false]<;>omega
theorem ZhW (its:List Value) (lo hi:Option Int):slicePick its.toArray lo hi none=((its.drop (HT.sIx its.length 0 lo)).take (HT.sIx its.length its.length hi-HT.sIx its.length 0 lo)).toArray:=by
  obtain ⟨h1,h2,h3⟩:=ZiI lo hi its.toArray.size
  unfold slicePick
  rw [h1,h2,h3]
  simp only [sliceRange_one,pick_run,List.size_toArray]<;>rfl
def ZuY (K:PySem.W.Frag):V→Option Int→Option Int→Hp→VK→Prop:=fun x lo hi H Q=>∃a xs,x=.ref a∧SqL K H a xs∧∀p,H p=none→Q (.ref p) (upd H p (.lst (Zla xs lo hi)))
theorem sl_list:SlR X (ZuY X.K):=by
  intro pins s σ H x v vl vu lo hi sl Q I rx hs pl pu h
  obtain ⟨a,xs,rfl,hx,q⟩:=h
  cases rx
  obtain ⟨its,r,ht,hz⟩:=I.list hx
  have hlen:=r.length
  refine ⟨"list",_,slot_list_getitem.lookup,ht.isList.typeIs,?_⟩
  refine wpAny_getItem_list_slice ht.isList hs pl pu .none (by simp) ?_ (by rw [List.size_toArray]<;>omega)
  rw [ZhW,←hlen]
  refine ⟨.ref s.heap.objs.size,_,I.laid (t':=s.toks) (o:=.lst (Zla xs lo hi)) (fun b ob q=>Heap.get?_push_of_some _ q) (Nat.le_refl _) ?_,rfl,q _ (I.hok.fresh (Nat.le_refl _))⟩
  exact ⟨Nat.le_trans (Zgv xs lo hi) hz,_,0,(r.drop (HT.sIx xs.length 0 lo)).take (HT.sIx xs.length xs.length hi-HT.sIx xs.length 0 lo),Heap.get?_push_size _ rfl⟩
def Zc8:V→Bool
  | .non=>true
  | .bl _=>true
  | .int _=>true
  | .str _=>true
  | _=>false
def eqV:V→V→Bool
  | .non,.non=>true
  | .bl a,.bl b=>a == b
  | .bl a,.int b=>(if a then 1 else 0) == b
  | .int a,.bl b=>a == (if b then 1 else 0)
  | .int a,.int b=>a == b
  | .str a,.str b=>a == b
  | _,_=>false
theorem ZtV {A:Around} {s:Shared} {y x:V} {u v:Value} (ry:RelV y u) (rx:RelV x v) (fy:Zc8 y=true) (fx:Zc8 x=true):SeqAt.EqAt A s u v (eqV y x):=by
  cases y with
  | non=>
    cases ry
    cases x with
    | non=>cases rx; exact SeqAt.EqAt.same _
    | bl b=>cases rx; exact SeqAt.EqAt.none_bool b
    | int b=>obtain ⟨t,rfl⟩:=rx; exact SeqAt.EqAt.none_int b t
    | str b=>obtain ⟨t,rfl⟩:=rx; exact SeqAt.EqAt.none_str b t
    | _=>exact absurd (show false=true from fx) Bool.false_ne_true
  | bl a=>
    cases ry
    cases x with
    | non=>cases rx; exact SeqAt.EqAt.bool_none a
    | bl b=>cases rx; exact SeqAt.EqAt.bool_bool a b
    | int b=>obtain ⟨t,rfl⟩:=rx; exact SeqAt.EqAt.bool_int a b t
    | str b=>obtain ⟨t,rfl⟩:=rx; exact SeqAt.EqAt.bool_str a b t
    | _=>exact absurd (show false=true from fx) Bool.false_ne_true
  | int a=>
    obtain ⟨t',rfl⟩:=ry
    cases x with
    | non=>cases rx; exact SeqAt.EqAt.int_none a t'
    | bl b=>cases rx; exact SeqAt.EqAt.int_bool a t' b
    | int b=>obtain ⟨t,rfl⟩:=rx; exact SeqAt.EqAt.int_int a t' b t
    | str b=>obtain ⟨t,rfl⟩:=rx; exact SeqAt.EqAt.int_str a t' b t
    | _=>exact absurd (show false=true from fx) Bool.false_ne_true
  | str a=>
    obtain ⟨t',rfl⟩:=ry
    cases x with
    | non=>cases rx; exact SeqAt.EqAt.str_none a t'
    | bl b=>cases rx; exact SeqAt.EqAt.str_bool a t' b
    | int b=>obtain ⟨t,rfl⟩:=rx; exact SeqAt.EqAt.str_int a t' b t
    | str b=>obtain ⟨t,rfl⟩:=rx; exact SeqAt.EqAt.str_str a t' b t
    | _=>exact absurd (show false=true from fx) Bool.false_ne_true
  | _=>exact absurd (show false=true from fy) Bool.false_ne_true
def eqU (x:V) (u:Value):Bool:=match u with
  | .none=>eqV .non x
  | .bool b=>eqV (.bl b) x
  | .int i _=>eqV (.int i) x
  | .str z _=>eqV (.str z) x
  | _=>false
theorem Zp8 {x y:V} {u:Value} (r:RelV y u) (f:Zc8 y=true):eqU x u=eqV y x:=by
  cases y with
  | non=>cases r; rfl
  | bl b=>cases r; rfl
  | int i=>obtain ⟨t,rfl⟩:=r; rfl
  | str z=>obtain ⟨t,rfl⟩:=r; rfl
  | _=>exact absurd (show false=true from f) Bool.false_ne_true
theorem ZfR {x:V}:∀{xs:List V} {us:List Value},Vals xs us→xs.all Zc8=true→us.any (eqU x)=xs.any fun y=>eqV y x
  | _,_,.nil,_=>rfl
  | y::xs,u::us,.cons r t,f=>by
    rw [List.all_cons,Bool.and_eq_true] at f
    rw [List.any_cons,List.any_cons,Zp8 r f.1,ZfR t f.2]
theorem Zeq {A:Around} {s:Shared} {x:V} {v:Value} (rx:RelV x v) (fx:Zc8 x=true):∀{xs:List V} {us:List Value},Vals xs us→xs.all Zc8=true→∀u∈us,SeqAt.EqAt A s u v (eqU x u)
  | _,_,.nil,_=>fun u hu=>by cases hu
  | y::xs,u::us,.cons r t,f=>fun u' hu=>by
    rw [List.all_cons,Bool.and_eq_true] at f
    rcases List.mem_cons.mp hu with rfl | hu
    · rw [Zp8 r f.1]; exact ZtV r rx f.1 fx
    · exact Zeq rx fx t f.2 u' hu
def inV (x:V) (xs:List V):Bool:=xs.any fun y=>eqV y x
def rIn (K:PySem.W.Frag) (neg:Bool):R2:=fun x y H Q=>∃p xs,y=.ref p∧(SqL K H p xs∨SqT K H p xs)∧Zc8 x=true∧xs.all Zc8=true∧Q (.bl (if neg then !inV x xs else inV x xs)) H
theorem Zm1:OpR X (compareOp .In) (rIn X.K false):=by
  intro pins s σ H x y v u Q I rx ry h
  obtain ⟨p,xs,rfl,hq,fx,fs,q⟩:=h
  cases ry
  rcases hq with hq | hq
  · obtain ⟨its,r,pl,hz⟩:=I.list hq
    refine SeqAt.in_listAt (eqU x) pl.isList (fun w hw=>Zeq rx fx r fs w (by simpa using hw)) ⟨.bl _,H,I,rfl,?_⟩
    rw [show its.toArray.any (eqU x)=its.any (eqU x) by simp,ZfR r fs]
    exact q
  · obtain ⟨its,r,pl,hz⟩:=I.tuple hq
    refine SeqAt.in_tupleAt (eqU x) pl (fun w hw=>Zeq rx fx r fs w (by simpa using hw)) ⟨.bl _,H,I,rfl,?_⟩
    rw [show its.toArray.any (eqU x)=its.any (eqU x) by simp,ZfR r fs]
    exact q
theorem ZiO:OpR X (compareOp .NotIn) (rIn X.K true):=by
  intro pins s σ H x y v u Q I rx ry h
  obtain ⟨p,xs,rfl,hq,fx,fs,q⟩:=h
  cases ry
  rcases hq with hq | hq
  · obtain ⟨its,r,pl,hz⟩:=I.list hq
    refine SeqAt.notIn_listAt (eqU x) pl.isList (fun w hw=>Zeq rx fx r fs w (by simpa using hw)) ⟨.bl _,H,I,rfl,?_⟩
    rw [show its.toArray.any (eqU x)=its.any (eqU x) by simp,ZfR r fs]
    exact q
  · obtain ⟨its,r,pl,hz⟩:=I.tuple hq
    refine SeqAt.notIn_tupleAt (eqU x) pl (fun w hw=>Zeq rx fx r fs w (by simpa using hw)) ⟨.bl _,H,I,rfl,?_⟩
    rw [show its.toArray.any (eqU x)=its.any (eqU x) by simp,ZfR r fs]
    exact q
theorem Zi1:CallR X (.builtin "len") (fun xs H Q=>∃p ys,xs=[.ref p]∧(SqL X.K H p ys∨SqT X.K H p ys)∧Q (.int ys.length) H):=by
  intro pins s σ H xs us Q I r h
  obtain ⟨p,ys,rfl,hq,q⟩:=h
  obtain ⟨u,rfl,rx⟩:=Zfk r
  cases rx
  have hn:=Zf5
  rcases hq with hq | hq
  · obtain ⟨its,r',pl,hz⟩:=I.list hq
    have hlen:=r'.length
    exact Calls.call_len_list pl.isList (by simp only [List.size_toArray]<;>omega) ⟨.int ys.length,H,I.tok _,⟨s.toks+1,by rw [List.size_toArray,hlen]⟩,q⟩
  · obtain ⟨its,r',pl,hz⟩:=I.tuple hq
    have hlen:=r'.length
    exact len_tuple pl (by simp only [List.size_toArray]<;>omega) ⟨.int ys.length,H,I.tok _,⟨s.toks+1,by rw [List.size_toArray,hlen]⟩,q⟩
theorem call_len_str:CallR X (.builtin "len") (fun xs H Q=>∃z,xs=[.str z]∧z.length≤sizeLine∧Q (.int z.length) H):=by
  intro pins s σ H xs us Q I r h
  obtain ⟨z,rfl,hz,q⟩:=h
  obtain ⟨u,rfl,t,rfl⟩:=Zfk r
  have hn:=Zf5
  exact len_str (by omega) ⟨.int z.length,H,I.tok _,⟨_,rfl⟩,q⟩
theorem CallR.or {f:Value} {r r':List V→Hp→VK→Prop} (h:CallR X f r) (h':CallR X f r'):CallR X f (fun xs H Q=>r xs H Q∨r' xs H Q):=by
  intro pins s σ H xs us Q I rs q
  rcases q with q | q
  · exact h pins s σ H xs us Q I rs q
  · exact h' pins s σ H xs us Q I rs q
theorem Zi0:CallR X (.type "list") (fun xs H Q=>∃p ys,xs=[.ref p]∧(SqL X.K H p ys∨SqT X.K H p ys)∧∀l,H l=none→Q (.ref l) (upd H l (.lst ys))):=by
  intro pins s σ H xs us Q I r h
  obtain ⟨p,ys,rfl,hq,q⟩:=h
  obtain ⟨u,rfl,rx⟩:=Zfk r
  cases rx
  have fin:∀(its:List Value),Vals ys its→ys.length≤sizeLine→∀(h':Heap) (c':Nat),(∀b o',s.heap.get? b=some o'→h'.get? b=some o')→
      h'.get? s.heap.objs.size=some { cls:=.type "list",dict:=none,data:=.seq its.toArray c',slots:=#[] }→EP X pins σ Q (.ref s.heap.objs.size) { s with heap:=h' }:=fun its r' hz h' c' kp e=>
    ⟨.ref s.heap.objs.size,_,I.laid (t':=s.toks) kp (Nat.le_refl _) (show ObjOk X.prog X.w _ h' _ (.lst ys) from ⟨hz,its,c',r',e⟩),rfl,q _ (I.hok.fresh (Nat.le_refl _))⟩
  rcases hq with hq | hq
  · obtain ⟨its,r',pl,hz⟩:=I.list hq
    have hlen:=r'.length
    obtain ⟨o,ho,hc,n,hd⟩:=pl.isList
    exact call_list_seq p (.inl rfl) ho hc hd (fun h' c' kp e=>fin its r' hz h' c' kp e) (by simp only [List.size_toArray]<;>omega)
  · obtain ⟨its,r',pl,hz⟩:=I.tuple hq
    have hlen:=r'.length
    obtain ⟨o,ho,hc,n,hd⟩:=pl
    exact call_list_seq p (.inr rfl) ho hc hd (fun h' c' kp e=>fin its r' hz h' c' kp e) (by simp only [List.size_toArray]<;>omega)
theorem Zh0:CallR X (.type "tuple") (fun xs H Q=>∃p ys,xs=[.ref p]∧((SqL X.K H p ys∧∀l,H l=none→Q (.ref l) (upd H l (.tup ys)))∨(SqT X.K H p ys∧Q (.ref p) H))):=by
  intro pins s σ H xs us Q I r h
  obtain ⟨p,ys,rfl,h⟩:=h
  obtain ⟨u,rfl,rx⟩:=Zfk r
  cases rx
  rcases h with ⟨hq,q⟩ | ⟨hq,q⟩
  · obtain ⟨its,r',pl,hz⟩:=I.list hq
    have hlen:=r'.length
    refine call_tuple_list pl.isList (fun h' kp=>?_) (by simp only [List.size_toArray]<;>omega)
    have I1:Inv X pins σ H { s with heap:=h' }:=I.kept (t':=s.toks) kp
    have I2:Inv X pins σ (upd H h'.objs.size (.tup ys)) { s with heap:=h'.push { cls:=.type "tuple",data:=.seq its.toArray } }:=
      I1.laid (t':=s.toks) (fun b o e=>Heap.get?_push_of_some _ e) (Nat.le_refl _) (show ObjOk X.prog X.w _ _ _ (.tup ys) from ⟨hz,its,r',IsTup.new _ _⟩)
    exact ⟨.ref h'.objs.size,_,I2,rfl,q _ (I1.hok.fresh (Nat.le_refl _))⟩
  · obtain ⟨its,r',pl,hz⟩:=I.tuple hq
    exact call_tuple_same pl ⟨.ref p,H,I,rfl,q⟩
def tyV (K:PySem.W.Frag) (T:String) (x:V) (H:Hp):Prop:=match x with
  | .str _=>T = "str"
  | .int _=>T = "int"
  | .ref p=>(T = "list"∧∃xs,SqL K H p xs)∨(T = "tuple"∧∃o,K.lookup p=some o∧o.cls=.type "tuple"∧o.dict=none)∨
      (T = "dict"∧((∃kvs,H p=some (.dK kvs))∨∃kvs,H p=some (.dT kvs)))∨(T = "set"∧∃S n,H p=some (.set S n))
  | _=>False
theorem ZsL {pins:List (Addr×Obj)} {σ:St} {H:Hp} {s:Shared} {T:String} {x:V} {v:Value} (I:Inv X pins σ H s) (r:RelV x v) (ty:tyV X.K T x H) :
    s.TypeIs v T∧∀a,v=.ref a→∃ob,s.heap.get? a=some ob∧ob.dict=none:=by
  cases x with
  | str z=>
    obtain ⟨t,rfl⟩:=r
    cases (show T = "str" from ty)
    exact ⟨typeIs_str s z t,fun _ e=>nomatch e⟩
  | int i=>
    obtain ⟨t,rfl⟩:=r
    cases (show T = "int" from ty)
    exact ⟨typeIs_int s i t,fun _ e=>nomatch e⟩
  | ref p=>
    cases r
    rcases ty with ⟨rfl,xs,hq⟩ | ⟨rfl,o,hk,hc,hd⟩ | ⟨rfl,hk⟩ | ⟨rfl,S,n,hk⟩
    · obtain ⟨its,_,pl,_⟩:=I.list hq
      refine ⟨pl.isList.typeIs,fun a e=>?_⟩
      cases e
      obtain ⟨o,n,e,c,hd,_⟩:=pl
      exact ⟨o,e,hd⟩
    · refine ⟨⟨o,I.kIn p o hk,hc⟩,fun a e=>?_⟩
      cases e
      exact ⟨o,I.kIn _ o hk,hd⟩
    · have z:∃o,s.heap.get? p=some o∧o.ExactDict:=by
        rcases hk with ⟨kvs,hk⟩ | ⟨kvs,hk⟩
        · obtain ⟨_,_,_,_,o,_,_,e,ex,_⟩:=I.hok p _ hk
          exact ⟨o,e,ex⟩
        · obtain ⟨_,_,_,_,o,_,_,e,ex,_⟩:=I.hok p _ hk
          exact ⟨o,e,ex⟩
      obtain ⟨o,e,ex⟩:=z
      refine ⟨⟨o,e,ex.1⟩,fun a e2=>?_⟩
      cases e2
      exact ⟨o,e,ex.2.1⟩
    · obtain ⟨o,_,_,_,e,ex,_⟩:=I.hok p _ hk
      refine ⟨⟨o,e,ex.1⟩,fun a e2=>?_⟩
      cases e2
      exact ⟨o,e,ex.2.1⟩
  | _=>exact False.elim ty
def tBM (K:PySem.W.Frag) (T:String) (r:V→List V→Hp→VK→Prop) (to:TE) (t:TA):TE:=fun σ H Q=>to σ H fun x H1=>tyV K T x H1∧t σ H1 fun xs H2=>r x xs H2 Q
variable {o e:Expr} {es:List Expr} {to:TE} {t:TA} {name:Str} {apos cpos:Pos} {T id:String} {r:V→List V→Hp→VK→Prop}
theorem Zsq (pa:PlainAttrs T) (slot:Slot T name id) (hty:typeOf (.builtin id)=pure (.type "method_descriptor")) (hm:MtR X id r) (ho:PE X o to) (ha:PA X (e::es) t)
    (hbase:attributeBase o name X.env (eval o X.env)=eval o X.env:=by rfl)
    (hfew:((backTo cpos (starEach (e::es) X.env)).all (fun x=>!x.1) && (backToKw cpos (keywordEach [] X.env)).all (fun x=>x.1.isSome)
      && decide ((e::es).length+([]:List Keyword).length+(if ([]:List Keyword).isEmpty then 0 else 1)<30))=true:=by rfl)
    (hline:(apos.endLine == cpos.line)=true:=by rfl) (hs:starEach (e::es) X.env=(false,eval e X.env)::starEach es X.env:=by rfl) (hplain:(backTo cpos (starEach es X.env)).any (·.1)=false:=by rfl) :
    PE X (.Call (.Attribute o name apos) (e::es) [] cpos) (tBM X.K T r to t):=by
  intro pins s σ H Q I h
  refine wpAny_Call_method_late hbase hfew hline rfl (thn (ho pins s σ H _ I h) fun v s1 ⟨x,H1,I1,r1,ty,q1⟩=>?_)
  obtain ⟨h1,h2⟩:=ZsL I1 r1 ty
  refine ⟨T,id,pa,slot,hty,h1,h2,?_⟩
  have hA:=ha cpos pins s1 σ H1 _ I1 q1
  rw [hs] at hA ⊢
  refine Calls.callWith_builtin (by show (false || (backTo cpos (starEach es X.env)).any (·.1))=false; rw [hplain]<;>rfl) (Calls.evalArgs_plain ?_)
  exact thn hA fun us s2 ⟨vs,H2,I2,r2,q2⟩=>hm pins s2 σ H2 x vs v us Q I2 r1 r2 q2
end
end L2
namespace L2
open PySem PySem.Spec PyProof.Rows
def MtM (X:Cx) (id:String) (r:V→List V→Hp→VK→Prop):Prop:=
  ∀(pins:List (Addr×Obj)) (s:Shared) (σ:St) (H:Hp) (x:V) (xs:List V) (v:Value) (us:List Value) (Q:VK),Inv X pins σ H s→RelV x v→Vals xs us→r x xs H Q→
    wpAny (model X.prog X.w) X.A (call (.builtin id) (v::us)) (EP X pins σ Q) X.xe s
theorem Vals.one:∀{x:V} {us:List Value},Vals [x] us→∃u,us=[u]∧RelV x u
  | _,_,.cons r .nil=>⟨_,rfl,r⟩
theorem Vals.two:∀{x y:V} {us:List Value},Vals [x,y] us→∃u v,us=[u,v]∧RelV x u∧RelV y v
  | _,_,_,.cons r (.cons q .nil)=>⟨_,_,rfl,r,q⟩
theorem Vals.zero:∀{us:List Value},Vals [] us→us=[]
  | _,.nil=>rfl
theorem Vals.rep {xs:List V} {us:List Value} (h:Vals xs us):∀k:Nat,Vals (List.replicate k xs).flatten (List.replicate k us).flatten
  | 0=>.nil
  | k+1=>by
    rw [List.replicate_succ,List.replicate_succ,List.flatten_cons,List.flatten_cons]
    exact Vals.append h (Vals.rep h k)
theorem ZeU (its:List Value):∀(k:Nat) (acc:List Value),
    List.foldl (fun x1 x2=>x1++x2) acc.toArray (List.replicate k its.toArray)=(acc++(List.replicate k its).flatten).toArray
  | 0,acc=>by simp
  | k+1,acc=>by
    have e:acc.toArray++its.toArray=(acc++its).toArray:=by simp
    have e2:(acc++its)++(List.replicate k its).flatten=acc++(List.replicate (k+1) its).flatten:=by
      rw [List.replicate_succ,List.flatten_cons,List.append_assoc]
    rw [←e2,←ZeU its k (acc++its),←e,List.replicate_succ,List.foldl_cons]
section
variable {X:Cx} {pins:List (Addr×Obj)} {σ:St} {H:Hp} {s:Shared} {l b:Addr} {xs ys zs:List V}
theorem Inv.lset {its its':List Value} {n:Nat} {f:Array Value→Array Value} {t':Nat} (I:Inv X pins σ H s) (hH:H l=some (.lst xs))
    (e:s.heap.get? l=some { cls:=.type "list",data:=.seq its.toArray n }) (hf:f its.toArray=its'.toArray) (hv:Vals ys its') (hz:ys.length≤sizeLine) :
    Inv X pins σ (upd H l (.lst ys)) { s with heap:=s.heap.update l (Obj.mapSeq f),toks:=t' }:=by
  have q:=PySem.IsL.update e f
  rw [hf] at q
  refine I.write (x:=l) (e:=l) (by rw [hH]; exact trivial) (.inl rfl) (fun b' u hb hu=>(Heap.get?_update_other s.heap (Obj.mapSeq f) (Ne.symm hb)).trans hu) ⟨_,q⟩ ?_
  exact ⟨hz,its',_,hv,q⟩
theorem Inv.lnew {its:List Value} {t':Nat} (I:Inv X pins σ H s) (hv:Vals ys its) (hz:ys.length≤sizeLine) :
    Inv X pins σ (upd H s.heap.objs.size (.lst ys)) { s with heap:=s.heap.push { cls:=.type "list",data:=.seq its.toArray },toks:=t' }:=
  I.laid (fun _ _ q=>Heap.get?_push_of_some _ q) (Nat.le_refl _) ⟨hz,its,0,hv,Heap.get?_push_size _ rfl⟩
theorem Inv.fresh (I:Inv X pins σ H s):H s.heap.objs.size=none:=I.hok.fresh (Nat.le_refl _)
theorem Inv.lstM (I:Inv X pins σ H s) (hH:H l=some (.lst xs)):xs.length≤sizeLine∧∃(its:List Value) (n:Nat),Vals xs its∧xs.length=its.length∧s.heap.get? l=some { cls:=.type "list",data:=.seq its.toArray n }:=by
  obtain ⟨z,its,n,r,e⟩:=I.hok l _ hH
  exact ⟨z,its,n,r,r.length,e⟩
theorem Zfx {n:Nat} (h:n≤sizeLine):Builtin.List.listTooLong n=false:=by
  unfold Builtin.List.listTooLong
  exact decide_eq_false (by omega)
end
section
variable {X:Cx}
def Zl6:V→List V→Hp→VK→Prop:=fun x vs H Q=>∃l xs y,x=.ref l∧vs=[y]∧H l=some (.lst xs)∧xs.length<sizeLine∧Q .non (upd H l (.lst (xs++[y])))
theorem Zij:MtM X "list.append" Zl6:=by
  intro pins s σ H x vs v us Q I rx rv h
  obtain ⟨l,xs,y,rfl,rfl,hH,hz,q⟩:=h
  cases rx
  obtain ⟨u,rfl,ru⟩:=rv.one
  obtain ⟨z,its,n,r,hl,e⟩:=I.lstM hH
  refine call_meets F.slot_list_append ⟨_,e,rfl⟩ F.entry_list_append (F.args_list_append_2 _ _) (PySem.list_append l its.toArray n u (by rw [List.size_toArray]; omega)) ⟨e,?_⟩
  refine ⟨.non,_,I.lset (its':=its++[u]) hH e (by simp) (r.append (.cons ru .nil)) ?_,rfl,q⟩
  rw [List.length_append,List.length_singleton]
  omega
def Zq8:V→List V→Hp→VK→Prop:=fun x vs H Q=>∃l b xs zs,x=.ref l∧vs=[.ref b]∧H l=some (.lst xs)∧H b=some (.lst zs)∧xs.length+zs.length≤sizeLine∧Q .non (upd H l (.lst (xs++zs)))
theorem Zum:MtM X "list.extend" Zq8:=by
  intro pins s σ H x vs v us Q I rx rv h
  obtain ⟨l,b,xs,zs,rfl,rfl,hH,hB,hz,q⟩:=h
  cases rx
  obtain ⟨u,rfl,ru⟩:=rv.one
  cases ru
  obtain ⟨z,its,n,r,hl,e⟩:=I.lstM hH
  obtain ⟨z2,its2,n2,r2,hl2,e2⟩:=I.lstM hB
  have hsz:its.toArray.size+its2.toArray.size≤sizeLine:=by rw [List.size_toArray,List.size_toArray]; omega
  have hlong:¬(!its.toArray.isEmpty && Builtin.List.listTooLong (its.toArray.size+its2.toArray.size))=true:=by
    rw [Zfx hsz,Bool.and_false]
    exact Bool.false_ne_true
  refine call_meets F.slot_list_extend ⟨_,e,rfl⟩ F.entry_list_extend (F.args_list_extend_2 _ _)
    (AutoSeq1.list_extend_list_list_0 l its.toArray n b its2.toArray n2 hlong (by rw [List.size_toArray]; omega) (by omega)) ⟨e,e2,?_⟩
  refine ⟨.non,_,I.lset (its':=its++its2) hH e (by simp) (r.append r2) ?_,rfl,q⟩
  rw [List.length_append]
  omega
def ZyV:R2:=fun x y H Q=>∃l b xs zs,x=.ref l∧y=.ref b∧H l=some (.lst xs)∧H b=some (.lst zs)∧xs.length+zs.length≤sizeLine∧∀p,H p=none→Q (.ref p) (upd H p (.lst (xs++zs)))
theorem ZtD:OpR X (binaryOp .Add) ZyV:=by
  intro pins s σ H x y v u Q I rx ry h
  obtain ⟨l,b,xs,zs,rfl,rfl,hH,hB,hz,q⟩:=h
  cases rx
  cases ry
  obtain ⟨z,its,n,r,hl,e⟩:=I.lstM hH
  obtain ⟨z2,its2,n2,r2,hl2,e2⟩:=I.lstM hB
  refine PySem.P.add_list e e2 ?_ (by rw [List.size_toArray,List.size_toArray]; omega)
  have ea:its.toArray++its2.toArray=(its++its2).toArray:=by simp
  rw [ea]
  exact ⟨.ref _,_,I.lnew (t':=s.toks) (r.append r2) (by rw [List.length_append]; omega),rfl,q _ I.fresh⟩
def ZyU:R2:=fun x y H Q=>∃l k xs,x=.ref l∧y=.int k∧H l=some (.lst xs)∧-(2 ^ 63)≤k∧k<2 ^ 63∧xs.length*k.toNat≤sizeLine∧
  ∀p,H p=none→Q (.ref p) (upd H p (.lst (List.replicate k.toNat xs).flatten))
theorem ZiS {α:Type} (xs:List α) (k:Nat):(List.replicate k xs).flatten.length=k*xs.length:=by
  induction k with
  | zero=>simp
  | succ k ih=>rw [List.replicate_succ,List.flatten_cons,List.length_append,ih,Nat.succ_mul,Nat.add_comm]
theorem Zty:OpR X (binaryOp .Mult) ZyU:=by
  intro pins s σ H x y v u Q I rx ry h
  obtain ⟨l,k,xs,rfl,rfl,hH,h1,h2,hz,q⟩:=h
  cases rx
  obtain ⟨t,rfl⟩:=ry
  obtain ⟨z,its,n,r,hl,e⟩:=I.lstM hH
  have hlen:its.toArray.size*k.toNat≤sizeLine:=by rw [List.size_toArray,←hl]; exact hz
  have hcap:¬its.toArray.size*k.toNat > (2 ^ 63-1)/8:=by
    have:(sizeLine:Nat)≤(2 ^ 63-1)/8:=by decide
    omega
  have hfit:¬(!Builtin.List.listFitsIndex k)=true:=by
    rw [fitsIndex_both h1 h2]
    exact Bool.false_ne_true
  have hlong:¬Builtin.List.listTooLong (its.toArray.size*k.toNat)=true:=by
    rw [Zfx hlen]
    exact Bool.false_ne_true
  have hnew:List.foldl (fun x1 x2=>x1++x2) #[] (List.replicate (if its.toArray.isEmpty=true then 0 else k.toNat) its.toArray)=(List.replicate k.toNat its).flatten.toArray:=by
    have f0:∀m:Nat,List.foldl (fun x1 x2=>x1++x2) #[] (List.replicate m its.toArray)=(List.replicate m its).flatten.toArray:=fun m=>by
      have:=ZeU its m []
      rw [List.nil_append] at this
      exact this
    rw [f0]
    cases its with
    | nil=>simp
    | cons a r'=>rw [if_neg (by simp)]
  refine wpAny_binaryOp_repeat_ref (T:="list") (U:="int") (by decide) ⟨_,e,rfl⟩ (fun s'=>typeIs_int s' k t) noFill_list_mul F.fills_int_mul F.slot_int_rmul repeat_list F.slot_int_index.lookup
    (call_meets F.slot_int_rmul (typeIs_int s k t) F.entry_int_rmul (F.args_int_rmul_2 _ _) (int___rmul___int_list k t l its.toArray n)
      ⟨e,rfl,⟨_,e,rfl⟩,call_meets F.slot_list_mul ⟨_,e,rfl⟩ F.entry_list_mul (F.args_list_mul_2 _ _) (AutoListH.list___mul___list_int_3 l its.toArray n k t hfit hcap hlong) ⟨e,?_⟩⟩)
  rw [hnew]
  exact ⟨.ref _,_,I.lnew (t':=s.toks) (r.rep k.toNat) (by rw [ZiS,Nat.mul_comm]; exact hz),rfl,q _ I.fresh⟩
end
section
variable {prog:Program} {w:World} {A:Around} {E:Value→Shared→Prop} {s:Shared}
theorem ZlQ {a c n:Nat} (hac:a≤c) (hc:c≤n):sliceBounds (some (a:Int)) (some (c:Int)) none n=((a:Int),(c:Int),1):=by
  simp only [sliceBounds,Option.getD_none]
  have h1:¬((a:Int)<0):=by omega
  have h2:¬((c:Int)<0):=by omega
  simp only [h1,h2,if_false,show (1:Int) > 0 by decide,if_true]
  congr 1
  · omega
  · congr 1; omega
set_option maxRecDepth 100000 in
theorem ZqI {l b sl:Addr} {items new:Array Value} {n n2:Nat} {vl vu:Value} {a c:Nat} {Q:Unit→Shared→Prop}
    (e:s.heap.get? l=some { cls:=.type "list",data:=.seq items n }) (e2:s.heap.get? b=some { cls:=.type "list",data:=.seq new n2 }) (hne:l≠b)
    (hs:s.heap.IsSliceOf sl vl vu .none) (pl:IsPart vl (some (a:Int))) (pu:IsPart vu (some (c:Int))) (hac:a≤c) (hc:c≤items.size)
    (hsz:items.size+new.size≤sizeLine) (h:Q () { s with heap:=s.heap.update l (Obj.mapSeq fun xs=>xs.extract 0 a++new++xs.extract c xs.size) }) :
    wpAny (model prog w) A (setItem (.ref l) (.ref sl) (.ref b)) Q E s:=by
  have hl:s.heap.IsList l items:=PySem.IsL.isList e
  have hb:s.heap.IsList b new:=PySem.IsL.isList e2
  obtain ⟨os,hos,hcs,hds⟩:=id hs
  have hTs:s.TypeIs (.ref sl) "slice":=⟨os,hos,hcs⟩
  have hstep:¬((rawPart none == rawInt 0)=true):=Bool.false_ne_true
  have hsame:Builtin.List.listSameRef (.ref l) (.ref b)=false:=by
    unfold Builtin.List.listSameRef
    exact beq_eq_false_iff_ne.mpr hne
  have hmax:(max (a:Int) (c:Int)).toNat=c:=by omega
  have hz':((fun xs:Array Value=>xs.extract 0 a++new++xs.extract c xs.size) items).size≤sizeLine+1:=by
    simp only [Array.size_append,Array.size_extract]
    omega
  unfold setItem
  try with_reducible refine wpAny_holding ?_
  first | refine wpAny_bind (wpAny_pure ?_) | skip
  refine wpAny_bind (wpAny_sequenceKey hl.typeIs (by decide) ?_)
  refine wpAny_bind (wpAny_callSpecial?_slot (name:=Str.ofString "__setitem__") hl.typeIs slot_list_setitem
    (wpAny_call_entry slot_list_setitem hl.typeIs entry_list_setitem ?_ (args_list_setitem _ _ _)))
  show wpAny _ _ (Builtin.List.listSubscript? (.ref sl) >>= _) _ _ s
  refine wpAny_bind ?_
  unfold Builtin.List.listSubscript?
  refine wpAny_bind (wpAny_specialOf hTs slice_no_index ?_)
  simp only [Option.isNone_none,if_true]
  refine wpAny_pure ?_
  show wpAny _ _ (typeOf (.ref sl) >>= _) _ _ s
  refine wpAny_bind (wpAny_typeOf hTs ?_)
  first
    | rw [if_neg (by decide)]
    | refine PySem.W.KFB.if_not (by decide) ?_
  rw [listSliceParts_eq]
  refine wpAny_bind (wpAny_bind (wpAny_field hos hds (x:=.none) rfl (wpAny_bind (wpAny_listPart .none ?_))))
  rw [if_neg hstep]
  refine wpAny_bind (wpAny_field hos hds (x:=vl) rfl (wpAny_bind (wpAny_listPart pl ?_)))
  refine wpAny_bind (wpAny_field hos hds (x:=vu) rfl (wpAny_bind (wpAny_listPart pu (wpAny_pure ?_))))
  first
    | simp only [hsame,Bool.false_eq_true,if_false]
    | refine PySem.W.KFB.if_not hsame ?_
    | (dsimp only
       rw [if_neg (by rw [hsame]; exact Bool.false_ne_true)])
  refine wpAny_bind (m:=Builtin.List.listAllItems (.ref b) "must assign iterable to extended slice") ?_
  unfold Builtin.List.listAllItems
  refine wpAny_bind (wpAny_typeOf hb.typeIs ?_)
  first
    | refine PySem.W.KFB.if_so (by decide) ?_
    | rw [if_pos (by decide)]
    | simp only [beq_self_eq_true,Bool.true_or,if_true]
  unfold Builtin.List.listItems
  refine wpAny_bind (wpAny_seqItems e2 rfl (wpAny_pure ?_))
  refine wpAny_bind (wpAny_bind (wpAny_seqItems e rfl (wpAny_pure ?_)))
  refine wpAny_bind (wpAny_of_eq ((sliceIndices_raw (some (a:Int)) (some (c:Int)) none items.size (by simp)).trans (congrArg (pure:Int×Int×Int→Sem (Int×Int×Int)) (ZlQ hac hc))) ?_)
  show wpAny _ _ (if ((1:Int) == 1)=true then _ else _) _ _ s
  rw [if_pos (by decide)]
  refine wpAny_bind (wpAny_rule ?_)
  first
    | simp only [Zfx hsz,Bool.false_eq_true,if_false]
    | refine PySem.W.KFB.if_not (Zfx hsz) ?_
  first | refine wpAny_bind (wpAny_pure ?_) | skip
  show wpAny _ _ (updateSeq l (fun xs=>xs.extract 0 ((a:Int)).toNat++new++xs.extract (max (a:Int) (c:Int)).toNat xs.size) >>= _) _ _ s
  rw [hmax,Int.toNat_natCast]
  refine wpAny_bind (wpAny_updateSeq (hz:=Nat.le_trans (Nat.le_add_right _ _) hsz) (_hz':=hz') e rfl ?_)
  refine wpAny_bind (wpAny_letGo ?_)
  first
    | exact wpAny_bind (wpAny_pure (wpAny_pure ⟨.none,rfl,wpAny_pure h⟩))
    | exact wpAny_pure ⟨.none,rfl,wpAny_pure h⟩
end
section
variable {X:Cx}
end
end L2
namespace Att
open PySem PySem.W PySem.Calls PyProof.Rows
theorem ZgP {P:Params} {h:Heap}:∀(ns:List Int) (vs:List Value),WellAll P h vs (ns.map WData.int)→IntsAre vs ns:=by
  intro ns
  induction ns with
  | nil=>
    intro vs w
    rw [List.map_nil] at w
    cases w
    exact .nil
  | cons n ns ih=>
    intro vs w
    rw [List.map_cons] at w
    cases w with
    | cons a b=>
      cases a
      exact .cons _ _ (ih _ b)
theorem ZmV {l:OpenLaw} {n:Nat} (hn:l.most=some n) {P:Params} {h:Heap} {args:List WData} {vals:List Value}
    (hpre:l.row.toRowW.claim.pre args=true) (hwl:WellAll P h vals args) :
    ∃a vs ns,vals=[Value.ref a]∧args=[WData.list (ns.map WData.int)]∧h.get? a=some { cls:=.type "list",data:=.seq vs.toArray }∧IntsAre vs ns∧ns.length≤n:=by
  have hsh:WShape.hasAll [] args [.list .int]=true:=(pre_splitW hpre).1
  have hc:l.pre.holds [] { args:=args }=true:=(pre_splitW hpre).2
  obtain ⟨d,r,rfl,h1,h2⟩:=hasAllW_cons hsh
  obtain rfl:=hasAllW_nil h2
  obtain ⟨xs,rfl,h3⟩:=hasW_list h1
  obtain ⟨ns,rfl⟩:=items_int h3
  have hlen:ns.length≤n:=by
    unfold OpenLaw.pre at hc
    have h4:(WTm.not (.lt (.lit (.int (n:Int))) (.len (.arg 0)))).holds [] { args:=[.list (ns.map .int)] }=true:=by
      have h4:=(holds_andW hc).1
      rw [hn] at h4
      exact h4
    have h5:=condW_of h4 (w_not (w_lt w_lit (w_len_list (w_arg rfl))))
    rw [List.length_map] at h5
    refine Nat.le_of_not_lt fun q=>?_
    have q':(n:Int)<((ns.length:Nat):Int):=by omega
    first
      | (rw [decide_eq_true q'] at h5; exact absurd h5 (by decide))
      | (simp at h5; omega)
  cases hwl with
  | cons w1 w2=>
    cases w2
    cases w1 with
    | list ho hall=>exact ⟨_,_,ns,rfl,rfl,ho,ZgP ns _ hall,hlen⟩
theorem ZmW (l:OpenLaw) (args:List WData):l.row.toRowW.claim.post args (.bool true) args=true:=
  postW_of (r:=l.row.toRowW) (X:=(true == true))
    (show WShape.has [] (.bool true) .bool=true by first | rfl | decide | simp [WShape.has,WShape.arms,WShape.armsAll])
    (show (WTm.eq .res (.lit (.bool true))).value [] { args:=args,res:=some (.bool true),after:=args }=some (.bool (true == true)) from w_eq_bool (w_res rfl) w_lit) rfl
theorem attach_call {l:OpenLaw} {n:Nat} {q:Program} {loose:List Str} {XP:(Str→Option Value)→Heap→Prop} {YP:World→Heap→Prop} {d:DefRec}
    (hn:l.most=some n) (hdf:d.params.defaults=[])
    (call:∀(w:World) (s₀ s₁:Shared) (mg mb:Str→Option Value) (fa:Addr) (o:Obj) (pm cd doc:Value) (a:Addr) (vs:List Value) (ns:List Int),
      Ground q loose [] XP w s₀ mg mb s₁.heap→YP w s₁.heap→
      s₁.heap.get? fa=some o→o.data=.func (docDef d.name d.params d.body d.scope pm cd doc)→s₁.heap.CodeRec cd d.name→mg d.name=some (.ref fa)→
      s₁.heap.get? a=some { cls:=.type "list",data:=.seq vs.toArray }→IntsAre vs ns→ns.length≤n→s₁.gens=#[]→
      codeAny (model l.prog w) callerA (.call (.ref fa) ⟨[.ref a],[]⟩) (fun r s'=>r=.ok (.ret (.bool true))∧OldK s₁.heap s'.heap∧s'.os=s₁.os∧AllBare s'.gens) s₁) :
    WalkO q loose XP YP l.row.toRowW d [] (fun f vs=>PySem.call f vs):=by
  intro w s₀ s₁ mg mb G Y fa o pm cd doc dV kV ho hd hcd hD hmg hg args vals as hpre hlay hrd hwl hlo
  obtain rfl:dV=.none:=Dflts.none hD hdf
  obtain rfl:kV=.none:=Dflts.noKw hD
  obtain ⟨a,vs,ns,rfl,rfl,hobj,hints,hlen⟩:=ZmV hn hpre hwl
  refine enter_call (codeAny_mono (call w s₀ s₁ mg mb fa o pm cd doc a vs ns G Y ho (fd_plain hd) hcd hmg hobj hints hlen hg) fun r s' hq=>?_)
  obtain ⟨rfl,h2,h3,h4⟩:=hq
  exact ⟨.inl ⟨.bool true,.bool true,[],rfl,fun _=>rfl,.bool true,ZmW l _,fun _=>⟨List.Pairwise.nil,fun _ hm=>(nomatch hm)⟩⟩,h2,h3,h4⟩
section
variable {prog:Program} {w:World} {A:Around} {E:Value→Shared→Prop} {s:Shared} {K:Frag}
end
end Att
namespace L2
open PySem PySem.Spec PyProof.Rows
theorem Zh2:∀{vs:List Value} {ns:List Int},IntsAre vs ns→Vals (ns.map V.int) vs
  | _,_,.nil=>.nil
  | _,_,.cons n t h=>.cons ⟨t,rfl⟩ (Zh2 h)
def Zr5 (H:Hp):Prop:=∀b,H b=none∨∃o xs,H b=some (.frz o (.lst xs))
theorem ZpU {P:Program} {w:World} {K:PySem.W.Frag} {mg mb:Str→Option Value} {CX:CXT} {k:Nat} {fa a:Addr} {fd:FuncData} {x:Str} {sp:Sp} {s₁:Shared} {vs:List Value} {ns:List Int}
    (KX:K.In s₁.heap) (hns:s₁.heap.Ns mainGlobals mg) (hb:s₁.heap.Ns builtinsNs mb) (hbb:∀x:Str,x≠"__name__"→mb x=bootBuiltins x) (hlim:s₁.heap.NoLimit) (hg:s₁.gens=#[])
    (ha:s₁.heap.get? a=some { cls:=.type "list",data:=.seq vs.toArray }) (hi:IntsAre vs ns) (hl:ns.length≤sizeLine) (hr:Room k callerA)
    (F:∀base:Heap,K.In base→base.Ns mainGlobals mg→FnOk P w K mg base CX k fa fd [x] sp) (hbind:∀(s:Shared) (u:Value),BindsTo s fd ⟨[u],[]⟩ [(x,u)])
    (hsp:∀H:Hp,Zr5 H→SqL K H a (ns.map V.int)→sp [.ref a] H (fun v _=>v=.bl true) fun _ _ _=>False)
    (hCX:∀H e s',CX [] H s₁ (fun _ _ _=>False) e s'→False) :
    codeAny (model P w) callerA (.call (.ref fa) ⟨[.ref a],[]⟩) (fun r s'=>r=.ok (.ret (.bool true))∧OldK s₁.heap s'.heap∧s'.os=s₁.os∧AllBare s'.gens) s₁:=by
  have rv:=Zh2 hi
  have lenV:=hi.length
  have core:∀H:Hp,Zr5 H→SqL K H a (ns.map V.int)→HOk P w H s₁.heap→(∀b,H b≠none→b=a)→(H a≠none→K.lookup a=none)→
      codeAny (model P w) callerA (.call (.ref fa) ⟨[.ref a],[]⟩) (fun r s'=>r=.ok (.ret (.bool true))∧OldK s₁.heap s'.heap∧s'.os=s₁.os∧AllBare s'.gens) s₁:=by
    intro H hO hS hok hA hK
    have base_of:∀{b:Addr} {o:Obj},s₁.heap.get? b=some o→H b=none→(ZiX s₁.heap H).get? b=some o:=fun e n=>Zp0 e n
    have noA:∀{b:Addr} {o:Obj} {es:Array DictEntry} {ep:Nat},s₁.heap.get? b=some o→o.data=.dict es ep→H b=none:=fun {b o es ep} e d=>by
      cases q:H b with
      | none=>rfl
      | some u=>
        have e':b=a:=hA b (by rw [q]; simp)
        subst e'
        rw [ha] at e; cases e
        have d':Data.seq vs.toArray _=Data.dict es ep:=d
        cases d'
    have nsK:∀{b:Addr} {m:Str→Option Value},s₁.heap.Ns b m→(ZiX s₁.heap H).Ns b m:=fun {b m} ⟨o,es,ep,e,d,r⟩=>⟨o,es,ep,base_of e (noA e d),d,r⟩
    have hKb:K.In (ZiX s₁.heap H):=fun b o e=>base_of (KX b o e) (by
      cases q:H b with
      | none=>rfl
      | some u=>
        have e':b=a:=hA b (by rw [q]; simp)
        subst e'
        rw [hK (by rw [q]; simp)] at e; cases e)
    have hM:Mod K mg (ZiX s₁.heap H):=⟨hKb,nsK hns,⟨mb,nsK hb,hbb⟩,let ⟨mc,h1,h2⟩:=hlim; ⟨mc,nsK h1,h2⟩⟩
    have e0:Env0 P w K mg (ZiX s₁.heap H) callerA [] s₁ H:=⟨rfl,hM,fun b o e=>Zrs e,Nat.le_of_eq (Zne _ _),trivial,fun b hb=>absurd (show b∈([]:List Addr) from hb) (by simp),hok,.of_eq hg⟩
    refine codeAny_mono ((F _ hKb (nsK hns)).run callerA [] s₁ H ⟨[.ref a],[]⟩ [.ref a] [.ref a] _ _ hr e0 (hbind s₁ (.ref a)) (.cons rfl .nil) (hsp H hO hS)) fun r s' h=>?_
    cases r with
    | error e=>exact (hCX H e s' h).elim
    | ok fl=>
      cases fl with
      | next=>exact False.elim h
      | brk=>exact False.elim h
      | cont=>exact False.elim h
      | ret u=>
        obtain ⟨v,H',os,bare,un,hok',r',q⟩:=h
        have q':v=.bl true:=q
        subst q'
        obtain rfl:u=Value.bool true:=r'
        refine ⟨rfl,OldK.of_keep fun b o e=>?_,os,bare⟩
        cases q:H b with
        | none=>exact un.keep b o e q (by intro z; exact absurd (show b∈([]:List Addr) from z) (by simp)) (by simp)
        | some u=>
          rcases hO b with z | ⟨ob,xs,z⟩
          · rw [q] at z; cases z
          · have z2:=un.frzs b ob _ z
            obtain ⟨e1,_⟩:=hok b _ z
            obtain ⟨e2,_⟩:=hok' b _ z2
            rw [e] at e1; cases e1
            exact e2
  cases hk:K.lookup a with
  | some o=>
    have e:=KX a o hk
    rw [ha] at e
    cases e
    refine core (fun _=>none) (fun _=>.inl rfl) (.inr ⟨_,vs.toArray,_,hk,rfl,rfl,rfl,by rw [List.size_toArray,lenV]; exact hl,by simpa using rv⟩) (fun b u z=>by have z':(none:Option HO)=some u:=z; cases z') (fun b z=>absurd rfl z) fun z=>absurd rfl z
  | none=>
    refine core (fun b=>if b=a then some (.frz { cls:=.type "list",data:=.seq vs.toArray } (.lst (ns.map V.int))) else none) (fun b=>?_) (.inl (.inr ⟨{ cls:=.type "list",data:=.seq vs.toArray },if_pos rfl⟩)) (fun b u z=>?_) (fun b z=>?_) fun _=>hk
    · by_cases hb:b=a
      · exact .inr ⟨_,_,if_pos hb⟩
      · exact .inl (if_neg hb)
    · by_cases hb:b=a
      · have z':=(if_pos hb).symm.trans z
        cases z'
        subst hb
        exact ⟨ha,by rw [List.length_map]; exact hl,vs,_,rv,ha⟩
      · have z':=(if_neg hb).symm.trans z
        cases z'
    · by_cases hb:b=a
      · exact hb
      · exact absurd (if_neg hb) z
end L2
namespace L2
open PySem PySem.Spec PyProof.Rows
theorem ZqL {l:PySem.W.OpenLaw} {n k:Nat} {q:Program} {loose:List Str} {XP:(Str→Option Value)→Heap→Prop} {YP:World→Heap→Prop} {d:DefRec} {K:Params→PySem.W.Frag} {CX:World→CXT} {sp:World→Sp} {x:Str}
    (hn:l.most=some n) (hn2:n≤sizeLine) (hdf:d.params.defaults=[]) (hr:Room k callerA)
    (hY:∀(w:World) (h:Heap),YP w h→(K w.params).In h)
    (F:∀(w:World) (mg:Str→Option Value) (fa:Addr) (h:Heap),(K w.params).In h→h.Ns mainGlobals mg→mg d.name=some (.ref fa)→
      ∃fd:FuncData,(∀(s:Shared) (u:Value),BindsTo s fd ⟨[u],[]⟩ [(x,u)])∧
        ∀base:Heap,(K w.params).In base→base.Ns mainGlobals mg→FnOk l.prog w (K w.params) mg base (CX w) k fa fd [x] (sp w))
    (hsp:∀(w:World) (H:Hp) (a:Addr) (ns:List Int),ns.length≤n→Zr5 H→SqL (K w.params) H a (ns.map V.int)→sp w [.ref a] H (fun v _=>v=.bl true) fun _ _ _=>False)
    (hCX:∀(w:World) (H:Hp) (s:Shared) (e:Value) (s':Shared),CX w [] H s (fun _ _ _=>False) e s'→False) :
    PySem.W.WalkO q loose XP YP l.row.toRowW d [] (fun f vs=>PySem.call f vs):=by
  refine Att.attach_call hn hdf fun w s₀ s₁ mg mb fa o pm cd doc a vs ns G Y ho hd hcd hmg hobj hints hlen hg=>?_
  have KX:=hY w _ Y
  obtain ⟨fd,hb,hF⟩:=F w mg fa _ KX G.T.g hmg
  exact ZpU KX G.T.g G.T.b G.T.builtins G.T.nolimit hg hobj hints (Nat.le_trans hlen hn2) hr hF hb (fun H hO hS=>hsp w H a ns hlen hO hS) fun H e s'=>hCX w H s₁ e s'
end L2
namespace L2
open PySem PySem.Spec PyProof.Rows
def Zmv (s:Stmt) (j:Nat):Stmt:=match s with
  | .ClassDef _ _ _ body _ _ _ _ _ _ _=>body.getD j (.Pass ⟨0,0,0,0⟩)
  | _=>.Pass ⟨0,0,0,0⟩
def Zp (s:Stmt):Arguments:=match s with
  | .FunctionDef _ a _ _ _ _ _ _ _ _=>a
  | _=>{ posonlyargs:=[],args:=[],vararg:=none,kwonlyargs:=[],kw_defaults:=[],kwarg:=none,defaults:=[] }
def Zn (s:Stmt):List Stmt:=match s with
  | .FunctionDef _ _ b _ _ _ _ _ _ _=>b
  | _=>[]
def Zf (s:Stmt):Scope:=match s with
  | .FunctionDef _ _ _ _ _ _ sc _ _ _=>sc
  | _=>{ kind:=.function,names:=[],isGenerator:=false,isCoroutine:=false }
abbrev CX0:CXT:=fun _ _ _ _ _ _=>False
abbrev E0:XK:=fun _ _ _=>False
theorem Zps {X:Cx}:Zgm CX0 X E0:=fun _ _ _ _ _ _ _ h=>h.elim
structure Fun (K:PySem.W.Frag) (x qual:Str) (st:Stmt) (f:Addr) (fd:FuncData):Prop where
  ex:∃(oc:Value) (od:Option Addr) (kV doc pm:Value) (an:Option Addr) (cdv ct:Value) (osl:Array (Option Value)),
    fd=PySem.W.fnOf x qual (Zp st) (Zn st) (Zf st) .none kV doc pm an cdv ct∧K.lookup f=some ⟨oc,od,.func fd,osl⟩∧PySem.W.codeIn K cdv qual=true
  kp:PySem.W.keepIn K (.ref f)=true
section
variable {P:Program} {w:World} {K:PySem.W.Frag} {mg:Str→Option Value} {base:Heap}
theorem Fun.ok {x qual:Str} {st:Stmt} {f:Addr} {fd:FuncData} {N ps:List Str} {k:Nat} {sp:Sp} (F:Fun K x qual st f fd) (S:Zo N ps (Zf st)) (len:∀vs H Q E,sp vs H Q E→vs.length=ps.length)
    (hbody:∀(cdv:Value) (A:Around) (outer:List Env) (s:Shared) (H:Hp) (vs:List V) (Q:VK) (E:XK),Room k (A.deeper (envOfC qual (Zf st) s.heap.objs.size f cdv))→sp vs H Q E→
      ∃t,PSs (ZgR CX0 P w K mg base N qual (Zf st) f cdv A outer s H E).nox (Zn st) t∧t { nx:=fun _ H'=>Q .non H',rt:=Q } (Zdm N vs) H):FnOk P w K mg base CX0 (k+1) f fd ps sp:=by
  obtain ⟨oc,od,kV,doc,pm,an,cdv,ct,osl,rfl,lk,hcd⟩:=F.ex
  refine ZvG lk hcd S len fun A outer s H vs Q E hr hsp=>?_
  obtain ⟨t,h,q⟩:=hbody cdv A outer s H vs Q E hr hsp
  exact ⟨t,h.nox,q⟩
theorem Fun.binds {x qual:Str} {st:Stmt} {f:Addr} {fd:FuncData} {ps:List Str} (F:Fun K x qual st f fd)
    (h:∀(kV doc pm:Value) (an:Option Addr) (cdv ct:Value) (us:List Value),us.length=ps.length→bindArgs (PySem.W.fnOf x qual (Zp st) (Zn st) (Zf st) .none kV doc pm an cdv ct) ⟨us,[]⟩=pure (ps.zip us)):Binds K fd ps []:=by
  obtain ⟨oc,od,kV,doc,pm,an,cdv,ct,osl,rfl,lk,hcd⟩:=F.ex
  exact .all (h kV doc pm an cdv ct)
theorem Zw {x qual:Str} {st:Stmt} {f:Addr} {oc:Value} {od an:Option Addr} {osl:Array (Option Value)} {kV doc pm cdv ct:Value} (l:K.lookup f=some ⟨oc,od,.func (PySem.W.fnOf x qual (Zp st) (Zn st) (Zf st) .none kV doc pm an cdv ct),osl⟩)
    (c:PySem.W.codeIn K cdv qual=true) (k:PySem.W.keepIn K (.ref f)=true):Fun K x qual st f (PySem.W.fnOf x qual (Zp st) (Zn st) (Zf st) .none kV doc pm an cdv ct):=⟨⟨oc,od,kV,doc,pm,an,cdv,ct,osl,rfl,l,c⟩,k⟩
end
section
variable {X:Cx}
end
def Same (H H':Hp):Prop:=∀b o,H b=some o→H' b=some o
theorem Same.refl (H:Hp):Same H H:=fun _ _ h=>h
theorem Same.trans {H H1 H2:Hp} (a:Same H H1) (b:Same H1 H2):Same H H2:=fun c o h=>b c o (a c o h)
theorem Same.free {H H':Hp} (e:Same H H') {l:Addr} (h:H' l=Option.none):H l=Option.none:=by
  cases q:H l with
  | none=>rfl
  | some o=>
    rw [e l o q] at h
    cases h
theorem Same.seq {K:PySem.W.Frag} {H H':Hp} {a:Addr} {xs:List V} (e:Same H H') (h:SqL K H a xs):SqL K H' a xs:=by
  rcases h with (h | ⟨o,h⟩) | h
  · exact .inl (.inl (e _ _ h))
  · exact .inl (.inr ⟨o,e _ _ h⟩)
  · exact .inr h
end L2
namespace L2
open PySem PySem.Spec PyProof.Rows
section
variable {P:Program} {w:World} {K:PySem.W.Frag} {mg:Str→Option Value} {base:Heap}
def Def0 (K:PySem.W.Frag) (mg:Str→Option Value) (x:Str) (st:Stmt) (ps:List Str):Prop:=
  ∃(f:Addr) (fd:FuncData),Fun K x x st f fd∧Binds K fd ps []∧mg x=some (.ref f)
def Def (P:Program) (w:World) (K:PySem.W.Frag) (mg:Str→Option Value) (base:Heap) (k:Nat) (x:Str) (ps:List Str) (sp:Sp):Prop:=
  ∃(f:Addr) (fd:FuncData),FnOk P w K mg base CX0 k f fd ps sp∧Binds K fd ps []∧PySem.W.keepIn K (.ref f)=true∧mg x=some (.ref f)
theorem Def0.ok {x:Str} {st:Stmt} {N ps:List Str} {k:Nat} {sp:Sp} (D:Def0 K mg x st ps) (S:Zo N ps (Zf st)) (len:∀vs H Q E,sp vs H Q E→vs.length=ps.length)
    (hbody:∀(f:Addr) (cdv:Value) (A:Around) (outer:List Env) (s:Shared) (H:Hp) (vs:List V) (Q:VK) (E:XK),Room k (A.deeper (envOfC x (Zf st) s.heap.objs.size f cdv))→sp vs H Q E→
      ∃t,PSs (ZgR CX0 P w K mg base N x (Zf st) f cdv A outer s H E).nox (Zn st) t∧t { nx:=fun _ H'=>Q .non H',rt:=Q } (Zdm N vs) H):Def P w K mg base (k+1) x ps sp:=by
  obtain ⟨f,fd,F,b,m⟩:=D
  exact ⟨f,fd,F.ok S len (hbody f),b,F.kp,m⟩
theorem Def.mono {x:Str} {ps:List Str} {j k:Nat} {sp:Sp} (D:Def P w K mg base j x ps sp) (h:j≤k):Def P w K mg base k x ps sp:=by
  obtain ⟨f,fd,F,b,kp,m⟩:=D
  exact ⟨f,fd,F.mono h,b,kp,m⟩
end
section
variable {X:Cx} {k:Nat} {x:Str} {ps:List Str} {sp:Sp} {p pos:Pos} {e:Expr} {es:List Expr} {t:TA}
theorem Zpq {j:Nat} (D:Def X.prog X.w X.K X.mg X.base k x ps sp) (hr:Room j X.A) (hj:k≤j) (ha:PA X (e::es) t) (hg:Gl X x:=by rfl) (hdb:(x == ("__debug__":Str))=false:=by decide)
    (he:starEach (e::es) X.env=(false,eval e X.env)::starEach es X.env:=by rfl) (hpl:(backTo pos (starEach es X.env)).any (·.1)=false:=by rfl):PE X (.Call (.Name x p) (e::es) [] pos) (Zsk sp [] E0 t):=by
  obtain ⟨f,fd,F,b,kp,m⟩:=D
  exact Zro F (hr.mono hj) hg m kp b .nil Zps ha hdb he hpl
theorem Zrm {i:Int} (h:∃t,X.mg x=some (.int i t)) (hg:Gl X x:=by rfl) (hd:(x == ("__debug__":Str))=false:=by decide):PE X (.Name x pos) (tC (.int i)):=by
  obtain ⟨t,h⟩:=h
  exact Zmc hg h ⟨t,rfl⟩ hd
def ZvT (_ j:Int):Prop:=0<j∧j.natAbs.log2<9000
theorem Zpt:OpR X (binaryOp .FloorDiv) (rI ZvT fun i j=>.int (i/j)):=opI fun i j _ _ _ _ _ hc q=>by
  have h1:(0:Int)<j:=hc.1
  exact floordiv_int (by omega) (by rw [Int.fdiv_eq_ediv_of_nonneg i (by omega)]; exact q) (.inl (PyProof.noPylong_of_log2 hc.2))
theorem Zlf:CallR X (.builtin "isinstance") (fun xs H Q=>∃(x:V) (n:String) (t:Value) (b:Bool),xs=[x,.ty n]∧ZfS X.K H x t∧PySem.W.kitOne X.K t (.type n)=some b∧Q (.bl b) H):=by
  intro pins s σ H xs us Q I r h
  obtain ⟨x,n,t,b,rfl,ty,e,q⟩:=h
  cases r with
  | cons rx rr=>
    cases rr with
    | cons ry rr=>
      cases rr
      cases ry
      exact Znb I rx ty e fun tk=>⟨.bl b,H,I.tok tk,rfl,q⟩
theorem Zu9 {x:Str} {n:String} {pos:Pos} (hm:X.mg x=none) (hv:bootBuiltins x=some (.type n)) (hg:Gl X x:=by rfl) (hn:x≠"__name__":=by decide) (hd:(x == ("__debug__":Str))=false:=by decide):PE X (.Name x pos) (tC (.ty n)):=
  Zrp hg hm hv rfl hn hd
end
end L2
set_option maxHeartbeats 4000000
namespace L2
open PySem PySem.Spec PyProof.Rows
theorem ZfI {scope:Scope} {env:Env} (h:∀x∈scope.names,x.2=.free→∃c,env.cells.lookup x.1=some c) :
    ∃cl:List (Str×Addr),closureFor scope env=pure cl∧(∀n c,(n,c)∈cl→env.cells.lookup n=some c)∧∀x∈scope.names,x.2=.free→∃c,(x.1,c)∈cl:=by
  have key:∀(names:List (Str×NameKind)) (acc:List (Str×Addr)),(∀x∈names,x.2=.free→∃c,env.cells.lookup x.1=some c)→(∀n c,(n,c)∈acc→env.cells.lookup n=some c)→
      ∃cl:List (Str×Addr),(forIn names acc fun (x:Str×NameKind) (cs:List (Str×Addr))=>if (x.2 == NameKind.free)=true then (do let c ←cellOf env x.1; pure (ForInStep.yield ((x.1,c)::cs)):Sem _) else pure (ForInStep.yield cs))=(pure cl:Sem _)∧
        (∀n c,(n,c)∈cl→env.cells.lookup n=some c)∧(∀p∈acc,p∈cl)∧∀x∈names,x.2=.free→∃c,(x.1,c)∈cl:=by
    intro names
    induction names with
    | nil=>intro acc _ ha; exact ⟨acc,rfl,ha,fun _ p=>p,fun x hx=>nomatch hx⟩
    | cons y r ih=>
      intro acc hx ha
      obtain ⟨n,k⟩:=y
      by_cases hk:k=.free
      · subst hk
        obtain ⟨c,hc⟩:=hx (n,.free) List.mem_cons_self rfl
        obtain ⟨cl,e,h1,h2,h3⟩:=ih ((n,c)::acc) (fun x z=>hx x (List.mem_cons_of_mem _ z)) (fun m d z=>by
          rcases List.mem_cons.mp z with z | z
          · cases z; exact hc
          · exact ha m d z)
        refine ⟨cl,?_,h1,fun p z=>h2 p (List.mem_cons_of_mem _ z),fun x z zf=>?_⟩
        · have ec:cellOf env n=pure c:=by unfold cellOf; rw [hc]
          rw [List.forIn_cons]
          simp only [beq_self_eq_true,if_true,ec,pure_bind]
          exact e
        · rcases List.mem_cons.mp z with z | z
          · cases z; exact ⟨c,h2 _ List.mem_cons_self⟩
          · exact h3 x z zf
      · obtain ⟨cl,e,h1,h2,h3⟩:=ih acc (fun x z=>hx x (List.mem_cons_of_mem _ z)) ha
        refine ⟨cl,?_,h1,h2,fun x z zf=>?_⟩
        · have hb:(k == NameKind.free)=false:=by simpa using hk
          rw [List.forIn_cons]
          simp only [hb,Bool.false_eq_true,if_false,pure_bind]
          exact e
        · rcases List.mem_cons.mp z with z | z
          · cases z; exact absurd zf hk
          · exact h3 x z zf
  obtain ⟨cl,e,h1,_,h3⟩:=key scope.names [] h (fun n c z=>nomatch z)
  refine ⟨cl,?_,h1,h3⟩
  simp only [closureFor]
  rw [e]
  rfl
def Cx.comp (X:Cx) (scope:Scope) (N':List Str) (cl:List (Str×Addr)) (C:Addr) (s₀:Shared) (H₀:Hp) (fp:List Addr):Cx where
  prog:=X.prog
  w:=X.w
  K:=X.K
  mg:=X.mg
  base:=X.base
  A:=X.A
  N:=N'
  s₀:=s₀
  H₀:=H₀
  env:=compEnvC scope cl C X.env
  outer:=X.stack
  stack:=X.stack
  ex:=fp
  fn:=fun _=>false
  calm:=X.calm
  pn:=[]
  xe:=fun _ _=>False
def inner (src:List Nat) (σ:St) (x:Option V):St:=x::src.map fun j=>(σ[j]?).join
theorem Zhp {α:Type} {l:List (Str×α)} {n:Str} {c:α} (h:(n,c)∈l):∃d,l.lookup n=some d:=by
  induction l with
  | nil=>cases h
  | cons y r ih=>
    obtain ⟨m,d⟩:=y
    by_cases e:n == m
    · exact ⟨d,by rw [List.lookup_cons,e]⟩
    · rcases List.mem_cons.mp h with z | z
      · cases z; exact absurd (beq_self_eq_true n) e
      · obtain ⟨d',q⟩:=ih z
        exact ⟨d',by rw [List.lookup_cons,Bool.eq_false_iff.mpr e]; exact q⟩
theorem ZdJ {env:Env} {n:Str}:∀{names:List (Str×NameKind)} {k:NameKind},(∀y∈names,y.2≠.cell)→
    (names.map fun (n,k)=>if (k == NameKind.free && env.scope.kind == .function && env.kindOf n == some .cell) then (n,NameKind.cell) else (n,k)).lookup n=some k→(k=.cell∨k=.free)→(n,NameKind.free)∈names
  | [],_,_,h,_=>by simp at h
  | (m,j)::r,k,hc,h,hk=>by
    have nc:j≠.cell:=hc (m,j) List.mem_cons_self
    rw [List.map_cons] at h
    by_cases e:n == m
    · have en:n=m:=by simpa using e
      subst en
      by_cases cnd:(j == NameKind.free && env.scope.kind == .function && env.kindOf n == some .cell)=true
      · have:j=.free:=by
          simp only [Bool.and_eq_true,beq_iff_eq] at cnd
          exact cnd.1.1
        rw [this]
        exact List.mem_cons_self
      · simp only [cnd] at h
        rw [if_neg (by simp),List.lookup_cons,beq_self_eq_true] at h
        cases h
        rcases hk with rfl | rfl
        · exact absurd rfl nc
        · exact List.mem_cons_self
    · refine List.mem_cons_of_mem _ (ZdJ (env:=env) (k:=k) (fun y hy=>hc y (List.mem_cons_of_mem _ hy)) ?_ hk)
      rw [List.lookup_cons] at h
      have e2:(n == (if (j == NameKind.free && env.scope.kind == .function && env.kindOf m == some .cell)=true then (m,NameKind.cell) else (m,j)).1)=false:=by
        split<;>exact Bool.eq_false_iff.mpr e
      rw [e2] at h
      exact h
theorem Zfp {env:Env}:∀{names:List (Str×NameKind)} {x:Str},names.lookup x=some .free→
    (names.map fun (n,k)=>if (k == NameKind.free && env.scope.kind == .function && env.kindOf n == some .cell) then (n,NameKind.cell) else (n,k)).lookup x=some .cell∨
    (names.map fun (n,k)=>if (k == NameKind.free && env.scope.kind == .function && env.kindOf n == some .cell) then (n,NameKind.cell) else (n,k)).lookup x=some .free
  | [],_,h=>by simp at h
  | (n,k)::r,x,h=>by
    have ih:=@Zfp env r x
    rw [List.map_cons]
    cases hx:x == n with
    | true=>
      simp only [List.lookup_cons,hx] at h
      cases h
      by_cases hc:(NameKind.free == NameKind.free && env.scope.kind == .function && env.kindOf n == some .cell)=true
      · left
        show List.lookup x ((if (NameKind.free == NameKind.free && env.scope.kind == .function && env.kindOf n == some .cell)=true then (n,NameKind.cell) else (n,NameKind.free))::_)=_
        rw [if_pos hc,List.lookup_cons,hx]
      · right
        show List.lookup x ((if (NameKind.free == NameKind.free && env.scope.kind == .function && env.kindOf n == some .cell)=true then (n,NameKind.cell) else (n,NameKind.free))::_)=_
        rw [if_neg hc,List.lookup_cons,hx]
    | false=>
      simp only [List.lookup_cons,hx] at h
      have e:∀t,List.lookup x ((if (k == NameKind.free && env.scope.kind == .function && env.kindOf n == some .cell)=true then (n,NameKind.cell) else (n,k))::t)=List.lookup x t:=fun t=>by
        split<;>rw [List.lookup_cons,hx]
      rcases ih h with q | q
      · exact .inl ((e _).trans q)
      · exact .inr ((e _).trans q)
section
variable {X:Cx} {x:Str} {px:Pos} {iter elt:Expr} {scope:Scope} {pos:Pos} {N':List Str} {src:List Nat} {wi:TI} {te:TE}
structure ZbL (scope sc:Scope) (x:Str) (N N':List Str) (src:List Nat):Prop where
  kind:scope.kind=.function
  cell:∀y∈scope.names,y.2≠.cell
  loc:∀y∈scope.names,y.2=.local→scope.names.lookup y.1=some .local
  own:scope.names.lookup x=some .local
  free:∀y∈scope.names,y.2=.free→sc.names.lookup y.1=some .cell
  nd:N'.Nodup
  names:N'=x::src.map fun j=>N.getD j x
  all:∀j∈src,j<N.length
  fr:∀j∈src,sc.names.lookup (N.getD j x)=some .cell∧scope.names.lookup (N.getD j x)=some .free
theorem ZlO {pins:List (Addr×Obj)} {σ:St} {H:Hp} {s s':Shared} {C:Addr} {cl:List (Str×Addr)} {fp:List Addr} (I:Inv X pins σ H s) (S:ZbL scope X.env.scope x X.N N' src)
    (hcl:∀n c,(n,c)∈cl→X.env.cells.lookup n=some c) (hcl2:∀y∈scope.names,y.2=.free→∃c,(y.1,c)∈cl) (hC:s.heap.objs.size≤C) (hfp:∀b∈fp,Zh1 X pins H b) (hfl:∀b∈fp,b<s.heap.objs.size)
    (hn:∃m,s'.heap.Ns C m) (hk:∀b o,s.heap.get? b=some o→s'.heap.get? b=some o) (ho:s'.os=s.os) (hg:s'.gens=s.gens) :
    Inv (X.comp scope N' cl C s H fp) [] (inner src σ none) H s':=by
  have cll:∀n c,cl.lookup n=some c→X.env.cells.lookup n=some c:=fun n c e=>hcl n c (PySem.mem_of_lookup e)
  refine ⟨⟨I.ok.mod,S.kind,I.ok.glob,I.ok.blt,hC,fun y z c h1 h2=>I.ok.inj y z c (cll _ _ h1) (cll _ _ h2),fun y hy=>?_,fun y c h=>absurd (show false=true from h) (by decide),I.ok.hd,I.ok.frames,.inl rfl,fun b hb=>⟨Nat.ne_of_lt (Nat.lt_of_lt_of_le (hfl b hb) hC),fun y c e=>(hfp b hb).2.2.2.2.1 y c (cll y c e)⟩,
    I.bs,Nat.le_trans I.ok.bsz I.sz,fun b o e hb=>?_,fun b hb=>?_,I.stack,I.stkFree⟩,ho,?_,Un.kept hk,?_,fun y c e=>?_,I.hok.fresh hC,fun y c e=>I.freeC y c (cll y c e),fun p hp=>absurd (show p∈([]:List (Addr×Obj)) from hp) (by simp),I.hok.kept hk,?_⟩
  · have hy':(relabel scope X.env).names.lookup y=some .cell∨(relabel scope X.env).names.lookup y=some .free:=hy
    have:(y,NameKind.free)∈scope.names:=by
      rcases hy' with h | h
      · exact ZdJ S.cell h (.inl rfl)
      · exact ZdJ S.cell h (.inr rfl)
    obtain ⟨c,hc⟩:=hcl2 _ this rfl
    exact Zhp hc
  · rcases (hfp b hb).2.2.2.1 with z | z
    · exact I.ok.noex b o e z
    · exact absurd (Nat.lt_of_lt_of_le (Heap.lt_size e) (Nat.le_trans I.ok.bsz z)) (Nat.lt_irrefl _)
  · intro hs
    rcases List.mem_cons.mp (I.stkSub b hs) with z | z
    · exact (hfp b hb).2.1 z
    · exact (hfp b hb).2.2.1 z
  · rw [hg]; exact I.bare
  · obtain ⟨m,hm⟩:=hn
    refine ⟨m,hm,fun i y v h1 h2 h3=>?_⟩
    have h1':N'[i]?=some y:=h1
    rw [S.names] at h1'
    cases i with
    | zero=>cases (show (some none:Option (Option V))=some (some v) from h2)
    | succ k=>
      rw [List.getElem?_cons_succ,List.getElem?_map] at h1'
      have h2':(src.map fun j=>(σ[j]?).join)[k]?=some (some v):=h2
      rw [List.getElem?_map] at h2'
      cases e:src[k]? with
      | none=>rw [e] at h1'; cases h1'
      | some j=>
        rw [e] at h1' h2'
        have hj:=List.mem_of_getElem? e
        have ey:X.N.getD j x=y:=Option.some.inj h1'
        have ev:(σ[j]?).join=some v:=Option.some.inj h2'
        have eN:X.N[j]?=some y:=by
          have:=S.all j hj
          rw [List.getElem?_eq_getElem this]
          rw [List.getD_eq_getElem?_getD,List.getElem?_eq_getElem this] at ey
          exact congrArg some ey
        have eσ:σ[j]?=some (some v):=by
          cases q:σ[j]? with
          | none=>rw [q] at ev; cases ev
          | some z=>rw [q] at ev; exact congrArg some ev
        obtain ⟨k1,k2⟩:=S.fr j hj
        rw [ey] at k1 k2
        obtain ⟨mo,hmo,hl⟩:=I.loc
        obtain ⟨u,r,l⟩:=hl j y v eN eσ (.inr (.inl k1))
        refine ⟨u,r,?_⟩
        rcases l with ⟨z,_⟩ | ⟨_,c,hc,hcell⟩
        · have z':X.env.scope.names.lookup y=some .local:=z
          rw [k1] at z'; cases z'
        · obtain ⟨c',hc'⟩:=hcl2 _ (PySem.mem_of_lookup k2) rfl
          obtain ⟨d,hd⟩:=Zhp hc'
          have ed:d=c:=by
            have:=cll _ _ hd
            rw [hc] at this
            exact (Option.some.inj this).symm
          subst ed
          obtain ⟨o,e1,e2⟩:=hcell
          refine .inr ⟨?_,d,hd,o,hk _ _ e1,e2⟩
          rcases h3 with z | z | z
          · have z':(relabel scope X.env).names.lookup y=some .local:=z
            rcases Zfp (env:=X.env) k2 with w | w
            · have w':(relabel scope X.env).names.lookup y=some .cell:=w
              rw [w'] at z'; cases z'
            · have w':(relabel scope X.env).names.lookup y=some .free:=w
              rw [w'] at z'; cases z'
          · exact .inl z
          · exact .inr z
  · obtain ⟨v,o,e1,e2⟩:=I.cell y c (cll y c e)
    exact ⟨v,o,hk _ _ e1,e2⟩
  · show (inner src σ none).length=N'.length
    rw [S.names]
    unfold inner
    rw [List.length_cons,List.length_cons,List.length_map,List.length_map]
theorem Zlb {prog:Program} {w:World} {A:Around} {R:Result→Shared→Prop} {s:Shared} {elt target iter:Expr} {scope:Scope} {pos:Pos} {it acc:Value} {env:Env} (I:Nat→Shared→Prop)
    (turn:∀n s,I n s→wpAny (model prog w) A (pyNext it) (fun r s₁=>match r with
      | none=>R (.ok .next) s₁
      | some v=>wpAny (model prog w) A (letOwnedTupleGo target it v) (fun _ s₂=>wpAny (model prog w) A (assign target env v) (fun _ s₃=>wpAny (model prog w) A (eval elt env) (fun x s₄=>
          wpAny (model prog w) A (call (.builtin "list.append") [acc,x]) (fun _ s₅=>∃m,m<n∧I m s₅) (notedBy (model prog w) A env fun e s'=>R (.error e) s') s₄) (notedBy (model prog w) A env fun e s'=>R (.error e) s') s₃)
          (notedBy (model prog w) A env fun e s'=>R (.error e) s') s₂) (notedBy (model prog w) A env fun e s'=>R (.error e) s') s₁) (notedBy (model prog w) A env fun e s'=>R (.error e) s') s)
    (n:Nat) (h:I n s):codeAny (model prog w) A (.compLoop (.ListComp elt [⟨target,iter,[],0⟩] scope pos) 0 it acc env) R s:=by
  refine codeAny_loop rfl I (fun n s hI=>?_) n h
  show wpAny _ A ((compTurn (.ListComp elt [⟨target,iter,[],0⟩] scope pos) 0 it acc env).onRaise (fun x=>do noteFrame x env; theTreesLotGoes x)) _ _ s
  refine wpAny_noted ?_
  rw [compTurn_list1]
  refine wpAny_bind (wpAny_standAt (wpAny_bind (thn (turn n s hI) fun r s₁ h₁=>?_)))
  cases r with
  | none=>exact wpAny_pure h₁
  | some v=>
    refine wpAny_bind (thn h₁ fun _ s₂ h₂=>wpAny_bind (thn h₂ fun _ s₃ h₃=>?_))
    exact wpAny_bind (wpAny_bind (thn h₃ fun x s₄ h₄=>wpAny_bind (thn h₄ fun _ s₅ h₅=>wpAny_pure (wpAny_pure ⟨rfl,h₅⟩))))
def lcR (J:It) (src:List Nat) (σ:St) (te:TE) (H1:Hp) (Q:VK):Prop:=∃(n:Nat) (Pv:Nat→List V→Hp→Prop),n≤sizeLine∧Pv 0 [] H1∧
  (∀i ys H,i<n→Pv i ys H→J.go i H∧∀y H',J.yld i H y H'→te (inner src σ (some y)) H' fun z H2=>Pv (i+1) (ys++[z]) H2)∧
  ∀ys H,Pv n ys H→J.stop n H∧∀p,H p=none→Q (.ref p) (upd H p (.lst ys))
def tLc (wi:TI) (src:List Nat) (te:TE):TE:=fun σ H Q=>wi σ H fun J H1=>lcR J src σ te H1 Q
theorem HOk.lay {P:Program} {w:World} {H:Hp} {h:Heap} {a:Addr} {o:HO} (x:HOk P w H h) (hn:H a=none) (new:ObjOk P w (upd H a o) h a o):HOk P w (upd H a o) h:=fun b u e=>by
  by_cases hb:b=a
  · subst hb; rw [zI] at e; cases e; exact new
  · rw [ZP hb] at e
    exact (x b u e).stay (fun c v _ q=>q) (fun c q=>by rw [ZP (zi q hn)]; exact q) fun c xs q=>by rw [ZP (zi q hn)]; exact q
theorem Un.lay {fs ex:List Addr} {H H1:Hp} {h h1:Heap} {a:Addr} {o:HO} (u:Un fs ex H H1 h h1) (hn:H1 a=none) (hh:h.get? a=none):Un fs ex H (upd H1 a o) h h1 where
  keep:=u.keep
  slot:=u.slot
  free:=fun b ob q n hx=>by rw [ZP (fun z=>by rw [z,hh] at q; cases q)]; exact u.free b ob q n hx
  there:=u.there
  tups:=fun b xs q=>by rw [ZP (zi (u.tups b xs q) hn)]; exact u.tups b xs q
  frzs:=fun b ob xs q=>by rw [ZP (zi (u.frzs b ob xs q) hn)]; exact u.frzs b ob xs q
  tbls:=fun b ps q=>by
    obtain ⟨m,e⟩:=u.tbls b ps q
    exact ⟨m,by rw [ZP (zi e hn)]; exact e⟩
theorem ZpT {pins:List (Addr×Obj)} {σ:St} {H:Hp} {s:Shared} {cl:List (Str×Addr)} {it:Addr} {fp:List Addr} {tn:Nat→Heap→Prop} {J:It} {n:Nat} {Pv:Nat→List V→Hp→Prop} {RR:Value→Addr→Result→Shared→Prop} {E:Value→Shared→Prop}
    (I:Inv X pins σ H s) (hcm:X.calm=true) (S:ZbL scope X.env.scope x X.N N' src) (hcl:∀n c,(n,c)∈cl→X.env.cells.lookup n=some c) (hcl2:∀y∈scope.names,y.2=.free→∃c,(y.1,c)∈cl)
    (T:Znp X.prog X.w X.K (.Name x px) J fp it tn) (t0:tn 0 s.heap) (hfp:∀b∈fp,Zh1 X pins H b)
    (helt:∀(cl:List (Str×Addr)) (C:Addr) (s₀:Shared) (H₀:Hp) (fp:List Addr),PE (X.comp scope N' cl C s₀ H₀ fp) elt te)
    (hn:n≤sizeLine) (p0:Pv 0 [] H) (turn:∀i ys H,i<n→Pv i ys H→J.go i H∧∀y H',J.yld i H y H'→te (inner src σ (some y)) H' fun z H2=>Pv (i+1) (ys++[z]) H2) (stop:∀ys H,Pv n ys H→J.stop n H)
    (hR:∀(D C:Addr) (o:Obj) (ys:List V) (H':Hp) (s':Shared),Pv n ys H'→H' D=none→Inv X (pins++[(C,o)]) σ (upd H' D (.lst ys)) s'→(∃m,s'.heap.Ns C m)→Zh1 X pins (upd H' D (.lst ys)) C→RR (.ref D) C (.ok .next) s') :
    wpAny (model X.prog X.w) X.A (newList []) (fun acc s₃=>wpAny (model X.prog X.w) X.A (newFunctionEnv scope X.env.globals cl [] X.env.qual none .none (some X.env)) (fun cenv s₄=>
      codeAny (model X.prog X.w) X.A (.compStart (.ListComp elt [⟨.Name x px,iter,[],0⟩] scope pos) 0 (.ref it) acc { cenv with scope:=relabel scope X.env }) (RR acc cenv.locals) s₄) E s₃) E s:=by
  refine wpAny_newObj_type (wpAny_newFunctionEnv S.cell (by intro y hy; simp at hy) (fun h₁ hns₁ hsb₁=>?_) S.kind)
  dsimp only at hns₁ hsb₁ ⊢
  generalize hH2:s.heap.push { cls:=.type "list",dict:=none,data:=.seq ([]:List Value).toArray }=H2 at hns₁ hsb₁ ⊢
  have hC:H2.objs.size=s.heap.objs.size+1:=by rw [←hH2,Heap.size_push]
  have hDC:s.heap.objs.size≠H2.objs.size:=by rw [hC]; exact Nat.ne_of_lt (Nat.lt_succ_self _)
  have hCle:s.heap.objs.size≤H2.objs.size:=by rw [hC]; exact Nat.le_succ _
  have below:∀b,b<s.heap.objs.size→b≠H2.objs.size∧b≠s.heap.objs.size:=fun b hb=>⟨by rw [hC]; exact Nat.ne_of_lt (Nat.lt_succ_of_lt hb),Nat.ne_of_lt hb⟩
  have old:∀b o,s.heap.get? b=some o→h₁.get? b=some o:=fun b o e=>hsb₁.extBut b o (below b (Heap.lt_size e)).1 (Heap.get?_push_of_some _ (hH2 ▸ Heap.get?_push_of_some _ e))
  have hacc:h₁.PlainList s.heap.objs.size #[]:=⟨_,hsb₁.extBut _ _ hDC (Heap.get?_push_of_some _ (hH2 ▸ Heap.get?_push_size _ rfl))⟩
  have hfl:∀b∈fp,b<s.heap.objs.size:=fun b hb=>by
    obtain ⟨o,e,_⟩:=T.obj 0 _ t0 b hb
    exact Heap.lt_size e
  have fresh:∀a,s.heap.objs.size≤a→s.heap.get? a=none:=fun a ha=>by
    cases e:s.heap.get? a with
    | none=>rfl
    | some o'=>exact absurd (Heap.lt_size e) (Nat.not_lt.mpr ha)
  generalize eD:s.heap.objs.size=D at hDC hacc hCle below fresh hfl hC ⊢
  generalize eC:H2.objs.size=C at hDC hCle below hC hns₁ hsb₁ ⊢
  have I1:Inv (X.comp scope N' cl C s H fp) [] (inner src σ none) H { s with heap:=h₁,toks:=s.toks+([]:List (Str×Value)).length }:=
    ZlO I S hcl hcl2 (by rw [eD]; exact hCle) hfp (by rw [eD]; exact hfl) ⟨_,hns₁⟩ old rfl rfl
  have stat:∀{H':Hp} {pl:List (Addr×Obj)},(∀p∈pl,p.1=D)→(∀b∈fp,H' b=none)→∀b∈fp,Zh1 (X.comp scope N' cl C s H fp) pl H' b:=fun {H' pl} hp hn b hb=>
    ⟨hn b hb,(below b (hfl b hb)).1,fun z=>by
      rcases List.mem_cons.mp (I.stkSub b z) with q | q
      · exact (hfp b hb).2.1 q
      · exact (hfp b hb).2.2.1 q,.inl hb,fun y c e=>(hfp b hb).2.2.2.2.1 y c (hcl y c (PySem.mem_of_lookup e)),fun p hq=>by
      rw [hp p (by rcases List.mem_append.mp hq with z | z; exact absurd (show p∈([]:List (Addr×Obj)) from z) (by simp); exact z)]
      exact Ne.symm (below b (hfl b hb)).2⟩
  have nD:D∉frs X.stack:=fun z=>by
    rcases List.mem_cons.mp (I.stkSub D z) with q | q
    · have:=I.lt; rw [←q,eD] at this; exact Nat.lt_irrefl _ this
    · exact I.nofs (a:=D) (by rw [eD]; exact Nat.le_refl _) q
  have nC:C∉X.fs:=I.nofs (by rw [eD]; exact hCle)
  have cellD:∀y c,cl.lookup y=some c→c<D:=fun y c e=>by
    obtain ⟨v,q⟩:=I.cell y c (hcl y c (PySem.mem_of_lookup e))
    have:=q.lt
    rw [eD] at this
    exact this
  have loop:∀s₃:Shared,s₃={ s with heap:=h₁,toks:=s.toks+([]:List (Str×Value)).length }→
      codeAny (model X.prog X.w) X.A (.compLoop (.ListComp elt [⟨.Name x px,iter,[],0⟩] scope pos) 0 (.ref it) (.ref D) (compEnvC scope cl C X.env)) (RR (.ref D) C) s₃:=by
    rintro s₃ rfl
    refine Zlb (fun k s'=>∃(i:Nat) (ys:List V) (its:List Value) (H':Hp) (xo:Option V),Inv (X.comp scope N' cl C s H fp) [] (inner src σ xo) H' s'∧tn i s'.heap∧(∀b∈fp,H' b=none)∧s'.heap.PlainList D its.toArray∧Vals ys its∧H' D=none∧
      Pv i ys H'∧ys.length=i∧i≤n∧k=n+1-i) ?_ (n+1) ⟨0,[],[],H,none,I1,T.keep _ _ _ t0 (fun b _ o e=>old b o e),fun b hb=>(hfp b hb).1,hacc,.nil,I.hok.fresh (by rw [eD]; exact Nat.le_refl _),p0,rfl,Nat.zero_le _,rfl⟩
    rintro k s' ⟨i,ys,its,H',xo,I3,t3,f3,l3,v3,d3,p3,e3,le3,rfl⟩
    by_cases hlt:i<n
    · obtain ⟨go,step⟩:=turn i ys H' hlt p3
      obtain ⟨nn,oD⟩:=id l3
      have I3p:Inv (X.comp scope N' cl C s H fp) [(D,{ cls:=.type "list",data:=.seq its.toArray nn })] (inner src σ xo) H' s':=
        I3.pins_of fun p hp=>by
          have ep:p=(D,{ cls:=.type "list",data:=.seq its.toArray nn }):=by simpa using hp
          subst ep
          exact ⟨oD,d3,hDC,nD,fun v z=>by cases z⟩
      refine thn (T.item (X.comp scope N' cl C s H fp) rfl rfl rfl hcm i _ s' _ H' _ I3p (stat (by simp) f3) t3 go) fun r s4 ⟨u,hr,h4⟩=>?_
      subst hr
      refine thn h4 fun _ s5 ⟨y,H5,I5,r5,y5,st5,fr5⟩=>?_
      have I5':=I5.pinned (stat (by simp) fr5) (T.obj _ _ st5)
      have hg:PG (X.comp scope N' cl C s H fp) (.Name x px) (Zk4 0):=
        Zfr S.nd (by show N'[0]?=some x; rw [S.names]; rfl) (.inl (lookup_relabel_local S.own)) (.inr (lookup_relabel_local S.own))
      refine wpAny_mono (hg _ s5 _ H5 y u (fun σ2 H2=>σ2=inner src σ (some y)∧H2=H5) I5' r5 ⟨rfl,rfl⟩) (fun _ s6 ⟨σ6,H6,I6,e6,e6'⟩=>?_) fun _ _ z=>False.elim z
      subst e6 e6'
      refine wpAny_mono (helt cl C s H fp _ s6 _ _ _ I6 (step y _ y5)) (fun v s7 ⟨z,H7,I7,r7,q7⟩=>?_) fun _ _ z=>False.elim z
      have o7:=I7.pin (D,{ cls:=.type "list",data:=.seq its.toArray nn }) (by simp)
      have hys:its.toArray.size≤sizeLine:=by
        have:=v3.length
        rw [List.size_toArray]
        omega
      refine wpAny_list_append_plain (hsz:=hys) (items:=its.toArray) (s:=s7) ⟨nn,o7.1⟩ fun h8 hl8 hs8=>?_
      refine ⟨n+1-(i+1),by omega,i+1,ys++[z],its++[v],H7,some y,?_,?_,?_,?_,v3.append (.cons r7 .nil),o7.2.1,q7,by rw [List.length_append,e3]<;>rfl,hlt,rfl⟩
      · have I7':Inv (X.comp scope N' cl C s H fp) [] (inner src σ (some y)) H7 s7:=I7.pins_of fun p hp=>absurd hp (by simp)
        exact I7'.turned (t':=s7.toks) (it:=D) (fun b o hb e=>(hs8.2 b hb).trans e) o7.2.1 hDC (.inr (by show s.heap.objs.size≤D; rw [eD]; exact Nat.le_refl _)) (fun y c e=>Nat.ne_of_lt (cellD y c e)) fun p hp=>absurd (show p∈([]:List (Addr×Obj)) from hp) (by simp)
      · refine T.keep _ _ _ st5 fun b hb o e=>(hs8.2 b (below b (hfl b hb)).2).trans ?_
        exact (I7.pin (b,o) (List.mem_append_right _ (List.mem_append_right _ (ZdM hb e)))).1
      · intro b hb
        obtain ⟨o,e,_⟩:=T.obj _ _ st5 b hb
        exact (I7.pin (b,o) (List.mem_append_right _ (List.mem_append_right _ (ZdM hb e)))).2.1
      · have:(its++[v]).toArray=its.toArray.push v:=by simp
        rw [this]; exact hl8
    · have ein:i=n:=by omega
      subst ein
      obtain ⟨nn,oD⟩:=id l3
      have I3p:Inv (X.comp scope N' cl C s H fp) [(D,{ cls:=.type "list",data:=.seq its.toArray nn })] (inner src σ xo) H' s':=
        I3.pins_of fun p hp=>by
          have ep:p=(D,{ cls:=.type "list",data:=.seq its.toArray nn }):=by simpa using hp
          subst ep
          exact ⟨oD,d3,hDC,nD,fun v z=>by cases z⟩
      refine thn (T.done (X.comp scope N' cl C s H fp) rfl rfl rfl hcm i _ s' _ H' _ I3p (stat (by simp) f3) t3 (stop ys H' p3)) fun r s4 ⟨hr,I4⟩=>?_
      subst hr
      have o4:=I4.pin (D,{ cls:=.type "list",data:=.seq its.toArray nn }) (by simp)
      have newI:Inv X pins σ (upd H' D (.lst ys)) s4:=I.call' (ch:=fp) I4.os (I4.base.lay d3 (fresh D (Nat.le_refl _))) (I4.hok.lay d3 ⟨by omega,its,nn,v3,o4.1⟩) I4.bare (fun b hb=>
        ⟨(hfp b hb).2.2.2.1,(hfp b hb).2.1,(hfp b hb).2.2.2.2.1,(hfp b hb).2.2.2.2.2⟩)
      obtain ⟨m,hm,_⟩:=I4.loc
      obtain ⟨o,es,ep,ho,hd,_⟩:=id hm
      refine hR D C o ys H' s4 p3 d3 (newI.pins_of fun p hp=>?_) ⟨m,hm⟩ (I.fpOk (by rw [eD]; exact hCle) (by rw [ZP (Ne.symm hDC)]; exact I4.free))
      rcases List.mem_append.mp hp with z | z
      · exact newI.pin p (List.mem_append_right _ z)
      · have ep:p=(C,o):=by simpa using z
        subst ep
        refine ⟨ho,by rw [ZP (Ne.symm hDC)]; exact I4.free,fun z=>?_,nC,fun v z=>?_⟩
        · have:=I.lt
          rw [eD,←z] at this
          exact absurd (Nat.lt_of_lt_of_le this hCle) (Nat.lt_irrefl _)
        · have z':o.data=.cell v:=z
          rw [hd] at z'; cases z'
  exact codeAny_compStart_list (loop _ rfl) (T.self _ 0 _ _ _ (T.keep _ _ _ t0 (fun b _ o e=>old b o e)) (loop _ rfl))
theorem Zvc {sc:Scope} {N:List Str} (S:ZbL scope sc x N N' src) (hsc:X.env.scope=sc) (hN:X.N=N) (hi:PI X (.Name x px) iter wi)
    (helt:∀(cl:List (Str×Addr)) (C:Addr) (s₀:Shared) (H₀:Hp) (fp:List Addr),PE (X.comp scope N' cl C s₀ H₀ fp) elt te) (hcm:X.calm=true:=by rfl) (hs:∀v,foldedSetIterable iter X.env v=pure v:=by intro _; rfl) :
    PE X (.ListComp elt [⟨.Name x px,iter,[],0⟩] scope pos) (tLc wi src te):=by
  subst hsc hN
  intro pins s σ H Q I h
  obtain ⟨cl,hclos,hcl,hcl2⟩:=ZfI (scope:=scope) (env:=X.env) fun y hy hf=>I.ok.has y.1 (.inl (S.free y hy hf))
  rw [eval_ListComp]
  refine wpAny_comprehension_free (use:=none) rfl hs hclos S.kind S.loc ?_
  refine thn (hi pins s σ H _ I h) fun v s1 h1=>thn h1 fun itv s2 h2=>?_
  obtain ⟨it,fp,tn,J,H2,e,I2,T,st2,f2,n,Pv,hn,p0,turn,done⟩:=h2
  subst e
  refine ZpT I2 hcm S hcl hcl2 T st2 f2 helt hn p0 turn (fun ys H p=>(done ys H p).1) fun D C o ys H' s' p d J' hm ho=>?_
  obtain ⟨m,hm⟩:=hm
  refine ⟨m,hm,fun h' hs'=>?_⟩
  have J2:Inv X pins σ (upd H' D (.lst ys)) s':=J'.pins_of fun q hq=>J'.pin q (List.mem_append_right _ (List.mem_append_left _ hq))
  obtain ⟨f0,f1,f2,f3,f4,f5⟩:=ho
  exact ⟨.ref D,_,J2.turned (t':=s'.toks) (it:=C) (fun b o hb e=>(hs'.2 b hb).trans e) f0 f1 f3 f4 f5,rfl,(done ys H' p).2 D d⟩
theorem Zu5 {sc:Scope} {N:List Str} {i:Nat} {y:Str} {py spos:Pos} (hnd:X.N.Nodup) (hi':X.N[i]?=some y) (S:ZbL scope sc x N N' src) (hsc:X.env.scope=sc) (hN:X.N=N) (hi:PI X (.Name x px) iter wi)
    (helt:∀(cl:List (Str×Addr)) (C:Addr) (s₀:Shared) (H₀:Hp) (fp:List Addr),PE (X.comp scope N' cl C s₀ H₀ fp) elt te) (hsw:swapsWith (.ListComp elt [⟨.Name x px,iter,[],0⟩] scope pos) (some (.Name y py)) spos.line X.env=pure true:=by rfl)
    (hy:X.env.scope.names.lookup y=some .local:=by rfl) (hcm:X.calm=true:=by rfl) (hs:∀v,foldedSetIterable iter X.env v=pure v:=by intro _; rfl) :
    PS X (.Assign [.Name y py] (.ListComp elt [⟨.Name x px,iter,[],0⟩] scope pos) spos) (ZuT (tLc wi src te) (Zk4 i)):=by
  subst hsc hN
  intro pins s σ H Dn I h
  obtain ⟨cl,hclos,hcl,hcl2⟩:=ZfI (scope:=scope) (env:=X.env) fun y hy hf=>I.ok.has y.1 (.inl (S.free y hy hf))
  rw [exec_Assign_Name_used _ _ _ _ hsw]
  refine wpAny_bind (wpAny_standAt (wpAny_bind ?_))
  show wpAny _ X.A (do let _ ←comprehension (.ListComp elt [⟨.Name x px,iter,[],0⟩] scope pos) scope X.env _ (newList []) false (eval iter X.env) (some (assign (.Name y py) X.env))) _ _ s
  refine wpAny_bind (wpAny_mono (wpAny_comprehension_free (use:=some (assign (.Name y py) X.env)) (Q:=fun _ s'=>SP X pins Dn .next s') rfl hs hclos S.kind S.loc ?_) (fun _ s' hq=>wpAny_pure (wpAny_pure hq)) fun _ _ e=>e)
  refine thn (hi pins s σ H _ I h) fun v s1 h1=>thn h1 fun itv s2 h2=>?_
  obtain ⟨it,fp,tn,J,H2,e,I2,T,st2,f2,n,Pv,hn,p0,turn,done⟩:=h2
  subst e
  refine ZpT I2 hcm S hcl hcl2 T st2 f2 helt hn p0 turn (fun ys H p=>(done ys H p).1) fun D C o ys H' s' p d J' hm ho=>?_
  show wpAny _ X.A (assign (.Name y py) X.env (.ref D)) _ _ _
  obtain ⟨m,hm⟩:=hm
  have hg:PG X (.Name y py) (Zk4 i):=Zfr hnd hi' (.inl hy) (.inr hy)
  refine thn (hg _ s' σ _ (.ref D) (.ref D) (fun σ2 H3=>σ2=σ.set i (some (.ref D))∧H3=upd H' D (.lst ys)) J' rfl ⟨rfl,rfl⟩) fun _ s6 ⟨σ6,H6,I6,e6,e7⟩=>?_
  subst e6 e7
  have pc:=I6.pin (C,o) (by simp)
  have pc':=J'.pin (C,o) (by simp)
  refine ⟨m,hm.at fun q e=>?_,fun h' hs'=>?_⟩
  · rw [pc'.1] at e; cases e; exact pc.1
  have J2:Inv X pins (σ.set i (some (.ref D))) (upd H' D (.lst ys)) s6:=I6.pins_of fun q hq=>I6.pin q (List.mem_append_right _ (List.mem_append_left _ hq))
  obtain ⟨f0,f1,f2,f3,f4,f5⟩:=ho
  exact ⟨_,_,J2.turned (t':=s6.toks) (it:=C) (fun b o hb e=>(hs'.2 b hb).trans e) f0 f1 f3 f4 f5,(done ys H' p).2 D d⟩
end
end L2
namespace L2
open PySem PySem.Spec PyProof.Rows PySem.SeqAt
section
variable {X:Cx}
theorem Zno {bs:List Bool}:(List.range bs.length).all (fun i=>bs.getD i false)=bs.all id:=by
  induction bs with
  | nil=>rfl
  | cons b r ih=>
    rw [List.length_cons,List.range_succ_eq_map,List.all_cons,List.all_map,List.all_cons]
    have:((fun i=>(b::r).getD i false)∘Nat.succ)=fun i=>r.getD i false:=by funext i; rfl
    rw [this,ih]
    rfl
theorem Zqo (hc:X.calm=true):CallR X (.builtin "all") (fun xs H Q=>∃(p:Addr) (bs:List Bool),xs=[.ref p]∧SqL X.K H p (bs.map V.bl)∧Q (.bl (bs.all id)) H):=by
  intro pins s σ H xs us Q I r h
  obtain ⟨p,bs,rfl,hq,q⟩:=h
  obtain ⟨u,rfl,rx⟩:=Zfk r
  cases rx
  obtain ⟨its,r',pl,hz⟩:=I.list hq
  have hl:=r'.length
  rw [List.length_map] at hl
  refine call_all_walk (wpAny_pyIter_list pl.isList ?_)
  have hne:p≠s.heap.objs.size:=by
    obtain ⟨o,n,e,_⟩:=pl
    exact Nat.ne_of_lt (Heap.lt_size e)
  refine ⟨s.heap.objs.size,_,_,_,_,_,fun i=>bs.getD i false,rfl,Walks.list (A:=X.A.in1) (I.ok.hd hc) _ p hne its.toArray,⟨⟨_,Heap.get?_push_size _ rfl,rfl,rfl⟩,?_⟩,?_,fun h' tk hk=>?_⟩
  · obtain ⟨o,n,e,hc',hd,hs⟩:=pl
    exact ⟨o,Heap.get?_push_of_some _ e,hc',n,hs⟩
  · intro i v s2 Q2 E2 hp q2
    have hp':its[i]?=some v:=by simpa using hp
    have hi:i<bs.length:=by rw [hl]; exact (List.getElem?_eq_some_iff.mp hp').1
    obtain ⟨u,hu,ru⟩:=r'.get (i:=i) (x:=.bl (bs.getD i false)) (by rw [List.getElem?_map,List.getElem?_eq_getElem hi,List.getD_eq_getElem?_getD,List.getElem?_eq_getElem hi]; rfl)
    rw [hp'] at hu; cases hu
    cases ru
    exact wpAny_truthy_bool q2
  · refine ⟨.bl (bs.all id),H,(I.kept (t':=s.toks) fun b o e=>Heap.get?_push_of_some _ e).turned (it:=s.heap.objs.size) (fun b o hb e=>hk b o (by simpa using hb) e) (I.hok.fresh (Nat.le_refl _)) (Nat.ne_of_gt I.lt) (.inr I.sz) (fun x c e z=>?_) (fun q hq z=>?_),?_,q⟩
    · obtain ⟨v,w'⟩:=I.cell x c e
      exact absurd w'.lt (by rw [z]; exact Nat.lt_irrefl _)
    · exact absurd (Heap.lt_size (I.pin q hq).1) (by rw [z]; exact Nat.lt_irrefl _)
    · show Value.bool _=Value.bool _
      rw [List.size_toArray,←hl,Zno]
theorem Zie {ns:List Int}:∀k,k≤ns.length→preSum (fun i=>ns.getD i 0) k=(ns.take k).sum
  | 0,_=>by simp [preSum]
  | k+1,h=>by
    have hk:k<ns.length:=by omega
    rw [preSum,Zie k (by omega),List.take_add_one,List.getElem?_eq_getElem hk,List.getD_eq_getElem?_getD,List.getElem?_eq_getElem hk]
    show _=(ns.take k++[ns[k]]).sum
    rw [List.sum_append,List.sum_cons,List.sum_nil,Int.add_zero]
    rfl
theorem Zqm (hc:X.calm=true):CallR X (.builtin "sum") (fun xs H Q=>∃(p:Addr) (ns:List Int),xs=[.ref p]∧SqL X.K H p (ns.map V.int)∧Q (.int ns.sum) H):=by
  intro pins s σ H xs us Q I r h
  obtain ⟨p,ns,rfl,hq,q⟩:=h
  obtain ⟨u,rfl,rx⟩:=Zfk r
  cases rx
  obtain ⟨its,r',pl,hz⟩:=I.list hq
  have hl:=r'.length
  rw [List.length_map] at hl
  refine call_sum_walkG (wpAny_pyIter_list pl.isList ?_)
  have hne:p≠s.heap.objs.size:=by
    obtain ⟨o,n,e,_⟩:=pl
    exact Nat.ne_of_lt (Heap.lt_size e)
  refine ⟨s.heap.objs.size,_,_,_,_,_,fun i=>ns.getD i 0,rfl,Walks.list (A:=X.A.in1) (I.ok.hd hc) _ p hne its.toArray,⟨⟨_,Heap.get?_push_size _ rfl,rfl,rfl⟩,?_⟩,?_,?_,fun h' tk t' hk=>?_⟩
  · obtain ⟨o,n,e,hc',hd,hs⟩:=pl
    exact ⟨o,Heap.get?_push_of_some _ e,hc',n,hs⟩
  · intro b hb
    have hb':b=s.heap.objs.size∨b=p:=by simpa using hb
    rcases hb' with rfl | rfl
    · show _<(s.heap.push _).objs.size
      rw [Heap.size_push]; exact Nat.lt_succ_self _
    · obtain ⟨o,n,e,_⟩:=pl
      show _<(s.heap.push _).objs.size
      rw [Heap.size_push]; exact Nat.lt_succ_of_lt (Heap.lt_size e)
  · intro i v hp
    have hp':its[i]?=some v:=by simpa using hp
    have hi:i<ns.length:=by rw [hl]; exact (List.getElem?_eq_some_iff.mp hp').1
    obtain ⟨u,hu,ru⟩:=r'.get (i:=i) (x:=.int (ns.getD i 0)) (by rw [List.getElem?_map,List.getElem?_eq_getElem hi,List.getD_eq_getElem?_getD,List.getElem?_eq_getElem hi]; rfl)
    rw [hp'] at hu; cases hu
    exact ru
  · refine ⟨.int ns.sum,H,(I.kept (t':=s.toks) fun b o e=>Heap.get?_push_of_some _ e).turned (it:=s.heap.objs.size) (fun b o hb e=>hk b o (by simpa using hb) e) (I.hok.fresh (Nat.le_refl _)) (Nat.ne_of_gt I.lt) (.inr I.sz) (fun x c e z=>?_) (fun q hq z=>?_),⟨t',?_⟩,q⟩
    · obtain ⟨v,w'⟩:=I.cell x c e
      exact absurd w'.lt (by rw [z]; exact Nat.lt_irrefl _)
    · exact absurd (Heap.lt_size (I.pin q hq).1) (by rw [z]; exact Nat.lt_irrefl _)
    · rw [List.size_toArray,←hl,Zie _ (Nat.le_refl _),List.take_length]
mutual
inductive RdV (K:PySem.W.Frag) (H:Hp):V→PyData→Prop
  | non:RdV K H .non .none
  | bl (b:Bool):RdV K H (.bl b) (.bool b)
  | int (i:Int):RdV K H (.int i) (.int i)
  | str (x:Str):RdV K H (.str x) (.str x)
  | lst {a:Addr} {xs:List V} {ds:List PyData}:SqL K H a xs→RdVs K H xs ds→RdV K H (.ref a) (.list ds)
  | tup {a:Addr} {xs:List V} {ds:List PyData}:SqT K H a xs→RdVs K H xs ds→RdV K H (.ref a) (.tuple ds)
inductive RdVs (K:PySem.W.Frag) (H:Hp):List V→List PyData→Prop
  | nil:RdVs K H [] []
  | cons {x:V} {xs:List V} {d:PyData} {ds:List PyData}:RdV K H x d→RdVs K H xs ds→RdVs K H (x::xs) (d::ds)
end
mutual
theorem RdV.reads {pins:List (Addr×Obj)} {σ:St} {H:Hp} {s:Shared} (I:Inv X pins σ H s):∀{x:V} {d:PyData} {u:Value},RdV X.K H x d→RelV x u→∃as,Reads s.heap u d as
  | _,_,_,.non,r=>by cases r; exact ⟨_,.none⟩
  | _,_,_,.bl b,r=>by cases r; exact ⟨_,.bool b⟩
  | _,_,_,.int i,r=>by obtain ⟨t,rfl⟩:=r; exact ⟨_,.int i t⟩
  | _,_,_,.str x,r=>by obtain ⟨t,rfl⟩:=r; exact ⟨_,.str x t⟩
  | _,_,_,.lst h hs,r=>by
    cases r
    obtain ⟨its,rv,⟨o,n,e,hc,hd,hq⟩,_⟩:=I.list h
    obtain ⟨as,q⟩:=RdVs.reads I hs rv
    exact ⟨_,.list e hc hq (by simpa using q)⟩
  | _,_,_,.tup h hs,r=>by
    cases r
    obtain ⟨its,rv,⟨o,e,hc,n,hq⟩,_⟩:=I.tuple h
    obtain ⟨as,q⟩:=RdVs.reads I hs rv
    exact ⟨_,.tuple e hc hq (by simpa using q)⟩
theorem RdVs.reads {pins:List (Addr×Obj)} {σ:St} {H:Hp} {s:Shared} (I:Inv X pins σ H s):∀{xs:List V} {ds:List PyData} {us:List Value},RdVs X.K H xs ds→Vals xs us→∃as,ReadsAll s.heap us ds as
  | _,_,_,.nil,r=>by cases r; exact ⟨_,.nil⟩
  | _,_,_,.cons h hs,r=>by
    cases r with
    | cons r rr=>
      obtain ⟨as,q⟩:=RdV.reads I h r
      obtain ⟨bs,q2⟩:=RdVs.reads I hs rr
      exact ⟨_,.cons q q2⟩
end
theorem ZtC (hu:X.A.units+64<cLine):OpR X (compareOp .Eq) (fun x y H Q=>∃d e:PyData,RdV X.K H x d∧RdV X.K H y e∧shaped d=true∧shaped e=true∧noMix d e=true∧Q (.bl (same d e)) H):=by
  intro pins s σ H x y v u Q I rx ry h
  obtain ⟨d,e,hd,he,sd,se,hm,q⟩:=h
  obtain ⟨as,ra⟩:=hd.reads I rx
  obtain ⟨bs,rb⟩:=he.reads I ry
  exact eq_dataH_same ra rb sd se hu hm ⟨.bl _,H,I,rfl,q⟩
theorem Ztz (hu:X.A.units+64<cLine):OpR X (compareOp .NotEq) (fun x y H Q=>∃d e:PyData,RdV X.K H x d∧RdV X.K H y e∧shaped d=true∧shaped e=true∧noMix d e=true∧Q (.bl (!same d e)) H):=by
  intro pins s σ H x y v u Q I rx ry h
  obtain ⟨d,e,hd,he,sd,se,hm,q⟩:=h
  obtain ⟨as,ra⟩:=hd.reads I rx
  obtain ⟨bs,rb⟩:=he.reads I ry
  exact ne_dataH_same ra rb sd se hu hm ⟨.bl _,H,I,rfl,q⟩
theorem Zrq:OpR X (compareOp .IsNot) (fun x y H Q=>∃b c:Bool,x=.bl b∧y=.bl c∧Q (.bl (!(b == c))) H):=by
  intro pins s σ H x y v u Q I rx ry h
  obtain ⟨b,c,rfl,rfl,q⟩:=h
  cases rx
  cases ry
  have e:(Value.bool b == Value.bool c)=(b == c):=by cases b<;>cases c<;>rfl
  exact wpAny_isNot_plain rfl ⟨.bl _,H,I,rfl,by rw [e]; exact q⟩
def Zeh (xs:List V) (lo hi st:Option Int):List V:=(sliceRange (sliceBounds lo hi st xs.length).1 (sliceBounds lo hi st xs.length).2.1 (sliceBounds lo hi st xs.length).2.2).filterMap (xs[·]?)
theorem Vals.pick {xs:List V} {us:List Value} (r:Vals xs us):∀ks:List Nat,Vals (ks.filterMap (xs[·]?)) (ks.filterMap (us[·]?))
  | []=>.nil
  | k::ks=>by
    cases e:xs[k]? with
    | none=>
      have e':=r.none_of e
      rw [List.filterMap_cons_none e,List.filterMap_cons_none e']
      exact r.pick ks
    | some x=>
      obtain ⟨u,e',q⟩:=r.get e
      rw [List.filterMap_cons_some e,List.filterMap_cons_some e']
      exact .cons q (r.pick ks)
def ZyC (K:PySem.W.Frag) (te:TE) (tl th ts:TO):TE:=fun σ H Q=>te σ H fun x H1=>tl σ H1 fun l H2=>th σ H2 fun u H3=>ts σ H3 fun st H4=>∃a xs,x=.ref a∧SqL K H4 a xs∧st≠some 0∧(Zeh xs l u st).length≤sizeLine∧
  ∀p,H4 p=none→Q (.ref p) (upd H4 p (.lst (Zeh xs l u st)))
theorem ZmZ {e sp:Expr} {te:TE} {lo hi:Option Expr} {tl th ts:TO} {pos p2:Pos} (he:PE X e te) (hl:PO X lo tl) (hu:PO X hi th) (hs:PO X (some sp) ts):PE X (.Subscript e (.Slice lo hi (some sp) p2) pos) (ZyC X.K te tl th ts):=by
  intro pins s σ H Q I h
  refine Subscript_ (thn (he pins s σ H _ I h) fun v s1 ⟨x,H1,I1,r1,q1⟩=>?_)
  refine wpAny_Slice (thn (hl pins s1 σ H1 _ I1 q1) fun vl s2 ⟨l,H2,I2,pl,q2⟩=>thn (hu pins s2 σ H2 _ I2 q2) fun vu s3 ⟨u,H3,I3,pu,q3⟩=>thn (hs pins s3 σ H3 _ I3 q3) fun vs s4 ⟨st,H4,I4,ps,q4⟩=>?_)
  obtain ⟨a,xs,rfl,hx,h0,hz',q⟩:=q4
  cases r1
  have I5:Inv X pins σ H4 { s4 with heap:=s4.heap.push { cls:=.type "slice",data:=.fields #[vl,vu,vs] } }:=I4.kept (t':=s4.toks) fun b ob q=>Heap.get?_push_of_some _ q
  obtain ⟨its,r,ht,hz⟩:=I5.list hx
  have hlen:=r.length
  show wpAny (model X.prog X.w) X.A (subscriptTail e (.Slice lo hi (some sp) p2) (.ref a) (.ref s4.heap.objs.size)) (EP X pins σ Q) X.xe { s4 with heap:=s4.heap.push { cls:=.type "slice",data:=.fields #[vl,vu,vs] } }
  refine tail_any (ops:=[.ref a,.ref s4.heap.objs.size]) ht.isList.typeIs slot_list_getitem.lookup (wpAny_getItem_list_slice ht.isList (Heap.IsSliceOf.new ..) pl pu ps h0 ?_ (by rw [List.size_toArray]<;>omega)) (by with_unfolding_all rfl)
  have ep:slicePick its.toArray l u st=((sliceRange (sliceBounds l u st xs.length).1 (sliceBounds l u st xs.length).2.1 (sliceBounds l u st xs.length).2.2).filterMap (its[·]?)).toArray:=by
    unfold slicePick
    rw [List.size_toArray,←hlen]
    simp
  rw [ep]
  refine ⟨.ref _,_,I5.laid (t':=s4.toks) (o:=.lst (Zeh xs l u st)) (fun b ob q=>Heap.get?_push_of_some _ q) (Nat.le_refl _) ?_,rfl,q _ (I5.hok.fresh (Nat.le_refl _))⟩
  exact ⟨hz',_,0,r.pick _,Heap.get?_push_size _ rfl⟩
theorem Zf1:fillsNumberSlot (.type "tuple") "mul"=pure false:=
  PySem.fillsNumberSlot_seq (id:="tuple.__mul__") (r:=some (.builtin "tuple.__rmul__")) F.slot_tuple_mul.lookup (by decide +kernel) F.slot_tuple_rmul.lookup (by decide +kernel)
theorem ZiL:seqRepeat? (.type "tuple")=pure (some (.builtin "tuple.__mul__")):=by
  unfold seqRepeat?
  rw [PySem.seqSlot_of (T:="tuple") (name:="__mul__") (id:="tuple.__mul__") F.slot_tuple_mul.lookup (by decide +kernel),PySem.seqSlot_of (T:="tuple") (name:="__rmul__") (id:="tuple.__rmul__") F.slot_tuple_rmul.lookup (by decide +kernel)]
  rfl
end
end L2
namespace L2
open PySem PySem.Spec PyProof.Rows Builtin
theorem Zht (a:Int) (t:Tok) (l:Addr) (items:Array Value) (n:Nat) (dd:Option Addr) (sl:Array (Option Value)) :
    Meets (Builtin.«int.__rmul__» ⟨[.int a t,.ref l],[]⟩) (fun _ R s=>s.heap.get? l=some { cls:=.type "tuple",dict:=dd,data:=.seq items n,slots:=sl }∧R (.ok (.ret Value.notImplemented)) s):=
  .of_wp fun prog w A R s h=>by obtain ⟨hp,g,d,tk,os⟩:=s; obtain ⟨hl,h⟩:=h; wp_walk; exact ⟨_,rfl,h⟩
theorem ZhT (l:Addr) (items:Array Value) (n:Nat) (dd:Option Addr) (sl:Array (Option Value)) (u:Tok) :
    Meets (Builtin.«tuple.__mul__» ⟨[.ref l,.int 1 u],[]⟩) (fun _ R s=>s.heap.get? l=some { cls:=.type "tuple",dict:=dd,data:=.seq items n,slots:=sl }∧R (.ok (.ret (Value.ref l))) s):=
  .of_wp fun prog w A R s h=>by
    obtain ⟨hp,g,d,tk,os⟩:=s; obtain ⟨hl,h⟩:=h
    wp_walk
    exact ⟨_,rfl,h⟩
theorem Zg8 (l:Addr) (items:Array Value) (n:Nat) (dd:Option Addr) (sl:Array (Option Value)) (u:Tok) (h0:items.isEmpty=false) :
    Meets (Builtin.«tuple.__mul__» ⟨[.ref l,.int 0 u],[]⟩) (fun _ R s=>s.heap.get? l=some { cls:=.type "tuple",dict:=dd,data:=.seq items n,slots:=sl }∧R (.ok (.ret (Value.ref s.heap.objs.size))) { s with heap:=s.heap.push { cls:=.type "tuple",data:=.seq #[] } }):=
  .of_wp fun prog w A R s h=>by
    obtain ⟨hp,g,d,tk,os⟩:=s; obtain ⟨hl,h⟩:=h
    wp_walk
    exact ⟨_,rfl,h⟩
theorem Zg9 (l:Addr) (items:Array Value) (n:Nat) (dd:Option Addr) (sl:Array (Option Value)) (x:Int) (u:Tok) (h0:items.isEmpty=false) (h1:2≤x) (h2:x<1000) (h3:items.size*x≤1000) :
    Meets (Builtin.«tuple.__mul__» ⟨[.ref l,.int x u],[]⟩) (fun _ R s=>s.heap.get? l=some { cls:=.type "tuple",dict:=dd,data:=.seq items n,slots:=sl }∧R (.ok (.ret (Value.ref s.heap.objs.size))) { s with heap:=s.heap.push { cls:=.type "tuple",data:=.seq (List.foldl (fun x1 x2=>x1++x2) #[] (List.replicate x.toNat items)) } }):=
  .of_wp fun prog w A R s h=>by
    obtain ⟨hp,g,d,tk,os⟩:=s; obtain ⟨hl,h⟩:=h
    have c1:¬(decide (x < -(2 ^ 63)) || decide (x≥2 ^ 63))=true:=by rw [decide_eq_false (by omega),decide_eq_false (by omega)]; decide
    have c2:¬(items.isEmpty || x == 1)=true:=by
      have:(x == 1)=false:=by simp; omega
      rw [h0,this]; decide
    have c3:¬(decide (x≤0) || items.isEmpty)=true:=by rw [h0,decide_eq_false (by omega)]; decide
    have c4:¬((items.size:Int)*x > (2 ^ 63-1)/8):=by omega
    have c5:¬Tuple.tupleTooMany ((items.size:Int)*x)=true:=by
      unfold Tuple.tupleTooMany
      rw [decide_eq_false (by rw [sizeLine_eq]; omega)]
      decide
    wp_walk
    rw [if_neg c1]
    wp_walk
    rw [if_neg c2]
    show wpAny (model prog w) A.in1 (if (decide (x≤0) || items.isEmpty)=true then _ else if (items.size:Int)*x > (2 ^ 63-1)/8 then _ else if Tuple.tupleTooMany ((items.size:Int)*x)=true then _ else _) _ _ _
    rw [if_neg c3,if_neg c4,if_neg c5]
    have hz:(List.foldl (fun x1 x2=>x1++x2) #[] (List.replicate x.toNat items)).size≤sizeLine:=by
      have:(List.replicate x.toNat items).foldl (fun x1 x2=>x1++x2) #[]=(List.replicate x.toNat items.toList).flatten.toArray:=by
        have:=ZeU items.toList x.toNat []
        simpa using this
      rw [this,List.size_toArray,ZiS,sizeLine_eq]
      have e:items.toList.length=items.size:=by simp
      rw [e]
      have e2:((x.toNat*items.size:Nat):Int)=(items.size:Int)*x:=by
        rw [Int.natCast_mul,Int.mul_comm]
        congr 1
        omega
      omega
    wp_walk
    exact ⟨_,rfl,h⟩
section
variable {X:Cx}
def ZuZ (K:PySem.W.Frag):R2:=fun x y H Q=>∃(a:Addr) (k:Int) (xs:List V),x=.ref a∧y=.int k∧SqT K H a xs∧xs≠[]∧0≤k∧k<1000∧(xs.length:Int)*k≤1000∧
  (k=1→Q (.ref a) H)∧(k≠1→∀p,H p=none→Q (.ref p) (upd H p (.tup (List.replicate k.toNat xs).flatten)))
theorem op_repT:OpR X (binaryOp .Mult) (ZuZ X.K):=by
  intro pins s σ H x y v u Q I rx ry h
  obtain ⟨a,k,xs,rfl,rfl,hH,hne,h0,h1,h2,q1,q2⟩:=h
  cases rx
  obtain ⟨t,rfl⟩:=ry
  obtain ⟨its,r,pl,hz⟩:=I.tuple hH
  obtain ⟨⟨oc,dd,data,sl⟩,e,hc,n,hd⟩:=pl
  simp only at hc hd
  subst hc hd
  have hl:=r.length
  have he:its.toArray.isEmpty=false:=by
    cases r with
    | nil=>exact absurd rfl hne
    | cons _ _=>rfl
  refine wpAny_binaryOp_repeat_ref (T:="tuple") (U:="int") (by decide) ⟨_,e,rfl⟩ (fun s'=>typeIs_int s' k t) Zf1 F.fills_int_mul F.slot_int_rmul ZiL F.slot_int_index.lookup
    (call_meets F.slot_int_rmul (typeIs_int s k t) F.entry_int_rmul (F.args_int_rmul_2 _ _) (Zht k t a its.toArray n dd sl) ⟨e,rfl,⟨_,e,rfl⟩,?_⟩)
  by_cases k1:k=1
  · subst k1
    exact call_meets F.slot_tuple_mul ⟨_,e,rfl⟩ F.entry_tuple_mul (F.args_tuple_mul_2 _ _) (ZhT a its.toArray n dd sl t) ⟨e,.ref a,H,I,rfl,q1 rfl⟩
  · by_cases k0:k=0
    · subst k0
      refine call_meets F.slot_tuple_mul ⟨_,e,rfl⟩ F.entry_tuple_mul (F.args_tuple_mul_2 _ _) (Zg8 a its.toArray n dd sl t he) ⟨e,.ref s.heap.objs.size,_,I.laid (t':=s.toks) (o:=.tup []) (fun b ob q=>Heap.get?_push_of_some _ q) (Nat.le_refl _) ?_,rfl,?_⟩
      · exact ⟨Nat.zero_le _,[],.nil,IsTup.new _ _⟩
      · exact q2 k1 _ (I.hok.fresh (Nat.le_refl _))
    · refine call_meets F.slot_tuple_mul ⟨_,e,rfl⟩ F.entry_tuple_mul (F.args_tuple_mul_2 _ _) (Zg9 a its.toArray n dd sl k t he (by omega) h1 (by rw [List.size_toArray,←hl]; exact h2)) ⟨e,?_⟩
      have hnew:List.foldl (fun x1 x2=>x1++x2) #[] (List.replicate k.toNat its.toArray)=(List.replicate k.toNat its).flatten.toArray:=by
        have:=ZeU its k.toNat []
        rw [List.nil_append] at this
        exact this
      rw [hnew]
      refine ⟨.ref s.heap.objs.size,_,I.laid (t':=s.toks) (o:=.tup (List.replicate k.toNat xs).flatten) (fun b ob q=>Heap.get?_push_of_some _ q) (Nat.le_refl _) ?_,rfl,q2 k1 _ (I.hok.fresh (Nat.le_refl _))⟩
      refine ⟨?_,_,r.rep k.toNat,IsTup.new _ _⟩
      rw [ZiS,sizeLine_eq]
      have e2:((k.toNat*xs.length:Nat):Int)=(xs.length:Int)*k:=by
        rw [Int.natCast_mul,Int.mul_comm]
        congr 1
        omega
      omega
end
end L2
namespace My
open PySem L2
def ZaP (t:Int):Int:=if t=0 then 0 else (t-1) % 65535+1
theorem Zmy {t:Int} (h:0≤t):0≤ZaP t∧ZaP t≤65535∧(ZaP t-t) % 65535=0∧(ZaP t=0↔t=0):=by
  unfold ZaP; split<;>omega
theorem Zfd {t:Int} (h:0≤t) (h1:t≤65535):ZaP t=t:=by
  unfold ZaP; split<;>omega
theorem Zis {t:Int} (h:65535<t):ZaP (t % 65536+t/65536)=ZaP t∧0≤t % 65536+t/65536∧t % 65536+t/65536<t:=by
  unfold ZaP
  rw [if_neg (by omega),if_neg (by omega)]
  omega
def zv:List Int→Int
  | []=>0
  | [a]=>256*a
  | a::b::r=>256*a+b+zv r
def Zd6:List Int→List Int
  | []=>[]
  | [a]=>[a]
  | a::_::r=>a::Zd6 r
def Zhh:List Int→List Int
  | []=>[]
  | [_]=>[]
  | _::b::r=>b::Zhh r
theorem ZlU:∀ns:List Int,256*(Zd6 ns).sum+(Zhh ns).sum=zv ns
  | []=>rfl
  | [a]=>by simp [Zd6,Zhh,zv]
  | a::b::r=>by
    have:=ZlU r
    simp only [Zd6,Zhh,zv,List.sum_cons]
    omega
theorem ZlS:∀{ns:List Int},(∀z∈ns,0≤z)→0≤zv ns
  | [],_=>by simp [zv]
  | [a],h=>by have:=h a (by simp); simp only [zv]; omega
  | a::b::r,h=>by
    have h1:=h a (by simp)
    have h2:=h b (by simp)
    have h3:=ZlS (ns:=r) fun z hz=>h z (by simp [hz])
    simp only [zv]; omega
theorem Zg4:∀{ns ms:List Int},ns.length % 2=0→zv (ns++ms)=zv ns+zv ms
  | [],ms,_=>by simp [zv]
  | [a],ms,h=>by simp at h
  | a::b::r,ms,h=>by
    have:=Zg4 (ns:=r) (ms:=ms) (by simp only [List.length_cons] at h; omega)
    show zv (a::b::(r++ms))=_
    simp only [zv,this]
    omega
theorem ZlK {w:Int} (h:0≤w):ZaP (w+(256*((65535-ZaP w)/256)+(65535-ZaP w) % 256))=65535:=by
  have e:256*((65535-ZaP w)/256)+(65535-ZaP w) % 256=65535-ZaP w:=by omega
  rw [e]
  unfold ZaP
  split<;>split<;>omega
theorem ZcR:∀(m:Nat) (ns:List Int),ns.length≤2*m→((List.range m).map fun k=>2*k).filterMap (fun i=>(ns.map V.int)[i]?)=(Zd6 ns).map V.int
  | 0,ns,h=>by
    have:ns=[]:=List.length_eq_zero_iff.mp (by omega)
    subst this; rfl
  | m+1,ns,h=>by
    rw [List.range_succ_eq_map,List.map_cons,List.map_map]
    have shift:∀(xs:List Int),(List.map ((fun k=>2*k)∘Nat.succ) (List.range m)).filterMap (fun i=>(xs.map V.int)[i]?)=((List.range m).map fun k=>2*k).filterMap (fun i=>((xs.drop 2).map V.int)[i]?):=fun xs=>by
      rw [List.filterMap_map,List.filterMap_map]
      congr 1
      funext k
      show (xs.map V.int)[2*(k+1)]?=((xs.drop 2).map V.int)[2*k]?
      rw [List.getElem?_map,List.getElem?_map,List.getElem?_drop]
      congr 2
      omega
    match ns,h with
    | [],_=>
      have:=shift []
      rw [List.filterMap_cons_none (by rfl),this,ZcR m _ (by simp)]
      rfl
    | [a],_=>
      have:=shift [a]
      rw [List.filterMap_cons_some (b:=V.int a) (by rfl),this,ZcR m _ (by simp)]
      rfl
    | a::b::r,h=>
      have:=shift (a::b::r)
      rw [List.filterMap_cons_some (b:=V.int a) (by rfl),this,ZcR m _ (by simp only [List.length_cons] at h; simp; omega)]
      rfl
theorem Zmf:∀ns:List Int,Zhh ns=Zd6 (ns.drop 1)
  | []=>rfl
  | [_]=>rfl
  | [_,_]=>rfl
  | _::b::c::r=>by
    have:=Zmf (c::r)
    simp only [Zhh,List.drop,Zd6] at *
    rw [this]
theorem Znj (ns:List Int):Zeh (ns.map V.int) none none (some 2)=(Zd6 ns).map V.int:=by
  unfold Zeh sliceBounds sliceRange
  simp only [Option.getD_some,List.length_map,show ((2:Int) > 0)=True from eq_true (by decide),if_true]
  have e:(if (0:Int)<(ns.length:Int) then ((ns.length:Int)-0+2-1)/2 else 0).toNat=(ns.length+1)/2:=by split<;>omega
  rw [e]
  have e2:(fun k:Nat=>((0:Int)+2*(k:Int)).toNat)=fun k=>2*k:=by funext k; omega
  rw [e2]
  exact ZcR _ ns (by omega)
theorem Zqi (ns:List Int):Zeh (ns.map V.int) (some 1) none (some 2)=(Zhh ns).map V.int:=by
  unfold Zeh sliceBounds sliceRange
  simp only [Option.getD_some,List.length_map,show ((2:Int) > 0)=True from eq_true (by decide),show ((1:Int)<0)=False from eq_false (by decide),if_true,if_false]
  rw [Zmf]
  by_cases h:ns.length=0
  · have:ns=[]:=List.length_eq_zero_iff.mp h
    subst this; rfl
  · have e0:max (0:Int) (min 1 (ns.length:Int))=1:=by omega
    rw [e0]
    have e:(if (1:Int)<(ns.length:Int) then ((ns.length:Int)-1+2-1)/2 else 0).toNat=ns.length/2:=by split<;>omega
    rw [e,←ZcR (ns.length/2) (ns.drop 1) (by rw [List.length_drop]; omega),List.filterMap_map,List.filterMap_map]
    congr 1
    funext k
    show (ns.map V.int)[((1:Int)+2*(k:Int)).toNat]?=((ns.drop 1).map V.int)[2*k]?
    rw [List.getElem?_map,List.getElem?_map,List.getElem?_drop]
    congr 2
theorem Zit:∀ns:List Int,(Zd6 ns).length≤ns.length
  | []=>Nat.le_refl _
  | [_]=>Nat.le_refl _
  | _::_::r=>by have:=Zit r; simp only [Zd6,List.length_cons]; omega
theorem ZkL:∀ns:List Int,(Zhh ns).length≤ns.length
  | []=>Nat.le_refl _
  | [_]=>Nat.zero_le _
  | _::_::r=>by have:=ZkL r; simp only [Zhh,List.length_cons]; omega
def wpre (ns:List Int):Nat→Int
  | 0=>0
  | i+1=>wpre ns i+ns.getD i 0*(if i % 2=0 then 256 else 1)
theorem Zkt (a b:Int) (r:List Int):∀i,wpre (a::b::r) (i+2)=256*a+b+wpre r i
  | 0=>by simp [wpre]; omega
  | i+1=>by
    have e:(i+2) % 2=i % 2:=by omega
    rw [wpre,Zkt a b r i]
    show _+r.getD i 0*(if (i+2) % 2=0 then 256 else 1)=256*a+b+(wpre r i+r.getD i 0*(if i % 2=0 then 256 else 1))
    rw [e]
    omega
theorem Zku:∀ns:List Int,wpre ns ns.length=zv ns
  | []=>rfl
  | [a]=>by simp [wpre,zv]; omega
  | a::b::r=>by
    show wpre (a::b::r) (r.length+2)=_
    rw [Zkt,Zku r]
    rfl
end My
namespace L2
open PySem PySem.Spec PyProof.Rows
section
variable {κ:Type} [DecidableEq κ]
def valV (kvs:List (κ×V)) (k:κ):Option V:=(kvs.find? fun kv=>decide (kv.1=k)).map (·.2)
def Zeg (kvs:List (κ×V)) (k:κ) (v:V):List (κ×V):=
  if (kvs.any fun kv=>decide (kv.1=k))=true then kvs.map (fun kv=>if kv.1=k then (kv.1,v) else kv) else kvs++[(k,v)]
def Ze2 (kvs:List (κ×V)) (k:κ):List (κ×V):=kvs.filter fun kv=>decide (kv.1≠k)
theorem Zg6 {p:κ×V} {r:List (κ×V)} {k:κ} (e:p.1=k):valV (p::r) k=some p.2:=by simp [valV,List.find?_cons,e]
theorem Zg7 {p:κ×V} {r:List (κ×V)} {k:κ} (e:¬p.1=k):valV (p::r) k=valV r k:=by simp [valV,List.find?_cons,e]
theorem Zkv (k:κ):∀kvs:List (κ×V),(kvs.any fun kv=>decide (kv.1=k))=(valV kvs k).isSome
  | []=>rfl
  | p::r=>by
    rw [List.any_cons]
    by_cases e:p.1=k
    · simp only [Zg6 e,decide_eq_true e,Bool.true_or,Option.isSome_some]
    · rw [Zg7 e,decide_eq_false e,Bool.false_or]; exact Zkv k r
theorem ZkW (kvs:List (κ×V)) (k:κ) (v:V):(Zeg kvs k v).length≤kvs.length+1:=by
  unfold Zeg
  split
  · rw [List.length_map]; omega
  · rw [List.length_append,List.length_cons,List.length_nil]; omega
theorem RelO.isSome_eq {o:Option V} {u:Option Value} (r:RelO o u):o.isSome=u.isSome:=by
  cases o with
  | none=>cases u with
    | none=>rfl
    | some _=>exact (show False from r).elim
  | some _=>cases u with
    | none=>exact (show False from r).elim
    | some _=>rfl
theorem RelO.getD {o:Option V} {u:Option Value} {d:V} {d':Value} (r:RelO o u) (rd:RelV d d'):RelV (o.getD d) (u.getD d'):=by
  cases o with
  | none=>cases u with
    | none=>exact rd
    | some _=>exact (show False from r).elim
  | some _=>cases u with
    | none=>exact (show False from r).elim
    | some _=>exact r
theorem KV.val {kvs:List (κ×V)} {vs:List (κ×Value)} (r:KV kvs vs) (k:κ):RelO (valV kvs k) (valueAt vs k):=by
  unfold KV at r
  induction r with
  | nil=>exact True.intro
  | @cons p q ps qs h t ih=>
    obtain ⟨h1,h2⟩:=h
    by_cases e:p.1=k
    · have e':q.1=k:=h1.symm.trans e
      have b:valueAt (q::qs) k=some q.2:=by simp [valueAt,List.find?_cons,e']
      rw [Zg6 e,b]; exact h2
    · have e':¬q.1=k:=fun z=>e (h1.trans z)
      have b:valueAt (q::qs) k=valueAt qs k:=by simp [valueAt,List.find?_cons,e']
      rw [Zg7 e,b]; exact ih
theorem KV.any {kvs:List (κ×V)} {vs:List (κ×Value)} (r:KV kvs vs) (k:κ):(kvs.any fun kv=>decide (kv.1=k))=vs.any fun kv=>decide (kv.1=k):=by
  unfold KV at r
  induction r with
  | nil=>rfl
  | cons h t ih=>rw [List.any_cons,List.any_cons,ih,h.1]
theorem KV.repl {kvs:List (κ×V)} {vs:List (κ×Value)} (r:KV kvs vs) (k:κ) {y:V} {u:Value} (ry:RelV y u) :
    KV (kvs.map fun kv=>if kv.1=k then (kv.1,y) else kv) (vs.map fun kv=>if kv.1=k then (kv.1,u) else kv):=by
  unfold KV at r ⊢
  induction r with
  | nil=>exact .nil
  | @cons p q ps qs h t ih=>
    rw [List.map_cons,List.map_cons]
    refine .cons ?_ ih
    obtain ⟨h1,h2⟩:=h
    by_cases e:p.1=k
    · rw [if_pos e,if_pos (h1.symm.trans e)]; exact ⟨h1,ry⟩
    · rw [if_neg e,if_neg (fun z=>e (h1.trans z))]; exact ⟨h1,h2⟩
theorem KV.put {kvs:List (κ×V)} {vs:List (κ×Value)} (r:KV kvs vs) (k:κ) {y:V} {u:Value} (ry:RelV y u):KV (Zeg kvs k y) (stored vs k u):=by
  unfold Zeg stored
  rw [r.any k]
  by_cases e:(vs.any fun kv=>decide (kv.1=k))=true
  · rw [if_pos e,if_pos e]; exact r.repl k ry
  · rw [if_neg e,if_neg e]; exact Paired.snoc r ⟨rfl,ry⟩
theorem KV.drop {kvs:List (κ×V)} {vs:List (κ×Value)} (r:KV kvs vs) (k:κ):KV (Ze2 kvs k) (without vs k):=by
  unfold KV at r ⊢
  unfold Ze2 without
  induction r with
  | nil=>exact .nil
  | @cons p q ps qs h t ih=>
    obtain ⟨h1,h2⟩:=h
    rw [List.filter_cons,List.filter_cons]
    by_cases e:p.1=k
    · have a:¬decide (p.1≠k)=true:=by simp [e]
      have b:¬decide (q.1≠k)=true:=by simp [h1.symm.trans e]
      rw [if_neg a,if_neg b]; exact ih
    · have e':¬q.1=k:=fun z=>e (h1.trans z)
      have a:decide (p.1≠k)=true:=by simp [e]
      have b:decide (q.1≠k)=true:=by simp [e']
      rw [if_pos a,if_pos b]; exact .cons ⟨h1,h2⟩ ih
theorem KV.length {kvs:List (κ×V)} {vs:List (κ×Value)} (r:KV kvs vs):kvs.length=vs.length:=Paired.length r
theorem Zk7 (kvs:List (κ×V)) (k:κ):(Ze2 kvs k).length≤kvs.length:=List.length_filter_le _ _
end
theorem ZkZ {P:Program} {w:World} {k:Key} {u:Value} (r:RelV (kV k) u):(ZaE P w).is k u=true:=by
  cases k with
  | inl i=>obtain ⟨t,e⟩:=(show ∃t,u=Value.int i t from r); subst e; exact ZkS P w i t
  | inr x=>obtain ⟨t,e⟩:=(show ∃t,u=Value.str x t from r); subst e; exact ZkR P w x t
theorem Ziq {P:Program} {w:World}:∀{ks:List Key} {us:List Value},Vals (ks.map kV) us→ItemsAre (ZaE P w) ks us
  | [],_,r=>by rw [List.map_nil] at r; cases r; exact .nil
  | k::ks,_,r=>by
    rw [List.map_cons] at r
    cases r with
    | cons h t=>exact .cons (ZkZ h) (Ziq t)
abbrev KT (H:Hp):List (List Key×V)→List (List Key×Addr×Value)→Prop:=Paired fun p q=>p.1=q.1∧H q.2.1=some (.tup (p.1.map kV))∧RelV p.2 q.2.2
theorem KT.val {H:Hp} {kvs:List (List Key×V)} {xs:List (List Key×Addr×Value)} (r:KT H kvs xs) (k:List Key):RelO (valV kvs k) ((atKey xs k).map (·.2)):=by
  induction r with
  | nil=>exact True.intro
  | @cons p q ps qs h t ih=>
    obtain ⟨h1,_,h2⟩:=h
    by_cases e:p.1=k
    · have e':q.1=k:=h1.symm.trans e
      have b:atKey (q::qs) k=some q.2:=by simp [atKey,List.find?_cons,e']
      rw [Zg6 e,b]; exact h2
    · have e':¬q.1=k:=fun z=>e (h1.trans z)
      have b:atKey (q::qs) k=atKey qs k:=by simp [atKey,List.find?_cons,e']
      rw [Zg7 e,b]; exact ih
theorem KT.repl {H:Hp} {kvs:List (List Key×V)} {xs:List (List Key×Addr×Value)} (r:KT H kvs xs) (k:List Key) {y:V} {u:Value} (ry:RelV y u) :
    KT H (kvs.map fun kv=>if kv.1=k then (kv.1,y) else kv) (xs.map (putAt k u)):=by
  induction r with
  | nil=>exact .nil
  | @cons p q ps qs h t ih=>
    rw [List.map_cons,List.map_cons]
    refine .cons ?_ ih
    obtain ⟨h1,h2,h3⟩:=h
    unfold putAt
    by_cases e:p.1=k
    · rw [if_pos e,if_pos (h1.symm.trans e)]; exact ⟨h1,h2,ry⟩
    · rw [if_neg e,if_neg (fun z=>e (h1.trans z))]; exact ⟨h1,h2,h3⟩
theorem KT.put {H:Hp} {kvs:List (List Key×V)} {xs:List (List Key×Addr×Value)} (r:KT H kvs xs) (k:List Key) {b:Addr} {y:V} {u:Value} (hb:H b=some (.tup (k.map kV))) (ry:RelV y u) :
    KT H (Zeg kvs k y) (storedH xs k b u):=by
  have e:(kvs.any fun kv=>decide (kv.1=k))=(atKey xs k).isSome:=by
    rw [Zkv,(r.val k).isSome_eq,Option.isSome_map]
  unfold Zeg storedH
  rw [e]
  by_cases q:(atKey xs k).isSome=true
  · rw [if_pos q,if_pos q]; exact r.repl k ry
  · rw [if_neg q,if_neg q]; exact Paired.snoc r ⟨rfl,hb,ry⟩
theorem KT.keeps {H H':Hp} {kvs:List (List Key×V)} {xs:List (List Key×Addr×Value)} (r:KT H kvs xs) (ht:∀b ys,H b=some (.tup ys)→H' b=some (.tup ys)):KT H' kvs xs:=
  Paired.mapP r fun _ _ z=>⟨z.1,ht _ _ z.2.1,z.2.2⟩
section
variable {P:Program} {w:World} {H:Hp} {h:Heap} {a:Addr}
theorem Zso {u:HO} (ok:HOk P w H h) (e:Rd H a u):ObjOk P w H h a u:=e.ok ok
theorem Zqf {kvs:List (Key×V)} (ok:HOk P w H h) (e:Rd H a (.dK kvs)):kvs.length≤sizeLine∧(a == sysModules)=false∧∃vs,KV kvs vs∧h.DictOf (ZaE P w) a vs:=
  show ObjOk P w H h a (.dK kvs) from Zso ok e
theorem Zqg {kvs:List (Key×V)} (ok:HOk P w H h) (e:H a=some (.dK kvs)):kvs.length≤sizeLine∧(a == sysModules)=false∧∃vs,KV kvs vs∧h.DictOf (ZaE P w) a vs:=Zqf ok (.inl e)
theorem ZpV {ks:List Key} (ok:HOk P w H h) (e:H a=some (.tup (ks.map kV))):(tupleKind (ZaE P w)).is h ks a:=by
  obtain ⟨_,its,r,o,h1,h2,n,h3⟩:=(show ObjOk P w H h a (.tup (ks.map kV)) from ok a _ e)
  exact ⟨o,its.toArray,n,h1,h2,h3,by simpa using Ziq r⟩
theorem ZsA {kvs:List (List Key×V)} (ok:HOk P w H h) (e:Rd H a (.dT kvs)):kvs.length≤sizeLine∧(a == sysModules)=false∧
    ∃xs,KT H kvs xs∧h.DictOfH (tupleKind (ZaE P w)) a xs:=by
  obtain ⟨z,y,xs,r,o,es,ep,h1,h2,h3,h4,h5⟩:=(show ObjOk P w H h a (.dT kvs) from Zso ok e)
  refine ⟨z,y,xs,r,o,es,ep,h1,h2,h3,h4,fun x hx=>?_,h5⟩
  have all:∀{l:List (List Key×V)} {m:List (List Key×Addr×Value)},KT H l m→∀x∈m,(tupleKind (ZaE P w)).is h x.1 x.2.1:=by
    intro l m q
    induction q with
    | nil=>intro x hx; exact nomatch hx
    | @cons p q ps qs hq t ih=>
      intro x hx
      rcases List.mem_cons.mp hx with e | hx
      · subst e
        exact ZpV ok (by rw [←hq.1]; exact hq.2.1)
      · exact ih x hx
  exact all r x hx
end
def DGet (H:Hp) (a:Addr) (y:V) (r:Option V):Prop:=
  (∃kvs k,Rd H a (.dK kvs)∧y=kV k∧r=valV kvs k)∨∃kvs k b,Rd H a (.dT kvs)∧y=.ref b∧H b=some (.tup (k.map kV))∧r=valV kvs k
def DPut (H:Hp) (a:Addr) (y v:V) (H':Hp):Prop:=
  (∃kvs k,H a=some (.dK kvs)∧y=kV k∧kvs.length<sizeLine∧H'=upd H a (.dK (Zeg kvs k v)))∨
  ∃kvs k b,H a=some (.dT kvs)∧y=.ref b∧H b=some (.tup (k.map kV))∧kvs.length<sizeLine∧H'=upd H a (.dT (Zeg kvs k v))
theorem DGet.k {H:Hp} {a:Addr} {kvs:List (Key×V)} {k:Key} (e:H a=some (.dK kvs)):DGet H a (kV k) (valV kvs k):=.inl ⟨kvs,k,.inl e,rfl,rfl⟩
theorem DGet.t {H:Hp} {a b:Addr} {kvs:List (List Key×V)} {k:List Key} (e:H a=some (.dT kvs)) (eb:H b=some (.tup (k.map kV))):DGet H a (.ref b) (valV kvs k):=.inr ⟨kvs,k,b,.inl e,rfl,eb,rfl⟩
theorem DPut.k {H:Hp} {a:Addr} {kvs:List (Key×V)} {k:Key} {v:V} (e:H a=some (.dK kvs)) (hl:kvs.length<sizeLine):DPut H a (kV k) v (upd H a (.dK (Zeg kvs k v))):=.inl ⟨kvs,k,e,rfl,hl,rfl⟩
theorem DPut.t {H:Hp} {a b:Addr} {kvs:List (List Key×V)} {k:List Key} {v:V} (e:H a=some (.dT kvs)) (eb:H b=some (.tup (k.map kV))) (hl:kvs.length<sizeLine) :
    DPut H a (.ref b) v (upd H a (.dT (Zeg kvs k v))):=.inr ⟨kvs,k,b,e,rfl,eb,hl,rfl⟩
section
variable {X:Cx} {pins:List (Addr×Obj)} {σ:St} {H:Hp} {s:Shared} {a:Addr} {y v:V} {u r:Value} {o:Option V} {A:Around} {E:Value→Shared→Prop}
theorem Inv.big (I:Inv X pins σ H s):sysModules<s.heap.objs.size:=by
  have h:mainGlobals<s.heap.objs.size:=(I.mod.glob.keeps I.bk).lt
  exact Nat.lt_trans (by decide) h
theorem Zzk {Q:Value→Shared→Prop} (hu:A.units+1<cLine) (I:Inv X pins σ H s) (g:DGet H a y o) (ry:RelV y u) (h:∀s',Inv X pins σ H s'→Q (.bool o.isSome) s') :
    wpAny (model X.prog X.w) A (compareOp .In u (.ref a)) Q E s:=by
  rcases g with ⟨kvs,k,e,ey,l⟩ | ⟨kvs,k,b,e,ey,eb,l⟩
  · subst ey
    obtain ⟨z,hd,vs,rel,dd⟩:=Zqf I.hok e
    refine wpAny_in_of (ZkZ ry) hd dd.mapOf ?_
    rw [←(rel.val k).isSome_eq,←l]
    exact h _ (I.tok _)
  · subst ey
    cases (show u=Value.ref b from ry)
    obtain ⟨z,hd,xs,rel,dd⟩:=ZsA I.hok e
    refine wpAny_in_heap (tupleKind_room_in1 hu) (ZpV I.hok eb) hd dd ?_
    have q:=(rel.val k).isSome_eq
    rw [Option.isSome_map] at q
    rw [←q,←l]
    exact h _ (I.tok _)
theorem ZiZ {h':Heap} {t':Nat} {ob:HO} (I:Inv X pins σ H s) (mu:Mut (H a)) (hs:Heap.SameBut a s.heap h') (he:∃q,h'.get? a=some q) (new:ObjOk X.prog X.w (upd H a ob) h' a ob) :
    Inv X pins σ (upd H a ob) { s with heap:=h',toks:=t' }:=
  I.write (x:=a) (e:=a) mu (.inl rfl) (fun b q hb z=>(hs.2 b hb).trans z) he new
theorem ZlN {P:Program} {w:World} {H':Hp} {h':Heap} {kvs:List (Key×V)} {vs:List (Key×Value)} (z:kvs.length≤sizeLine) (hd:(a == sysModules)=false) (rel:KV kvs vs) (dd:h'.DictOf (ZaE P w) a vs) :
    ObjOk P w H' h' a (.dK kvs):=⟨z,hd,vs,rel,dd⟩
end
section
variable {X:Cx} {pins:List (Addr×Obj)} {σ:St} {H:Hp} {s:Shared} {a:Addr} {kvs:List (Key×V)} {k:Key} {u:Value} {A:Around} {E:Value→Shared→Prop}
theorem Zus {Q:Unit→Shared→Prop} (I:Inv X pins σ H s) (e:H a=some (.dK kvs)) (ry:RelV (kV k) u) (l:(valV kvs k).isSome=true) (h:∀s',Inv X pins σ (upd H a (.dK (Ze2 kvs k))) s'→Q () s') :
    wpAny (model X.prog X.w) A (delItem (.ref a) u) Q E s:=by
  obtain ⟨z,hd,vs,rel,dd⟩:=Zqg I.hok e
  refine wpAny_delItem_slot dd.typeIs (by decide) PySem.F.slot_dict_delitem
    (call_meetsIn PySem.F.slot_dict_delitem dd.typeIs PySem.F.entry_dict_delitem (PySem.F.args_dict_delitem_2 _ _) (meets_dict_delitem_pairs (ZaE X.prog X.w) a (ZkZ ry)) ⟨vs,dd,by rw [←rel.length]; exact z,by rw [←(rel.val k).isSome_eq]; exact l,fun h' dd' hs=>h _ ?_⟩)
  have he:∃q,h'.get? a=some q:=let ⟨q,_,_,hq,_⟩:=dd'; ⟨q,hq⟩
  exact ZiZ I (by rw [e]; exact True.intro) hs he (ZlN (Nat.le_trans (Zk7 kvs k) z) hd (rel.drop k) dd')
theorem ZvJ {v:V} {more:List Value} {Q:Value→Shared→Prop} (I:Inv X pins σ H s) (e:H a=some (.dK kvs)) (ry:RelV (kV k) u) (l:valV kvs k=some v) (hm:more=[]∨∃x,more=[x])
    (h:∀w' s',Inv X pins σ (upd H a (.dK (Ze2 kvs k))) s'→RelV v w'→Q w' s'):wpAny (model X.prog X.w) A (call (.builtin "dict.pop") (.ref a::u::more)) Q E s:=by
  obtain ⟨z,hd,vs,rel,dd⟩:=Zqg I.hok e
  obtain ⟨w',hw,rw'⟩:=RelO.some_of (v:=v) (o:=valueAt vs k) (by rw [←l]; exact rel.val k)
  have hp:(keyPart u).isSome=true:=by
    cases k with
    | inl i=>obtain ⟨t,q⟩:=(show ∃t,u=Value.int i t from ry); subst q; rfl
    | inr x=>obtain ⟨t,q⟩:=(show ∃t,u=Value.str x t from ry); subst q; rfl
  have ha:argsOk "dict.pop" ⟨.ref a::u::more,[]⟩:=by
    rcases hm with q | ⟨x,q⟩
    · subst q; exact PySem.F.args_dict_pop_2 _ _
    · subst q; exact PySem.F.args_dict_pop_3 _ _ _
  refine call_meetsIn PySem.F.slot_dict_pop dd.typeIs PySem.F.entry_dict_pop ha (meets_dict_pop_there (ZaE X.prog X.w) a (ZkZ ry) more hm hp)
    ⟨vs,w',dd,by rw [←rel.length]; exact z,hw,fun h' dd' hs=>h w' _ ?_ rw'⟩
  have he:∃q,h'.get? a=some q:=let ⟨q,_,_,hq,_⟩:=dd'; ⟨q,hq⟩
  exact ZiZ I (by rw [e]; exact True.intro) hs he (ZlN (Nat.le_trans (Zk7 kvs k) z) hd (rel.drop k) dd')
end
def ZuS (ty td:TE):TE:=fun σ H Q=>ty σ H fun y H1=>td σ H1 fun x H2=>∃a o,x=.ref a∧DGet H2 a y o∧Q (.bl o.isSome) H2
section
variable {X:Cx} {o i e value:Expr} {pos pos' tpos:Pos} {td ty tv:TE}
theorem Ztw (hu:X.A.units+1<cLine) (hi:PE X i ty) (ho:PE X o td):PC X .In i o (ZuS ty td):=by
  intro pins s σ H Q I h
  refine thn (hi pins s σ H _ I h) fun iv s1 ⟨y,H1,I1,ry,q1⟩=>thn (ho pins s1 σ H1 _ I1 q1) fun u s2 ⟨x,H2,I2,rx,a,ov,ex,g,q2⟩=>?_
  subst ex
  obtain rfl:u=Value.ref a:=rx
  exact Zzk hu I2 g ry fun s3 I3=>⟨.bl ov.isSome,H2,I3,rfl,q2⟩
end
theorem Zqh {P:Program} {w:World} {H:Hp} (h:Heap) (hb:sysModules<h.objs.size):ObjOk P w H (h.push { cls:=.type "dict",data:=.dict #[] }) h.objs.size (.dK []):=
  ⟨Nat.zero_le _,beq_eq_false_iff_ne.mpr (Ne.symm (Nat.ne_of_lt hb)),[],.nil,Heap.DictOf.new h⟩
def Zs5:TE:=fun _ H Q=>∀p,H p=none→Q (.ref p) (upd H p (.dK []))
section
variable {X:Cx} {pos:Pos}
theorem Zpo:PE X (.Dict [] [] pos) Zs5:=fun pins s σ H Q I h=>
  wpAny_Dict_empty ⟨.ref s.heap.objs.size,_,I.laid (a:=s.heap.objs.size) (o:=.dK []) (t':=s.toks) (fun _ _ q=>Heap.get?_push_of_some _ q) (Nat.le_refl _) (Zqh s.heap I.big),rfl,h _ (I.hok.fresh (Nat.le_refl _))⟩
end
structure M1 (X:Cx) (o:Expr) (m:Str) (apos:Pos) (e:Expr) (cpos:Pos):Prop where
  base:attributeBase o m X.env (eval o X.env)=eval o X.env
  few:((backTo cpos (starEach [e] X.env)).all (fun x=>!x.1) && (backToKw cpos (keywordEach [] X.env)).all (fun x=>x.1.isSome)
    && decide (([e]:List Expr).length+([]:List Keyword).length+(if ([]:List Keyword).isEmpty then 0 else 1)<30))=true
  line:(apos.endLine == cpos.line)=true
  trees:backTo cpos (starEach [e] X.env)=[(false,eval e X.env)]
structure M2 (X:Cx) (o:Expr) (m:Str) (apos:Pos) (e f:Expr) (cpos:Pos):Prop where
  base:attributeBase o m X.env (eval o X.env)=eval o X.env
  few:((backTo cpos (starEach [e,f] X.env)).all (fun x=>!x.1) && (backToKw cpos (keywordEach [] X.env)).all (fun x=>x.1.isSome)
    && decide (([e,f]:List Expr).length+([]:List Keyword).length+(if ([]:List Keyword).isEmpty then 0 else 1)<30))=true
  line:(apos.endLine == cpos.line)=true
  trees:backTo cpos (starEach [e,f] X.env)=[(false,eval e X.env),(false,eval f X.env)]
def IsD (H:Hp) (a:Addr):Prop:=(∃kvs,Rd H a (.dK kvs))∨∃kvs,Rd H a (.dT kvs)
theorem ZpW {X:Cx} {pins:List (Addr×Obj)} {σ:St} {H:Hp} {s:Shared} {a:Addr} (I:Inv X pins σ H s) (d:IsD H a) :
    s.TypeIs (.ref a) "dict"∧(∀b,Value.ref a=.ref b→∃ob,s.heap.get? b=some ob∧ob.dict=none)∧(a == sysModules)=false:=by
  rcases d with ⟨kvs,e⟩ | ⟨kvs,e⟩
  · obtain ⟨_,hd,vs,_,dd⟩:=Zqf I.hok e
    refine ⟨dd.typeIs,fun b q=>?_,hd⟩
    cases q
    obtain ⟨ob,_,_,h1,h2,_⟩:=dd
    exact ⟨ob,h1,h2.2.1⟩
  · obtain ⟨_,hd,xs,_,dd⟩:=ZsA I.hok e
    refine ⟨dd.typeIs,fun b q=>?_,hd⟩
    cases q
    obtain ⟨ob,_,_,h1,h2,_⟩:=dd
    exact ⟨ob,h1,h2.2.1⟩
section
variable {X:Cx} {pins:List (Addr×Obj)} {σ:St} {H:Hp} {s:Shared} {a:Addr} {y d:V} {u r:Value} {o:Option V} {A:Around} {E:Value→Shared→Prop}
end
def Zs4 (td ty:TE):TE:=fun σ H Q=>td σ H fun x H1=>∃a,x=.ref a∧IsD H1 a∧ty σ H1 fun y H2=>∃kvs k v,H2 a=some (.dK kvs)∧y=kV k∧valV kvs k=some v∧Q v (upd H2 a (.dK (Ze2 kvs k)))
section
variable {X:Cx} {o e f:Expr} {apos cpos:Pos} {td ty tx:TE}
theorem Zpn (ho:PE X o td) (he:PE X e ty) (m:M1 X o "pop" apos e cpos):PE X (.Call (.Attribute o "pop" apos) [e] [] cpos) (Zs4 td ty):=by
  intro pins s σ H Q I h
  refine wpAny_Call_method m.base m.few m.line PySem.F.plainAttrs_dict PySem.F.slot_dict_pop PySem.F.type_dict_pop (thn (ho pins s σ H _ I h) fun u s1 ⟨x,H1,I1,rx,a,ex,d,q1⟩=>?_)
  subst ex
  obtain rfl:u=Value.ref a:=rx
  obtain ⟨t1,t2,_⟩:=ZpW I1 d
  refine ⟨t1,t2,?_⟩
  rw [m.trees]
  refine Calls.callWith_builtin rfl (Calls.evalArgs_plain (Calls.spliced_cons (thn (he pins s1 σ H1 _ I1 q1) fun iv s2 ⟨y,H2,I2,ry,kvs,k,v,ea,ey,l,q2⟩=>Calls.spliced_nil ?_)))
  subst ey
  exact ZvJ I2 ea ry l (.inl rfl) fun w' s3 I3 rw'=>⟨v,_,I3,rw',q2⟩
end
section
variable {X:Cx} {pins:List (Addr×Obj)} {σ:St} {H:Hp} {s:Shared} {a:Addr} {kvs:List (Key×V)} {A:Around} {E:Value→Shared→Prop}
end
section
variable {X:Cx} {pins:List (Addr×Obj)} {σ:St} {H:Hp} {s:Shared} {a:Addr} {y:V} {u:Value} {A:Around} {E:Value→Shared→Prop}
end
end L2
namespace L2.MM
open PySem PySem.Spec PyProof.Rows
theorem nr {α:Sort _} {a b:α} (h:a=b):a=b:=h
inductive D where
  | non | bl (b:Bool) | int (i:Int) | str (x:Str) | ty (n:String)
  | scr (ns:List Int) | tup (xs:List D) | lst (xs:List D) | ref (l:Nat)
  deriving Inhabited
inductive Cell where
  | lst (xs:List D) | dK (kvs:List (Key×D)) | dT (kvs:List (List Key×D)) | ins (C:Str) (fs:List (Str×D))
abbrev Sto:=List Cell
structure Bx where
  n:Nat
  m:Nat→Addr
  F:Addr→Prop
  os:List Addr
  ks:Addr→List Int→Prop
def Bx.ok (B:Bx) (a:Addr):Prop:=(∀i,i<B.n→B.m i≠a)∧¬B.F a∧a∉B.os
mutual
def RepV (B:Bx) (H:Hp):D→V→Prop
  | .non,v=>v=.non
  | .bl b,v=>v=.bl b
  | .int i,v=>v=.int i
  | .str x,v=>v=.str x
  | .ty n,v=>v=.ty n
  | .scr ns,v=>∃a,v=.ref a∧((∃o,H a=some (.frz o (.lst (ns.map V.int)))∧B.ok a)∨B.ks a ns)
  | .tup xs,v=>∃a vs,v=.ref a∧H a=some (.tup vs)∧B.ok a∧RepL B H xs vs
  | .lst xs,v=>∃a vs,v=.ref a∧H a=some (.lst vs)∧B.ok a∧RepL B H xs vs
  | .ref l,v=>l<B.n∧v=.ref (B.m l)
def RepL (B:Bx) (H:Hp):List D→List V→Prop
  | [],vs=>vs=[]
  | d::ds,vs=>∃v r,vs=v::r∧RepV B H d v∧RepL B H ds r
end
abbrev RepKV {κ:Type} (B:Bx) (H:Hp):List (κ×D)→List (κ×V)→Prop:=Paired fun p q=>p.1=q.1∧RepV B H p.2 q.2
structure ExtS (B B':Bx) (H H':Hp):Prop where
  n:B.n≤B'.n
  m:∀i,i<B.n→B'.m i=B.m i
  fr:∀i,B.n≤i→i<B'.n→H (B'.m i)=none
  keep:∀a o,H a=some o→(∀i,i<B.n→B.m i≠a)→a∉B.os→H' a=some o
  sm:∀a,H a≠none→H' a≠none
  os:∀a,a∈B'.os→a∈B.os∨H a=none
  F:B'.F=B.F
  ks:B'.ks=B.ks
structure ExtE (B B':Bx) (H H':Hp):Prop extends ExtS B B' H H' where
  osE:B'.os=B.os
  ko:∀a o,a∈B.os→(∀i,i<B.n→B.m i≠a)→H a=some o→H' a=some o
theorem ExtS.refl (B:Bx) (H:Hp):ExtS B B H H:=⟨Nat.le_refl _,fun _ _=>rfl,fun i h h'=>absurd h' (Nat.not_lt.mpr h),fun _ _ h _ _=>h,fun _ h=>h,fun _ h=>.inl h,rfl,rfl⟩
theorem ExtE.refl (B:Bx) (H:Hp):ExtE B B H H:=⟨ExtS.refl B H,rfl,fun _ _ _ _ h=>h⟩
section
variable {B B' B'':Bx} {H H' H'':Hp}
theorem Bx.ok.ext {a:Addr} {o:HO} (k:B.ok a) (E:ExtS B B' H H') (h:H a=some o):B'.ok a∧H' a=some o:=by
  refine ⟨⟨fun i hi e=>?_,by rw [E.F]; exact k.2.1,fun z=>?_⟩,E.keep a o h k.1 k.2.2⟩
  · by_cases q:i<B.n
    · rw [E.m i q] at e; exact k.1 i q e
    · have:=E.fr i (Nat.not_lt.mp q) hi
      rw [e,h] at this; cases this
  · rcases E.os a z with z | z
    · exact k.2.2 z
    · rw [h] at z; cases z
theorem ExtS.trans (E:ExtS B B' H H') (E':ExtS B' B'' H' H''):ExtS B B'' H H'' where
  n:=Nat.le_trans E.n E'.n
  m:=fun i hi=>(E'.m i (Nat.lt_of_lt_of_le hi E.n)).trans (E.m i hi)
  fr:=fun i h1 h2=>by
    by_cases q:i<B'.n
    · rw [E'.m i q]; exact E.fr i h1 q
    · cases z:H (B''.m i) with
      | none=>rfl
      | some o=>exact absurd (E'.fr i (Nat.not_lt.mp q) h2) (E.sm _ (by rw [z]; simp))
  keep:=fun a o h h1 h2=>by
    have h':=E.keep a o h h1 h2
    refine E'.keep a o h' (fun i hi e=>?_) (fun z=>?_)
    · by_cases q:i<B.n
      · rw [E.m i q] at e; exact h1 i q e
      · have:=E.fr i (Nat.not_lt.mp q) hi
        rw [e,h] at this; cases this
    · rcases E.os a z with z | z
      · exact h2 z
      · rw [h] at z; cases z
  sm:=fun a h=>E'.sm a (E.sm a h)
  os:=fun a h=>by
    rcases E'.os a h with z | z
    · exact E.os a z
    · right
      cases q:H a with
      | none=>rfl
      | some o=>exact absurd z (E.sm a (by rw [q]; simp))
  F:=E'.F.trans E.F
  ks:=E'.ks.trans E.ks
theorem ExtE.trans (E:ExtE B B' H H') (E':ExtE B' B'' H' H''):ExtE B B'' H H'' where
  toExtS:=E.toExtS.trans E'.toExtS
  osE:=E'.osE.trans E.osE
  ko:=fun a o ha h1 h=>by
    have h':=E.ko a o ha h1 h
    refine E'.ko a o (by rw [E.osE]; exact ha) (fun i hi e=>?_) h'
    by_cases q:i<B.n
    · rw [E.m i q] at e; exact h1 i q e
    · have:=E.fr i (Nat.not_lt.mp q) hi
      rw [e,h] at this; cases this
mutual
theorem RepV.ext (E:ExtS B B' H H'):∀{d:D} {v:V},RepV B H d v→RepV B' H' d v
  | .non,_,h=>h
  | .bl _,_,h=>h
  | .int _,_,h=>h
  | .str _,_,h=>h
  | .ty _,_,h=>h
  | .scr _,_,h=>by
    obtain ⟨a,e,h⟩:=h
    refine ⟨a,e,?_⟩
    rcases h with ⟨o,h,k⟩ | h
    · obtain ⟨k',h'⟩:=k.ext E h
      exact .inl ⟨o,h',k'⟩
    · exact .inr (by rw [E.ks]; exact h)
  | .tup _,_,h=>by
    obtain ⟨a,vs,e,h,k,l⟩:=h
    obtain ⟨k',h'⟩:=k.ext E h
    exact ⟨a,vs,e,h',k',RepL.ext E l⟩
  | .lst _,_,h=>by
    obtain ⟨a,vs,e,h,k,l⟩:=h
    obtain ⟨k',h'⟩:=k.ext E h
    exact ⟨a,vs,e,h',k',RepL.ext E l⟩
  | .ref l,_,h=>⟨Nat.lt_of_lt_of_le h.1 E.n,by rw [h.2,E.m l h.1]⟩
theorem RepL.ext (E:ExtS B B' H H'):∀{ds:List D} {vs:List V},RepL B H ds vs→RepL B' H' ds vs
  | [],_,h=>h
  | _::_,_,h=>by
    obtain ⟨v,r,e,hv,hr⟩:=h
    exact ⟨v,r,e,RepV.ext E hv,RepL.ext E hr⟩
end
theorem RepL.len:∀{ds:List D} {vs:List V},RepL B H ds vs→vs.length=ds.length
  | [],_,h=>by cases (show _=[] from h); rfl
  | _::_,_,h=>by
    obtain ⟨v,r,rfl,_,hr⟩:=h
    simp [RepL.len hr]
theorem RepL.app:∀{ds es:List D} {vs us:List V},RepL B H ds vs→RepL B H es us→RepL B H (ds++es) (vs++us)
  | [],_,_,_,h,q=>by cases (show _=[] from h); exact q
  | _::_,_,_,_,h,q=>by
    obtain ⟨v,r,rfl,hv,hr⟩:=h
    exact ⟨v,_,rfl,hv,RepL.app hr q⟩
theorem RepL.get:∀{ds:List D} {vs:List V} {i:Nat} {d:D},RepL B H ds vs→ds[i]?=some d→∃v,vs[i]?=some v∧RepV B H d v
  | [],_,_,_,_,e=>by simp at e
  | _::_,_,0,_,h,e=>by
    obtain ⟨v,r,rfl,hv,_⟩:=h
    simp at e; subst e
    exact ⟨v,rfl,hv⟩
  | _::_,_,i+1,_,h,e=>by
    obtain ⟨v,r,rfl,_,hr⟩:=h
    obtain ⟨w,q1,q2⟩:=RepL.get (i:=i) hr (by simpa using e)
    exact ⟨w,by simpa using q1,q2⟩
theorem RepL.take:∀{ds:List D} {vs:List V} (n:Nat),RepL B H ds vs→RepL B H (ds.take n) (vs.take n)
  | _,_,0,_=>by rw [List.take_zero,List.take_zero]; exact rfl
  | [],_,n+1,h=>by cases (show _=[] from h); exact rfl
  | _::_,_,n+1,h=>by
    obtain ⟨v,r,rfl,hv,hr⟩:=h
    exact ⟨v,_,rfl,hv,RepL.take n hr⟩
theorem RepL.drop:∀{ds:List D} {vs:List V} (n:Nat),RepL B H ds vs→RepL B H (ds.drop n) (vs.drop n)
  | _,_,0,h=>h
  | [],_,n+1,h=>by cases (show _=[] from h); exact rfl
  | _::_,_,n+1,h=>by
    obtain ⟨v,r,rfl,hv,hr⟩:=h
    exact RepL.drop n hr
theorem RepL.set {d:D} {v:V} (q:RepV B H d v):∀{ds:List D} {vs:List V} (i:Nat),RepL B H ds vs→RepL B H (ds.set i d) (vs.set i v)
  | [],_,_,h=>by cases (show _=[] from h); exact rfl
  | _::_,_,0,h=>by
    obtain ⟨w,r,rfl,_,hr⟩:=h
    exact ⟨v,r,rfl,q,hr⟩
  | _::_,_,i+1,h=>by
    obtain ⟨w,r,rfl,hw,hr⟩:=h
    exact ⟨w,_,rfl,hw,RepL.set q i hr⟩
theorem RepL.map {α:Type} {f:α→D} {g:α→V} (q:∀a,RepV B H (f a) (g a)):∀l:List α,RepL B H (l.map f) (l.map g)
  | []=>rfl
  | a::l=>⟨_,_,rfl,q a,RepL.map q l⟩
theorem RepKV.ext {κ:Type} (E:ExtS B B' H H'):∀{ks:List (κ×D)} {vs:List (κ×V)},RepKV B H ks vs→RepKV B' H' ks vs
  | _,_,.nil=>.nil
  | _,_,.cons h t=>.cons ⟨h.1,RepV.ext E h.2⟩ (RepKV.ext E t)
end
structure Mo where
  cl:Str→Addr
  K:PySem.W.Frag
def KL (K:PySem.W.Frag) (a:Addr) (ns:List Int):Prop:=∃(o:Obj) (its:Array Value) (n:Nat),K.lookup a=some o∧o.cls=.type "list"∧o.dict=none∧o.data=.seq its n∧its.size≤sizeLine∧Vals (ns.map V.int) its.toList
def CellOk (cl:Mo) (B:Bx) (H:Hp) (a:Addr):Cell→Prop
  | .lst xs=>∃vs,H a=some (.lst vs)∧RepL B H xs vs
  | .dK kvs=>∃vs,H a=some (.dK vs)∧RepKV B H kvs vs
  | .dT kvs=>∃vs,H a=some (.dT vs)∧RepKV B H kvs vs
  | .ins C fs=>∃dx vs,H a=some (.ins (cl.cl C) dx vs)∧RepKV B H fs vs
structure Good (cl:Mo) (B:Bx) (θ:Sto) (H:Hp):Prop where
  len:θ.length=B.n
  inj:∀i j,i<B.n→j<B.n→B.m i=B.m j→i=j
  cel:∀i c,θ[i]?=some c→CellOk cl B H (B.m i) c
  cF:∀i,i<B.n→¬B.F (B.m i)∧B.m i∉B.os
  Fs:∀a,B.F a→H a≠none
  oS:∀a,a∈B.os→H a≠none
  oF:∀a,a∈B.os→¬B.F a
  kc:∀a ns,B.ks a ns→KL cl.K a ns
section
variable {cl:Mo} {B B' B'':Bx} {H H' H'':Hp} {θ θ':Sto}
theorem CellOk.ext {a:Addr} {c:Cell} (k:CellOk cl B H a c) (E:ExtS B B' H H') (h:∀o,H a=some o→H' a=some o):CellOk cl B' H' a c:=by
  cases c with
  | lst xs=>obtain ⟨vs,e,r⟩:=k; exact ⟨vs,h _ e,r.ext E⟩
  | dK kvs=>obtain ⟨vs,e,r⟩:=k; exact ⟨vs,h _ e,r.ext E⟩
  | dT kvs=>obtain ⟨vs,e,r⟩:=k; exact ⟨vs,h _ e,r.ext E⟩
  | ins C fs=>obtain ⟨dx,vs,e,r⟩:=k; exact ⟨dx,vs,h _ e,r.ext E⟩
theorem CellOk.there {a:Addr} {c:Cell} (k:CellOk cl B H a c):H a≠none:=by
  cases c with
  | lst xs=>obtain ⟨vs,e,r⟩:=k; rw [e]; simp
  | dK kvs=>obtain ⟨vs,e,r⟩:=k; rw [e]; simp
  | dT kvs=>obtain ⟨vs,e,r⟩:=k; rw [e]; simp
  | ins C fs=>obtain ⟨dx,vs,e,r⟩:=k; rw [e]; simp
theorem Good.there (G:Good cl B θ H) {i:Nat} (hi:i<B.n):H (B.m i)≠none:=by
  have:i < θ.length:=by rw [G.len]; exact hi
  exact (G.cel i _ (List.getElem?_eq_getElem this)).there
theorem Good.okNone (G:Good cl B θ H) {p:Addr} (h:H p=none):B.ok p:=
  ⟨fun i hi e=>G.there hi (by rw [e]; exact h),fun z=>G.Fs p z h,fun z=>G.oS p z h⟩
theorem ZcI (G:Good cl B θ H) {p:Addr} (h:H p=none) (o:HO):ExtE B B H (upd H p o):=by
  have ne:∀a u,H a=some u→upd H p o a=some u:=fun a u e=>by rw [ZP (zi e h)]; exact e
  exact ⟨⟨Nat.le_refl _,fun _ _=>rfl,fun i h h'=>absurd h' (Nat.not_lt.mpr h),fun a u e _ _=>ne a u e,fun a e=>by
    cases q:H a with
    | none=>exact absurd q e
    | some u=>rw [ne a u q]; simp,fun _ h=>.inl h,rfl,rfl⟩,rfl,fun a u _ _ e=>ne a u e⟩
theorem Zet (G:Good cl B θ H) {p:Addr} (h:H p=none) (o:HO):Good cl B θ (upd H p o):=by
  have E:=ZcI G h o
  exact ⟨G.len,G.inj,fun i c e=>(G.cel i c e).ext E.toExtS fun u q=>by rw [ZP (zi q h)]; exact q,G.cF,fun a z=>E.sm a (G.Fs a z),fun a z=>E.sm a (G.oS a z),G.oF,G.kc⟩
theorem Zq6 (G:Good cl B θ H) {p:Addr} (h:H p=none) {xs:List D} {vs:List V} (r:RepL B H xs vs):RepV B (upd H p (.lst vs)) (.lst xs) (.ref p):=
  ⟨p,vs,rfl,zI,G.okNone h,r.ext (ZcI G h _).toExtS⟩
theorem Zq5 (G:Good cl B θ H) {p:Addr} (h:H p=none) {xs:List D} {vs:List V} (r:RepL B H xs vs):RepV B (upd H p (.tup vs)) (.tup xs) (.ref p):=
  ⟨p,vs,rfl,zI,G.okNone h,r.ext (ZcI G h _).toExtS⟩
def Bx.push (B:Bx) (p:Addr):Bx:={ B with n:=B.n+1,m:=fun i=>if i=B.n then p else B.m i }
theorem Zhw (G:Good cl B θ H) {p:Addr} (h:H p=none) (o:HO):ExtE B (B.push p) H (upd H p o):=by
  have E:=ZcI G h o
  refine ⟨⟨Nat.le_succ _,fun i hi=>if_neg (Nat.ne_of_lt hi),fun i h1 h2=>?_,E.keep,E.sm,fun _ h=>.inl h,rfl,rfl⟩,rfl,E.ko⟩
  have e:i=B.n:=Nat.le_antisymm (Nat.le_of_lt_succ h2) h1
  show H (if i=B.n then p else B.m i)=none
  rw [if_pos e]; exact h
theorem Zir (G:Good cl B θ H) {p:Addr} (h:H p=none) {o:HO} {c:Cell} (k:CellOk cl (B.push p) (upd H p o) p c):Good cl (B.push p) (θ++[c]) (upd H p o):=by
  have E:=Zhw G h o
  have hm:∀i,i<B.n→(B.push p).m i=B.m i:=fun i hi=>if_neg (Nat.ne_of_lt hi)
  have hn:(B.push p).m B.n=p:=if_pos rfl
  have cs:∀i,i<(B.push p).n→i<B.n∨i=B.n:=fun i hi=>Nat.lt_succ_iff_lt_or_eq.mp hi
  have ok:=G.okNone h
  refine ⟨by rw [List.length_append,G.len]; rfl,fun i j hi hj e=>?_,fun i c' e=>?_,fun i hi=>?_,fun a z=>E.sm a (G.Fs a z),fun a z=>E.sm a (G.oS a z),G.oF,G.kc⟩
  · rcases cs i hi with a | a<;>rcases cs j hj with b | b
    · rw [hm i a,hm j b] at e; exact G.inj i j a b e
    · rw [hm i a,b,hn] at e; exact absurd e (ok.1 i a)
    · rw [hm j b,a,hn] at e; exact absurd e.symm (ok.1 j b)
    · rw [a,b]
  · by_cases q:i < θ.length
    · rw [List.getElem?_append_left q] at e
      rw [hm i (by rw [←G.len]; exact q)]
      exact (G.cel i c' e).ext E.toExtS fun u z=>by rw [ZP (zi z h)]; exact z
    · have q':=Nat.not_lt.mp q
      rw [List.getElem?_append_right q'] at e
      have:i - θ.length=0:=by
        cases z:i - θ.length with
        | zero=>rfl
        | succ k=>rw [z] at e; simp at e
      rw [this] at e
      simp at e
      subst e
      have:i=B.n:=by rw [←G.len]; omega
      rw [this,hn]; exact k
  · rcases cs i hi with a | a
    · rw [hm i a]; exact G.cF i a
    · rw [a,hn]; exact ⟨ok.2.1,ok.2.2⟩
theorem ZgZ (G:Good cl B θ H) {l:Nat} (hl:l<B.n) (o:HO):ExtE B B H (upd H (B.m l) o):=by
  have ne:∀a u,(∀i,i<B.n→B.m i≠a)→H a=some u→upd H (B.m l) o a=some u:=fun a u k e=>by rw [ZP (Ne.symm (k l hl))]; exact e
  exact ⟨⟨Nat.le_refl _,fun _ _=>rfl,fun i h h'=>absurd h' (Nat.not_lt.mpr h),fun a u e k _=>ne a u k e,fun a e=>by
    by_cases q:a=B.m l
    · rw [q,zI]; simp
    · rw [ZP q]; exact e,fun _ h=>.inl h,rfl,rfl⟩,rfl,fun a u _ k e=>ne a u k e⟩
theorem Zhu (G:Good cl B θ H) {l:Nat} (hl:l<B.n) {o:HO} {c:Cell} (k:CellOk cl B (upd H (B.m l) o) (B.m l) c):Good cl B (θ.set l c) (upd H (B.m l) o):=by
  have E:=ZgZ G hl o
  refine ⟨by rw [List.length_set]; exact G.len,G.inj,fun i c' e=>?_,G.cF,fun a z=>E.sm a (G.Fs a z),fun a z=>E.sm a (G.oS a z),G.oF,G.kc⟩
  by_cases q:i=l
  · subst q
    rw [List.getElem?_set_self (by rw [G.len]; exact hl)] at e
    cases e; exact k
  · rw [List.getElem?_set_ne (Ne.symm q)] at e
    have hi:i<B.n:=by rw [←G.len]; exact (List.getElem?_eq_some_iff.mp e).1
    exact (G.cel i c' e).ext E.toExtS fun u z=>by rw [ZP (fun z'=>q (G.inj i l hi hl z'))]; exact z
end
inductive R (α:Type) where
  | ok (a:α) (θ:Sto) | ex (c:Str) (θ:Sto) | bad
def R.bind {α β:Type} (r:R α) (k:α→Sto→R β):R β:=match r with
  | .ok a θ=>k a θ
  | .ex c θ=>.ex c θ
  | .bad=>.bad
@[simp] theorem R.bind_ok {α β:Type} (a:α) (θ:Sto) (k:α→Sto→R β):(R.ok a θ).bind k=k a θ:=nr rfl
@[simp] theorem R.bind_bad {α β:Type} (k:α→Sto→R β):(R.bad:R α).bind k=.bad:=nr rfl
inductive Sl where
  | no | val (d:D) | own (xs:List D)
structure Frm (cl:Mo) (B:Bx) (θ:Sto) (ρ:List Sl) (σ:St) (H:Hp):Prop where
  good:Good cl B θ H
  len:ρ.length=σ.length
  val:∀(i:Nat) (d:D),ρ[i]?=some (Sl.val d)→∃v,σ[i]?=some (some v)∧RepV B H d v
  own:∀(i:Nat) (xs:List D),ρ[i]?=some (Sl.own xs)→∃a vs,σ[i]?=some (some (.ref a))∧a∈B.os∧H a=some (.lst vs)∧RepL B H xs vs
  ne:∀(i j:Nat) (xs ys:List D) (a:Addr),i≠j→ρ[i]?=some (Sl.own xs)→ρ[j]?=some (Sl.own ys)→σ[i]?=some (some (.ref a))→σ[j]?≠some (some (.ref a))
theorem Frm.ext {cl:Mo} {B B':Bx} {θ θ':Sto} {ρ:List Sl} {σ:St} {H H':Hp} (F:Frm cl B θ ρ σ H) (E:ExtE B B' H H') (G:Good cl B' θ' H'):Frm cl B' θ' ρ σ H' where
  good:=G
  len:=F.len
  val:=fun i d e=>let ⟨v,h1,h2⟩:=F.val i d e; ⟨v,h1,h2.ext E.toExtS⟩
  own:=fun i xs e=>by
    obtain ⟨a,vs,h1,h2,h3,h4⟩:=F.own i xs e
    exact ⟨a,vs,h1,by rw [E.osE]; exact h2,E.ko a _ h2 (fun i hi z=>(F.good.cF i hi).2 (by rw [z]; exact h2)) h3,h4.ext E.toExtS⟩
  ne:=F.ne
def zY (mg:Str→Option Value) (x:Str):Addr:=match mg x with
  | some (.ref a)=>a
  | _=>0
abbrev _root_.L2.Cx.cl (X:Cx):Mo:=⟨zY X.mg,X.K⟩
def XE (X:Cx) (σ:St) (B:Bx) (H:Hp) (c:Str) (θ':Sto):Prop:=False
theorem XE.trans {X:Cx} {σ:St} {B B':Bx} {H H':Hp} {c:Str} {θ':Sto} (h:XE X σ B H c θ') (E:ExtE B B' H H'):XE X σ B' H' c θ':=h
def wpR (X:Cx) (σ:St) {α β:Type} (Rel:Bx→Hp→α→β→Prop) (B:Bx) (H:Hp) (r:R α) (Q:β→Hp→Prop):Prop:=match r with
  | .ok a θ'=>∀B' H' b,ExtE B B' H H'→Good X.cl B' θ' H'→Rel B' H' a b→Q b H'
  | .ex c θ'=>XE X σ B H c θ'
  | .bad=>False
section
variable {X:Cx} {σ:St} {α β γ δ:Type} {Rel:Bx→Hp→α→β→Prop} {Rel':Bx→Hp→γ→δ→Prop} {B B':Bx} {H H':Hp}
theorem wpR.mono {r:R α} {Q Q':β→Hp→Prop} (h:wpR X σ Rel B H r Q) (hQ:∀b H',Q b H'→Q' b H'):wpR X σ Rel B H r Q':=by
  cases r with
  | ok a θ'=>exact fun B' H' b e g q=>hQ _ _ (h B' H' b e g q)
  | ex c θ'=>exact h
  | bad=>exact h
theorem wpR.trans {r:R α} {Q:β→Hp→Prop} (h:wpR X σ Rel B H r Q) (E:ExtE B B' H H'):wpR X σ Rel B' H' r Q:=by
  cases r with
  | ok a θ'=>exact fun B2 H2 b e g q=>h B2 H2 b (E.trans e) g q
  | ex c θ'=>exact XE.trans (c:=c) (θ':=θ') (σ:=σ) (X:=X) h E
  | bad=>exact h
theorem wpR.bind {r:R α} {k:α→Sto→R γ} {Q:δ→Hp→Prop} (h:wpR X σ Rel' B H (r.bind k) Q) :
    wpR X σ Rel B H r (fun b H1=>∃B1 θ1 a,ExtE B B1 H H1∧Good X.cl B1 θ1 H1∧Rel B1 H1 a b∧wpR X σ Rel' B1 H1 (k a θ1) Q):=by
  cases r with
  | ok a θ'=>exact fun B1 H1 b E g q=>⟨B1,θ',a,E,g,q,wpR.trans h E⟩
  | ex c θ'=>exact h
  | bad=>exact h
end
abbrev EM:=List Sl→Sto→R D
abbrev TMr:=List Sl→Sto→R Bool
abbrev AM:=List Sl→Sto→R (List D)
def EqB (_:Bx) (_:Hp) (a b:Bool):Prop:=a=b
def tM (X:Cx) (f:EM):TE:=fun σ H Q=>∃B θ ρ,Frm X.cl B θ ρ σ H∧wpR X σ RepV B H (f ρ θ) Q
def tMT (X:Cx) (f:TMr):TT:=fun σ H Q=>∃B θ ρ,Frm X.cl B θ ρ σ H∧wpR X σ EqB B H (f ρ θ) Q
def tMA (X:Cx) (f:AM):TA:=fun σ H Q=>∃B θ ρ,Frm X.cl B θ ρ σ H∧wpR X σ RepL B H (f ρ θ) Q
def ME (X:Cx) (e:Expr) (f:EM):Prop:=PE X e (tM X f)
def MT (X:Cx) (e:Expr) (f:TMr):Prop:=PT X e (tMT X f)
def MW (X:Cx) (e:Expr) (f:TMr):Prop:=PW X e (tMT X f)
def MA (X:Cx) (es:List Expr) (f:AM):Prop:=PA X es (tMA X f)
section
variable {X:Cx} {σ:St} {H:Hp} {γ δ:Type} {Rel':Bx→Hp→γ→δ→Prop}
theorem Z5 {f:EM} {Q Q':VK} (h:tM X f σ H Q) (hQ:∀v H',Q v H'→Q' v H'):tM X f σ H Q':=let ⟨B,θ,ρ,F,w⟩:=h; ⟨B,θ,ρ,F,w.mono hQ⟩
theorem Zdl {f:TMr} {Q Q':Bool→Hp→Prop} (h:tMT X f σ H Q) (hQ:∀v H',Q v H'→Q' v H'):tMT X f σ H Q':=let ⟨B,θ,ρ,F,w⟩:=h; ⟨B,θ,ρ,F,w.mono hQ⟩
theorem ZbN {f:AM} {Q Q':List V→Hp→Prop} (h:tMA X f σ H Q) (hQ:∀v H',Q v H'→Q' v H'):tMA X f σ H Q':=let ⟨B,θ,ρ,F,w⟩:=h; ⟨B,θ,ρ,F,w.mono hQ⟩
variable {B:Bx} {θ:Sto} {ρ:List Sl}
theorem step {f:EM} {k:D→Sto→R γ} {Q:δ→Hp→Prop} (F:Frm X.cl B θ ρ σ H) (h:wpR X σ Rel' B H ((f ρ θ).bind k) Q) :
    tM X f σ H (fun v H1=>∃B1 θ1 d,ExtE B B1 H H1∧Frm X.cl B1 θ1 ρ σ H1∧RepV B1 H1 d v∧wpR X σ Rel' B1 H1 (k d θ1) Q):=
  ⟨B,θ,ρ,F,(wpR.bind (Rel:=RepV) h).mono fun v H1 ⟨B1,θ1,d,E,G,r,w⟩=>⟨B1,θ1,d,E,F.ext E G,r,w⟩⟩
theorem Zl3 {f:TMr} {k:Bool→Sto→R γ} {Q:δ→Hp→Prop} (F:Frm X.cl B θ ρ σ H) (h:wpR X σ Rel' B H ((f ρ θ).bind k) Q) :
    tMT X f σ H (fun c H1=>∃B1 θ1,ExtE B B1 H H1∧Frm X.cl B1 θ1 ρ σ H1∧wpR X σ Rel' B1 H1 (k c θ1) Q):=
  ⟨B,θ,ρ,F,(wpR.bind (Rel:=EqB) h).mono fun v H1 ⟨B1,θ1,d,E,G,r,w⟩=>by cases (show d=v from r); exact ⟨B1,θ1,E,F.ext E G,w⟩⟩
theorem Zhe {f:AM} {k:List D→Sto→R γ} {Q:δ→Hp→Prop} (F:Frm X.cl B θ ρ σ H) (h:wpR X σ Rel' B H ((f ρ θ).bind k) Q) :
    tMA X f σ H (fun v H1=>∃B1 θ1 d,ExtE B B1 H H1∧Frm X.cl B1 θ1 ρ σ H1∧RepL B1 H1 d v∧wpR X σ Rel' B1 H1 (k d θ1) Q):=
  ⟨B,θ,ρ,F,(wpR.bind (Rel:=RepL) h).mono fun v H1 ⟨B1,θ1,d,E,G,r,w⟩=>⟨B1,θ1,d,E,F.ext E G,r,w⟩⟩
theorem ZO {α β:Type} {Rel:Bx→Hp→α→β→Prop} {a:α} {b:β} {Q:β→Hp→Prop} (G:Good X.cl B θ H) (r:Rel B H a b) (h:wpR X σ Rel B H (.ok a θ) Q):Q b H:=h B H b (ExtE.refl B H) G r
end
theorem PE.imp {X:Cx} {e:Expr} {t t':TE} (h:PE X e t) (hi:∀σ H Q,t' σ H Q→t σ H Q):PE X e t':=fun pins s σ H Q I q=>h pins s σ H Q I (hi σ H Q q)
theorem PT.imp {X:Cx} {e:Expr} {t t':TT} (h:PT X e t) (hi:∀σ H Q,t' σ H Q→t σ H Q):PT X e t':=fun pins s σ H Q I q=>h pins s σ H Q I (hi σ H Q q)
theorem PW.imp {X:Cx} {e:Expr} {t t':TT} (h:PW X e t) (hi:∀σ H Q,t' σ H Q→t σ H Q):PW X e t':=fun wh pins s σ H Q I q=>h wh pins s σ H Q I (hi σ H Q q)
theorem PA.imp {X:Cx} {es:List Expr} {t t':TA} (h:PA X es t) (hi:∀σ H Q,t' σ H Q→t σ H Q):PA X es t':=fun pos pins s σ H Q I q=>h pos pins s σ H Q I (hi σ H Q q)
theorem OpR.imp {X:Cx} {f:Value→Value→Sem Value} {r r':R2} (h:OpR X f r) (hi:∀x y H Q,r' x y H Q→r x y H Q):OpR X f r':=fun pins s σ H x y v u Q I rx ry q=>h pins s σ H x y v u Q I rx ry (hi x y H Q q)
theorem IxR.imp {X:Cx} {r r':R2} (h:IxR X r) (hi:∀x y H Q,r' x y H Q→r x y H Q):IxR X r':=fun pins s σ H x y v u Q v1 s1 I rx ry q=>h pins s σ H x y v u Q v1 s1 I rx ry (hi _ _ _ _ q)
theorem CallR.imp {X:Cx} {f:Value} {r r':List V→Hp→VK→Prop} (h:CallR X f r) (hi:∀xs H Q,r' xs H Q→r xs H Q):CallR X f r':=fun pins s σ H xs us Q I r q=>h pins s σ H xs us Q I r (hi _ _ _ q)
end L2.MM
namespace L2.MM
open PySem PySem.Spec PyProof.Rows
noncomputable section
variable {X:Cx}
def ZaR (θ:Sto):D→Option (List D)
  | .lst xs=>some xs
  | .ref l=>match θ[l]? with
    | some (.lst xs)=>some xs
    | _=>none
  | _=>none
def seqOf (θ:Sto):D→Option (List D)
  | .tup xs=>some xs
  | .scr ns=>some (ns.map D.int)
  | d=>ZaR θ d
theorem Zaf {cl:Mo} {B:Bx} {θ:Sto} {H:Hp} (G:Good cl B θ H) {d:D} {v:V} {xs:List D} (r:RepV B H d v) (h:ZaR θ d=some xs):∃a vs,v=.ref a∧H a=some (.lst vs)∧RepL B H xs vs:=by
  cases d with
  | lst ys=>
    obtain ⟨a,vs,e,h1,_,h2⟩:=r
    cases h
    exact ⟨a,vs,e,h1,h2⟩
  | ref l=>
    obtain ⟨hl,rfl⟩:=r
    simp only [ZaR] at h
    split at h
    · rename_i ys e
      cases h
      obtain ⟨vs,q1,q2⟩:=G.cel l _ e
      exact ⟨_,vs,rfl,q1,q2⟩
    · cases h
  | _=>cases h
theorem ZcQ {cl:Mo} {B:Bx} {θ:Sto} {H:Hp} (G:Good cl B θ H) {d:D} {v:V} {xs:List D} (r:RepV B H d v) (h:seqOf θ d=some xs) :
    ∃a vs,v=.ref a∧(SqL cl.K H a vs∨SqT cl.K H a vs)∧RepL B H xs vs:=by
  cases d with
  | tup ys=>
    obtain ⟨a,vs,e,h1,_,h2⟩:=r
    cases h
    exact ⟨a,vs,e,.inr (SqT.of h1),h2⟩
  | scr ns=>
    obtain ⟨a,e,h1⟩:=r
    cases h
    refine ⟨a,ns.map V.int,e,.inl ?_,RepL.map (f:=D.int) (g:=V.int) (fun _=>rfl) ns⟩
    rcases h1 with ⟨o,h1,_⟩ | h1
    · exact .inl (.inr ⟨o,h1⟩)
    · exact .inr (G.kc a ns h1)
  | lst ys=>
    obtain ⟨a,vs,e,h1,h2⟩:=Zaf G r (show ZaR θ (.lst ys)=some xs from h)
    exact ⟨a,vs,e,.inl (SqL.of h1),h2⟩
  | ref l=>
    obtain ⟨a,vs,e,h1,h2⟩:=Zaf G r (show ZaR θ (.ref l)=some xs from h)
    exact ⟨a,vs,e,.inl (SqL.of h1),h2⟩
  | _=>cases h
abbrev BIG:Nat:=100000
theorem Zaq {n:Nat} (h:n≤BIG):n≤sizeLine:=Nat.le_trans h (by rw [sizeLine_eq]; decide)
def Zd (i:Nat):EM:=fun ρ θ=>match ρ[i]? with
  | some (Sl.val d)=>.ok d θ
  | _=>.bad
def mC (d:D):EM:=fun _ θ=>.ok d θ
section
variable {a b c e:Expr} {pos:Pos} {fa fb fc:EM} {ft fu:TMr}
theorem Zb (i:Nat) {x:Str} {pos:Pos} (hN:X.N[i]?=some x:=by rfl) (hv:Vis X.env.scope x:=by first | exact Or.inl rfl | exact Or.inr (Or.inl rfl) | exact Or.inr (Or.inr rfl))
    (hd:(x == ("__debug__":Str))=false:=by decide) (hcd:(x == ("__classdict__":Str))=false:=by decide):ME X (.Name x pos) (Zd i):=by
  refine PE.imp (Zph hN hv hd hcd) fun σ H Q h=>?_
  obtain ⟨B,θ,ρ,F,w⟩:=h
  unfold Zd at w
  split at w
  · rename_i d e
    obtain ⟨v,h1,h2⟩:=F.val i d e
    exact ⟨v,h1,ZO F.good h2 w⟩
  · exact w.elim
theorem ZlC {d:D} {v:V} (h:PE X e (tC v)) (r:∀B H,RepV B H d v):ME X e (mC d):=by
  refine PE.imp h fun σ H Q h=>?_
  obtain ⟨B,θ,ρ,F,w⟩:=h
  exact ZO F.good (r B H) w
theorem Zi {i j pos}:ME X (.Constant (.int i) j pos) (mC (.int i)):=ZlC Ztt fun _ _=>rfl
theorem zA {i j pos}:ME X (.Constant (.bool i) j pos) (mC (.bl i)):=ZlC Zve fun _ _=>rfl
theorem ZaI {j pos}:ME X (.Constant .none j pos) (mC .non):=ZlC Zts fun _ _=>rfl
theorem Zf3 {i j pos}:ME X (.Constant (.str i) j pos) (mC (.str i)):=ZlC Ztq fun _ _=>rfl
theorem Zl {x:Str} {i:Int} (h:∃t,X.mg x=some (.int i t)) (hg:Gl X x:=by rfl) (hd:(x == ("__debug__":Str))=false:=by decide):ME X (.Name x pos) (mC (.int i)):=ZlC (Zrm h hg hd) fun _ _=>rfl
theorem Zz {x:Str} {y:Str} (h:∃t,X.mg x=some (.str y t)) (hg:Gl X x:=by rfl) (hd:(x == ("__debug__":Str))=false:=by decide):ME X (.Name x pos) (mC (.str y)):=by
  obtain ⟨t,h⟩:=h
  exact ZlC (Zmc hg h (v:=.str y) ⟨t,rfl⟩ hd) fun _ _=>rfl
theorem ZpL {x:Str} {n:String} {pos:Pos} (hm:X.mg x=none) (hv:bootBuiltins x=some (.type n)) (hg:Gl X x:=by rfl) (hn:x≠"__name__":=by decide) (hd:(x == ("__debug__":Str))=false:=by decide):ME X (.Name x pos) (mC (.ty n)):=
  ZlC (Zu9 hm hv hg hn hd) fun _ _=>rfl
abbrev OM:=D→D→Sto→R D
def mOp (g:OM) (fa fb:EM):EM:=fun ρ θ=>(fa ρ θ).bind fun x θ=>(fb ρ θ).bind fun y θ=>g x y θ
def rM (X:Cx) (g:OM):R2:=fun x y H Q=>∃σ B θ d e,Good X.cl B θ H∧RepV B H d x∧RepV B H e y∧wpR X σ RepV B H (g d e θ) Q
theorem Zl1 {g:OM} (σ:St) (H:Hp) (Q:VK) (h:tM X (mOp g fa fb) σ H Q):tOp (rM X g) (tM X fa) (tM X fb) σ H Q:=by
  obtain ⟨B,θ,ρ,F,w⟩:=h
  refine Z5 (step F w) ?_
  rintro x' H1 ⟨B1,θ1,x,E1,F1,rx,w1⟩
  refine Z5 (step F1 w1) ?_
  rintro y' H2 ⟨B2,θ2,y,E2,F2,ry,w2⟩
  exact ⟨σ,B2,θ2,x,y,F2.good,rx.ext E2.toExtS,ry,w2⟩
theorem Zu {op:Operator} {g:OM} (ho:OpR X (binaryOp op) (rM X g)) (ha:ME X a fa) (hb:ME X b fb):ME X (.BinOp a op b pos) (mOp g fa fb):=PE.imp (Zvb ho ha hb) Zl1
theorem zp {op:CmpOp} {g:OM} (ho:OpR X (compareOp op) (rM X g)) (ha:ME X a fa) (hb:ME X b fb) (hm:behindInMarks op b=false:=by first | exact ZpC _ | rfl):ME X (.Compare a [op] [b] pos) (mOp g fa fb):=PE.imp (Zrn ho ha hb hm) Zl1
theorem ZA {g:OM} (hr:IxR X (rM X g)) (ha:ME X a fa) (hb:ME X b fb) (hs:ZmL b:=by intro _ _; rfl):ME X (.Subscript a b pos) (mOp g fa fb):=PE.imp (Zvd hr ha hb hs) Zl1
def ZG (f:EM):TMr:=fun ρ θ=>(f ρ θ).bind fun x θ=>match x with
  | .bl k=>.ok k θ
  | _=>.bad
theorem Zhc {f:EM} (σ:St) (H:Hp) (Q:Bool→Hp→Prop) (h:tMT X (ZG f) σ H Q):tM X f σ H (fun v H1=>∃k,v=.bl k∧Q k H1):=by
  obtain ⟨B,θ,ρ,F,w⟩:=h
  refine Z5 (step F w) ?_
  rintro v H1 ⟨B1,θ1,x,E1,F1,rx,w1⟩
  cases x with
  | bl k=>exact ⟨k,rx,ZO (Rel:=EqB) F1.good rfl w1⟩
  | _=>exact w1.elim
theorem ZC {op:CmpOp} {g:OM} (ho:OpR X (compareOp op) (rM X g)) (ha:ME X a fa) (hb:ME X b fb) (hm:behindInMarks op b=false:=by first | exact ZpC _ | rfl):MT X (.Compare a [op] [b] pos) (ZG (mOp g fa fb)):=by
  refine PT.imp (Zrb ho ha hb hm) fun σ H Q h=>?_
  have q:=Zhc σ H Q h
  exact Zl1 σ H _ q
def ZdP (g g':OM) (fa fb fc:EM):EM:=fun ρ θ=>(fa ρ θ).bind fun x θ=>(fb ρ θ).bind fun y θ=>(g x y θ).bind fun z θ=>match z with
  | .bl true=>(fc ρ θ).bind fun w θ=>g' y w θ
  | .bl false=>.ok (.bl false) θ
  | _=>.bad
theorem Zkz {g g':OM} (σ:St) (H:Hp) (Q:VK) (h:tM X (ZdP g g' fa fb fc) σ H Q):Zlv (rM X g) (rM X g') (tM X fa) (tM X fb) (tM X fc) σ H Q:=by
  obtain ⟨B,θ,ρ,F,w⟩:=h
  refine Z5 (step F w) ?_
  rintro x' H1 ⟨B1,θ1,x,E1,F1,rx,w1⟩
  refine Z5 (step F1 w1) ?_
  rintro y' H2 ⟨B2,θ2,y,E2,F2,ry,w2⟩
  refine ⟨σ,B2,θ2,x,y,F2.good,rx.ext E2.toExtS,ry,(wpR.bind (Rel:=RepV) w2).mono ?_⟩
  rintro z' H3 ⟨B3,θ3,z,E3,G3,rz,w3⟩
  have F3:=F2.ext E3 G3
  cases z with
  | bl k=>
    refine ⟨k,rz,?_⟩
    cases k with
    | true=>
      rw [if_pos rfl]
      refine Z5 (step F3 w3) ?_
      rintro w' H4 ⟨B4,θ4,u,E4,F4,ru,w4⟩
      exact ⟨σ,B4,θ4,y,u,F4.good,ry.ext (E3.trans E4).toExtS,ru,w4⟩
    | false=>
      rw [if_neg Bool.false_ne_true]
      exact ZO G3 (show RepV B3 H3 (.bl false) (.bl false) from rfl) w3
  | _=>exact w3.elim
theorem Zfz {op op':CmpOp} {g g':OM} (ho:OpR X (compareOp op) (rM X g)) (ho':OpR X (compareOp op') (rM X g')) (ha:ME X a fa) (hb:ME X b fb) (hc:ME X c fc)
    (hm:lastMarks [op,op'] [b,c]=false:=by with_unfolding_all rfl):ME X (.Compare a [op,op'] [b,c] pos) (ZdP g g' fa fb fc):=PE.imp (Zpp ho ho' ha hb hc hm) Zkz
theorem ZpG {op op':CmpOp} {g g':OM} (ho:OpR X (compareOp op) (rM X g)) (ho':OpR X (compareOp op') (rM X g')) (ha:ME X a fa) (hb:ME X b fb) (hc:ME X c fc)
    (hm:lastMarks [op,op'] [b,c]=false:=by with_unfolding_all rfl):MT X (.Compare a [op,op'] [b,c] pos) (ZG (ZdP g g' fa fb fc)):=by
  refine PT.imp (Zo9 ho ho' ha hb hc hm) fun σ H Q h=>?_
  have q:=Zhc σ H Q h
  exact Zkz σ H _ q
def ZgK (θ:Sto):D→Option Bool
  | .non=>some false
  | .bl b=>some b
  | .int i=>some (i != 0)
  | .str x=>if x.length≤BIG then some ((x.length:Int) != 0) else none
  | d=>(seqOf θ d).map fun xs=>!xs.isEmpty
def zX (f:EM):TMr:=fun ρ θ=>(f ρ θ).bind fun x θ=>match ZgK θ x with
  | some k=>.ok k θ
  | none=>.bad
theorem RepL.emp {B:Bx} {H:Hp} {xs:List D} {vs:List V} (r:RepL B H xs vs):vs.isEmpty=xs.isEmpty:=by
  cases xs with
  | nil=>cases (show vs=[] from r); rfl
  | cons _ _=>obtain ⟨v,q,rfl,_,_⟩:=r; rfl
theorem ZlV {cl:Mo} {B:Bx} {θ:Sto} {H:Hp} (G:Good cl B θ H) {d:D} {v:V} {k:Bool} (r:RepV B H d v) (h:ZgK θ d=some k):TruV cl.K v H k:=by
  have sq:∀xs,seqOf θ d=some xs→((seqOf θ d).map fun xs=>!xs.isEmpty)=some k→TruV cl.K v H k:=fun xs e q=>by
    rw [e] at q
    cases q
    obtain ⟨a,vs,rfl,h1,h2⟩:=ZcQ G r e
    show TruV cl.K (V.ref a) H (!xs.isEmpty)
    rw [←h2.emp]
    rcases h1 with h1 | h1
    · exact .inl ⟨vs,h1,rfl⟩
    · exact .inr (.inl ⟨vs,h1,rfl⟩)
  cases d with
  | non=>cases (show v=.non from r); cases h; rfl
  | bl b=>cases (show v=.bl b from r); cases h; rfl
  | int i=>cases (show v=.int i from r); cases h; rfl
  | str x=>
    cases (show v=.str x from r)
    simp only [ZgK] at h
    split at h
    · rename_i hz; cases h; exact ⟨Zaq hz,rfl⟩
    · cases h
  | ty n=>simp [ZgK,seqOf,ZaR] at h
  | scr ns=>exact sq _ rfl h
  | tup xs=>exact sq _ rfl h
  | lst xs=>exact sq _ rfl h
  | ref l=>
    cases e:seqOf θ (.ref l) with
    | none=>simp only [ZgK,e] at h; cases h
    | some xs=>exact sq xs e h
theorem ZE (ha:ME X a fa) (he:∀whole,isTrue a X.env whole=(do let v ←whole; standAt a.pos; holding [v] (truthy v)):=by intro _; rfl):MT X a (zX fa):=by
  refine PT.imp (Zo8 ha he) fun σ H Q h=>?_
  obtain ⟨B,θ,ρ,F,w⟩:=h
  refine Z5 (step F w) ?_
  rintro v H1 ⟨B1,θ1,x,E1,F1,rx,w1⟩
  cases e:ZgK θ1 x with
  | none=>rw [e] at w1; exact w1.elim
  | some k=>rw [e] at w1; exact ⟨k,ZlV F1.good rx e,ZO (Rel:=EqB) F1.good rfl w1⟩
def Zho (f g:TMr):TMr:=fun ρ θ=>(f ρ θ).bind fun k θ=>if k=true then g ρ θ else .ok false θ
def mOr (f g:TMr):TMr:=fun ρ θ=>(f ρ θ).bind fun k θ=>if k=true then .ok true θ else g ρ θ
def ZdN (f:TMr):TMr:=fun ρ θ=>(f ρ θ).bind fun k θ=>.ok (!k) θ
theorem ZbC (ha:MT X a ft):MW X (.BoolOp .And [a] pos) ft:=Zq9 ha
theorem zW (ha:MT X a ft):MW X (.BoolOp .Or [a] pos) ft:=Ztd ha
theorem Zep {rest:List Expr} (ha:MT X a ft) (hb:MW X (.BoolOp .And (b::rest) pos) fu):MW X (.BoolOp .And (a::b::rest) pos) (Zho ft fu):=by
  refine PW.imp (Zte ha hb) fun σ H Q h=>?_
  obtain ⟨B,θ,ρ,F,w⟩:=h
  refine Zdl (Zl3 F w) ?_
  rintro k H1 ⟨B1,θ1,E1,F1,w1⟩
  cases k with
  | true=>rw [if_pos rfl] at w1 ⊢; exact ⟨B1,θ1,ρ,F1,w1⟩
  | false=>rw [if_neg Bool.false_ne_true] at w1 ⊢; exact ZO (Rel:=EqB) F1.good rfl w1
theorem Zco {rest:List Expr} (ha:MT X a ft) (hb:MW X (.BoolOp .Or (b::rest) pos) fu):MW X (.BoolOp .Or (a::b::rest) pos) (mOr ft fu):=by
  refine PW.imp (Zu4 ha hb) fun σ H Q h=>?_
  obtain ⟨B,θ,ρ,F,w⟩:=h
  refine Zdl (Zl3 F w) ?_
  rintro k H1 ⟨B1,θ1,E1,F1,w1⟩
  cases k with
  | true=>rw [if_pos rfl] at w1 ⊢; exact ZO (Rel:=EqB) F1.good rfl w1
  | false=>rw [if_neg Bool.false_ne_true] at w1 ⊢; exact ⟨B1,θ1,ρ,F1,w1⟩
theorem MW.mt {e:Expr} {f:TMr} (h:MW X e f):MT X e f:=PW.pt h
theorem Za9 (ha:MT X a ft):MT X (.UnaryOp .Not a pos) (ZdN ft):=by
  refine PT.imp (Ztg ha) fun σ H Q h=>?_
  obtain ⟨B,θ,ρ,F,w⟩:=h
  refine Zdl (Zl3 F w) ?_
  rintro k H1 ⟨B1,θ1,E1,F1,w1⟩
  exact ZO (Rel:=EqB) F1.good rfl w1
def Zbu (f g:EM):EM:=fun ρ θ=>(f ρ θ).bind fun x θ=>match x with
  | .bl true=>g ρ θ
  | .bl false=>.ok (.bl false) θ
  | _=>.bad
def Zm5 (f g:EM):EM:=fun ρ θ=>(f ρ θ).bind fun x θ=>match x with
  | .bl true=>.ok (.bl true) θ
  | .bl false=>g ρ θ
  | _=>.bad
def Zms (f:EM):EM:=fun ρ θ=>(f ρ θ).bind fun x θ=>match ZgK θ x with
  | some k=>.ok (.bl (!k)) θ
  | none=>.bad
theorem Zcd {op} (h:ME X a fa):ME X (.BoolOp op [a] pos) fa:=Ztr h
theorem ZaU {rest:List Expr} (ha:ME X a fa) (hb:ME X (.BoolOp .And (b::rest) pos) fb):ME X (.BoolOp .And (a::b::rest) pos) (Zbu fa fb):=by
  refine PE.imp (Ztv ha hb) fun σ H Q h=>?_
  obtain ⟨B,θ,ρ,F,w⟩:=h
  refine Z5 (step F w) ?_
  rintro v H1 ⟨B1,θ1,x,E1,F1,rx,w1⟩
  cases x with
  | bl k=>
    refine ⟨k,rx,?_⟩
    cases k with
    | true=>rw [if_pos rfl]; exact ⟨B1,θ1,ρ,F1,w1⟩
    | false=>rw [if_neg Bool.false_ne_true]; exact ZO F1.good (show RepV B1 H1 (.bl false) (.bl false) from rfl) w1
  | _=>exact w1.elim
theorem Zmq {rest:List Expr} (ha:ME X a fa) (hb:ME X (.BoolOp .Or (b::rest) pos) fb):ME X (.BoolOp .Or (a::b::rest) pos) (Zm5 fa fb):=by
  refine PE.imp (Zva ha hb) fun σ H Q h=>?_
  obtain ⟨B,θ,ρ,F,w⟩:=h
  refine Z5 (step F w) ?_
  rintro v H1 ⟨B1,θ1,x,E1,F1,rx,w1⟩
  cases x with
  | bl k=>
    refine ⟨k,rx,?_⟩
    cases k with
    | true=>rw [if_pos rfl]; exact ZO F1.good (show RepV B1 H1 (.bl true) (.bl true) from rfl) w1
    | false=>rw [if_neg Bool.false_ne_true]; exact ⟨B1,θ1,ρ,F1,w1⟩
  | _=>exact w1.elim
theorem ZpM (ha:ME X a fa):ME X (.UnaryOp .Not a pos) (Zms fa):=by
  intro pins s σ H Q I h
  obtain ⟨B,θ,ρ,F,w⟩:=h
  refine UnaryOp_ (thn (ha pins s σ H _ I (step F w)) fun v s1 ⟨x,H1,I1,r1,q1⟩=>?_)
  obtain ⟨B1,θ1,d,E1,F1,rx,w1⟩:=q1
  cases e:ZgK θ1 d with
  | none=>rw [e] at w1; exact w1.elim
  | some k=>
    rw [e] at w1
    refine not_of (thn (ZoU pins s1 σ H1 x v (fun k' H'=>Q (.bl (!k')) H') I1 r1 ⟨k,ZlV F1.good rx e,ZO F1.good (show RepV B1 H1 (.bl (!k)) (.bl (!k)) from rfl) w1⟩) fun b s2 ⟨H2,I2,q2⟩=>?_)
    exact ⟨.bl (!b),H2,I2,rfl,q2⟩
def ZfB (t:TMr) (f g:EM):EM:=fun ρ θ=>(t ρ θ).bind fun k θ=>if k=true then f ρ θ else g ρ θ
theorem Zcv {c:Expr} (hc:MT X c ft) (ha:ME X a fa) (hb:ME X b fb):ME X (.IfExp c a b pos) (ZfB ft fa fb):=by
  refine PE.imp (Zpl hc ha hb) fun σ H Q h=>?_
  obtain ⟨B,θ,ρ,F,w⟩:=h
  refine Zdl (Zl3 F w) ?_
  rintro k H1 ⟨B1,θ1,E1,F1,w1⟩
  cases k with
  | true=>rw [if_pos rfl] at w1 ⊢; exact ⟨B1,θ1,ρ,F1,w1⟩
  | false=>rw [if_neg Bool.false_ne_true] at w1 ⊢; exact ⟨B1,θ1,ρ,F1,w1⟩
def Zk:AM:=fun _ θ=>.ok [] θ
def Zc (f:EM) (g:AM):AM:=fun ρ θ=>(f ρ θ).bind fun x θ=>(g ρ θ).bind fun xs θ=>.ok (x::xs) θ
theorem Ze:MA X [] Zk:=PA.imp ZlA fun σ H Q h=>by
  obtain ⟨B,θ,ρ,F,w⟩:=h
  exact ZO (Rel:=RepL) F.good (show RepL B H [] [] from rfl) w
theorem Za {es:List Expr} {fs:AM} (ha:ME X e fa) (hr:MA X es fs) (hs:starEach (e::es) X.env=(false,eval e X.env)::starEach es X.env:=by rfl):MA X (e::es) (Zc fa fs):=by
  refine PA.imp (ZiN ha hr hs) fun σ H Q h=>?_
  obtain ⟨B,θ,ρ,F,w⟩:=h
  refine Z5 (step F w) ?_
  rintro x' H1 ⟨B1,θ1,x,E1,F1,rx,w1⟩
  refine ZbN (Zhe F1 w1) ?_
  rintro xs' H2 ⟨B2,θ2,xs,E2,F2,rxs,w2⟩
  exact ZO (Rel:=RepL) F2.good (show RepL B2 H2 (x::xs) (x'::xs') from ⟨x',xs',rfl,rx.ext E2.toExtS,rxs⟩) w2
def Zaa (f:AM):EM:=fun ρ θ=>(f ρ θ).bind fun xs θ=>if xs.length≤BIG then .ok (.tup xs) θ else .bad
def ZaC (f:AM):EM:=fun ρ θ=>(f ρ θ).bind fun xs θ=>if xs.length≤BIG then .ok (.lst xs) θ else .bad
theorem Zg5 {σ:St} {B:Bx} {θ:Sto} {H:Hp} {xs:List D} {vs:List V} {Q:VK} (G:Good X.cl B θ H) (r:RepL B H xs vs) (w:wpR X σ RepV B H (.ok (.tup xs) θ) Q):∀p,H p=none→Q (.ref p) (upd H p (.tup vs)):=
  fun p hp=>w B _ _ (ZcI G hp _) (Zet G hp _) (Zq5 G hp r)
theorem Ze5 {σ:St} {B:Bx} {θ:Sto} {H:Hp} {xs:List D} {vs:List V} {Q:VK} (G:Good X.cl B θ H) (r:RepL B H xs vs) (w:wpR X σ RepV B H (.ok (.lst xs) θ) Q):∀p,H p=none→Q (.ref p) (upd H p (.lst vs)):=
  fun p hp=>w B _ _ (ZcI G hp _) (Zet G hp _) (Zq6 G hp r)
theorem ZZ {es:List Expr} {fs:AM} {x1} (h:MA X es fs):ME X (.Tuple es x1 pos) (Zaa fs):=by
  refine PE.imp (Ztp h) fun σ H Q h=>?_
  obtain ⟨B,θ,ρ,F,w⟩:=h
  refine ZbN (Zhe F w) ?_
  rintro xs' H2 ⟨B2,θ2,xs,E2,F2,rxs,w2⟩
  split at w2
  · rename_i hz
    exact ⟨by rw [rxs.len]; exact Zaq hz,Zg5 F2.good rxs w2⟩
  · exact w2.elim
theorem zo {es:List Expr} {fs:AM} (h:MA X es fs):ME X (.List es pos) (ZaC fs):=by
  refine PE.imp (Zpk h) fun σ H Q h=>?_
  obtain ⟨B,θ,ρ,F,w⟩:=h
  refine ZbN (Zhe F w) ?_
  rintro xs' H2 ⟨B2,θ2,xs,E2,F2,rxs,w2⟩
  split at w2
  · rename_i hz
    exact ⟨by rw [rxs.len]; exact Zaq hz,Ze5 F2.good rxs w2⟩
  · exact w2.elim
abbrev GM:=List D→Sto→R D
def mCB (g:GM) (f:AM):EM:=fun ρ θ=>(f ρ θ).bind fun xs θ=>g xs θ
def rC (X:Cx) (g:GM):List V→Hp→VK→Prop:=fun xs H Q=>∃σ B θ ds,Good X.cl B θ H∧RepL B H ds xs∧wpR X σ RepV B H (g ds θ) Q
theorem Zsi {g:GM} {fs:AM} (σ:St) (H:Hp) (Q:VK) (h:tM X (mCB g fs) σ H Q):tCB (rC X g) (tMA X fs) σ H Q:=by
  obtain ⟨B,θ,ρ,F,w⟩:=h
  refine ZbN (Zhe F w) ?_
  rintro xs' H2 ⟨B2,θ2,xs,E2,F2,rxs,w2⟩
  exact ⟨σ,B2,θ2,xs,F2.good,rxs,w2⟩
theorem zb {x:Str} {id:String} {p:Pos} {es:List Expr} {fs:AM} {g:GM} (hc:CallR X (.builtin id) (rC X g)) (hm:X.mg x=none) (hv:bootBuiltins x=some (.builtin id)) (ha:MA X (e::es) fs) (hg:Gl X x:=by rfl) (hn:x≠"__name__":=by decide) (hdb:(x == ("__debug__":Str))=false:=by decide)
    (he:starEach (e::es) X.env=(false,eval e X.env)::starEach es X.env:=by rfl) (hpl:(backTo pos (starEach es X.env)).any (·.1)=false:=by rfl):ME X (.Call (.Name x p) (e::es) [] pos) (mCB g fs):=
  PE.imp (Zpr hc hg hm hv ha hn hdb he hpl) Zsi
theorem Zce {x:Str} {T:String} {p:Pos} {es:List Expr} {fs:AM} {g:GM} (hc:CallR X (.type T) (rC X g)) (hm:X.mg x=none) (hv:bootBuiltins x=some (.type T)) (ha:MA X (e::es) fs) (hg:Gl X x:=by rfl) (hn:x≠"__name__":=by decide) (hdb:(x == ("__debug__":Str))=false:=by decide)
    (he:starEach (e::es) X.env=(false,eval e X.env)::starEach es X.env:=by rfl) (hpl:(backTo pos (starEach es X.env)).any (·.1)=false:=by rfl):ME X (.Call (.Name x p) (e::es) [] pos) (mCB g fs):=
  PE.imp (Zm0 hc hg hm hv ha hn hdb he hpl) Zsi
end
end
end L2.MM
namespace L2.MM
open PySem PySem.Spec PyProof.Rows PySem.SeqAt
noncomputable section
variable {X:Cx}
section
open Classical in
def opI (C:Int→Int→Prop) (g:Int→Int→D):OM:=fun x y θ=>match x,y with
  | .int i,.int j=>if C i j then .ok (g i j) θ else .bad
  | _,_=>.bad
open Classical in
@[simp] theorem Zme (C:Int→Int→Prop) (g:Int→Int→D) (i j:Int) (θ:Sto):opI C g (.int i) (.int j) θ=if C i j then .ok (g i j) θ else .bad:=nr rfl
open Classical in
theorem Zem {f:Value→Value→Sem Value} {C:Int→Int→Prop} {g:Int→Int→D} {gV:Int→Int→V} (h:OpR X f (rI C gV)) (r:∀B H i j,RepV B H (g i j) (gV i j)):OpR X f (rM X (opI C g)):=by
  refine OpR.imp h fun x y H Q q=>?_
  obtain ⟨σ,B,θ,d,e,G,rd,re,w⟩:=q
  unfold opI at w
  split at w
  · rename_i i j
    split at w
    · rename_i hc
      exact ⟨i,j,rd,re,hc,ZO G (r B H i j) w⟩
    · exact w.elim
  · exact w.elim
theorem Zib {f:Value→Value→Sem Value} {g:Int→Int→V} (h:OpR X f (rI0 g)):OpR X f (rI (fun _ _=>True) g):=OpR.imp h fun x y H Q ⟨i,j,a,b,_,q⟩=>⟨i,j,a,b,q⟩
abbrev ZfW:OM:=opI (fun _ _=>True) fun i j=>.int (i-j)
abbrev Zfe:OM:=opI (fun _ j=>0<j∧j<18446744073709551616) fun i j=>.int (i/j)
abbrev Zba:OM:=opI (fun _ j=>0<j) fun i j=>.int (i % j)
abbrev ZvR:OM:=opI (fun _ _=>True) fun i j=>.int (Builtin.bitAnd i j)
abbrev ltM:OM:=opI (fun _ _=>True) fun i j=>.bl (decide (i<j))
abbrev leM:OM:=opI (fun _ _=>True) fun i j=>.bl (decide (i≤j))
abbrev gtM:OM:=opI (fun _ _=>True) fun i j=>.bl (decide (j<i))
abbrev geM:OM:=opI (fun _ _=>True) fun i j=>.bl (decide (j≤i))
theorem Zeo:OpR X (binaryOp .Sub) (rM X ZfW):=Zem (Zib Ztx) fun _ _ _ _=>rfl
theorem Zd2:OpR X (binaryOp .FloorDiv) (rM X Zfe):=Zem (OpR.imp Zpt fun x y H Q ⟨i,j,a,b,c,q⟩=>⟨i,j,a,b,⟨c.1,by
  have h:j.natAbs<2 ^ 64:=by have:=c.1; have:=c.2; omega
  have h0:j.natAbs≠0:=by have:=c.1; omega
  have:=(Nat.log2_lt h0).mpr h
  omega⟩,q⟩) fun _ _ _ _=>rfl
theorem ZaG:OpR X (binaryOp .Mod) (rM X Zba):=Zem ZtA fun _ _ _ _=>rfl
theorem Zvo:OpR X (binaryOp .BitAnd) (rM X ZvR):=Zem (Zib ZtE) fun _ _ _ _=>rfl
theorem ZtH:OpR X (compareOp .Lt) (rM X ltM):=Zem (Zib Zvj) fun _ _ i j=>by show _=V.bl _; congr
theorem Zhj:OpR X (compareOp .LtE) (rM X leM):=Zem (Zib Zvk) fun _ _ i j=>by show _=V.bl _; congr
theorem ZhX:OpR X (compareOp .Gt) (rM X gtM):=Zem (Zib Zvl) fun _ _ i j=>by show _=V.bl _; congr
theorem Zrt:OpR X (compareOp .GtE) (rM X geM):=Zem (Zib Zvm) fun _ _ i j=>by show _=V.bl _; congr
def ZV:OM:=fun x y θ=>match x,y with
  | .int i,.int j=>.ok (.int (i+j)) θ
  | .str i,.str j=>if i.length+j.length≤BIG then .ok (.str (i++j)) θ else .bad
  | .tup xs,.tup ys=>if xs.isEmpty=false∧xs.length+ys.length≤BIG then .ok (.tup (xs++ys)) θ else .bad
  | x,y=>match ZaR θ x,ZaR θ y with
    | some xs,some ys=>if xs.length+ys.length≤BIG then .ok (.lst (xs++ys)) θ else .bad
    | _,_=>.bad
@[simp] theorem ZqB (i j:Int) (θ:Sto):ZV (.int i) (.int j) θ=.ok (.int (i+j)) θ:=nr rfl
@[simp] theorem ZqA (xs ys:List D) (θ:Sto):ZV (.lst xs) (.lst ys) θ=if xs.length+ys.length≤BIG then .ok (.lst (xs++ys)) θ else .bad:=nr rfl
@[simp] theorem ZvS (xs ys:List D) (θ:Sto):ZV (.tup xs) (.tup ys) θ=if xs.isEmpty=false∧xs.length+ys.length≤BIG then .ok (.tup (xs++ys)) θ else .bad:=nr rfl
theorem ZM:OpR X (binaryOp .Add) (rM X ZV):=by
  refine OpR.imp (op_add.or (op_add_str.or (op_catT.or ZtD))) fun x y H Q q=>?_
  obtain ⟨σ,B,θ,d,e,G,rd,re,w⟩:=q
  unfold ZV at w
  split at w
  · exact .inl ⟨_,_,rd,re,ZO G (show RepV B H (.int _) (.int _) from rfl) w⟩
  · split at w
    · rename_i hz
      exact .inr (.inl ⟨_,_,rd,re,Zaq hz,ZO G (show RepV B H (.str _) (.str _) from rfl) w⟩)
    · exact w.elim
  · split at w
    · rename_i xs ys hz
      obtain ⟨a,vs,rfl,h1,k1,l1⟩:=rd
      obtain ⟨b,us,rfl,h2,k2,l2⟩:=re
      refine .inr (.inr (.inl ⟨a,b,vs,us,rfl,rfl,SqT.of h1,SqT.of h2,?_,?_,fun z=>?_,fun _=>Zg5 G (l1.app l2) w⟩))
      · intro z
        have:=l1.emp
        rw [z,hz.1] at this
        simp at this
      · rw [l1.len,l2.len]; exact Zaq hz.2
      · have e0:ys=[]:=by
          have:=l2.emp
          rw [z] at this
          cases ys with
          | nil=>rfl
          | cons _ _=>simp at this
        subst e0
        rw [List.append_nil] at w
        exact ZO G (show RepV B H (.tup xs) (.ref a) from ⟨a,vs,rfl,h1,k1,l1⟩) w
    · exact w.elim
  · split at w
    · rename_i xs ys e1 e2
      split at w
      · rename_i hz
        obtain ⟨a,vs,rfl,h1,l1⟩:=Zaf G rd e1
        obtain ⟨b,us,rfl,h2,l2⟩:=Zaf G re e2
        exact .inr (.inr (.inr ⟨a,b,vs,us,rfl,rfl,h1,h2,by rw [l1.len,l2.len]; exact Zaq hz,Ze5 G (l1.app l2) w⟩))
      · exact w.elim
    · exact w.elim
def ZeL (i j:Int):Prop:=(-18446744073709551616<i∧i<18446744073709551616)∨(-18446744073709551616<j∧j<18446744073709551616)
instance {i j:Int}:Decidable (ZeL i j):=by unfold ZeL; infer_instance
def ZcW:OM:=fun x y θ=>match x,y with
  | .int i,.int j=>if ZeL i j then .ok (.int (i*j)) θ else .bad
  | .tup xs,.int k=>if xs.isEmpty=false∧0≤k∧k<1000∧(xs.length:Int)*k≤1000 then .ok (.tup (List.replicate k.toNat xs).flatten) θ else .bad
  | x,.int k=>match ZaR θ x with
    | some xs=>if -1000000≤k∧k≤1000000∧xs.length*k.toNat≤BIG then .ok (.lst (List.replicate k.toNat xs).flatten) θ else .bad
    | _=>.bad
  | _,_=>.bad
@[simp] theorem ZpF (i j:Int) (θ:Sto):ZcW (.int i) (.int j) θ=if ZeL i j then .ok (.int (i*j)) θ else .bad:=nr rfl
theorem RepL.rep {B:Bx} {H:Hp} {xs:List D} {vs:List V} (r:RepL B H xs vs):∀k:Nat,RepL B H (List.replicate k xs).flatten (List.replicate k vs).flatten
  | 0=>rfl
  | k+1=>by
    rw [List.replicate_succ,List.replicate_succ,List.flatten_cons,List.flatten_cons]
    exact r.app (RepL.rep r k)
theorem ZcC:OpR X (binaryOp .Mult) (rM X ZcW):=by
  refine OpR.imp (op_mul.or (op_repT.or Zty)) fun x y H Q q=>?_
  obtain ⟨σ,B,θ,d,e,G,rd,re,w⟩:=q
  unfold ZcW at w
  split at w
  · split at w
    · rename_i hc
      exact .inl ⟨_,_,rd,re,hc.imp (fun h=>⟨by have:=h.1; omega,by have:=h.2; omega⟩) (fun h=>⟨by have:=h.1; omega,by have:=h.2; omega⟩),ZO G (show RepV B H (.int _) (.int _) from rfl) w⟩
    · exact w.elim
  · split at w
    · rename_i xs k hz
      obtain ⟨a,vs,rfl,h1,k1,l1⟩:=rd
      obtain ⟨z1,z2,z3,z4⟩:=hz
      refine .inr (.inl ⟨a,k,vs,rfl,re,SqT.of h1,?_,z2,z3,by rw [l1.len]; exact z4,fun z=>?_,fun _=>Zg5 G (l1.rep _) w⟩)
      · intro z
        have:=l1.emp
        rw [z,z1] at this
        simp at this
      · subst z
        have e0:(List.replicate (1:Int).toNat xs).flatten=xs:=by simp
        rw [e0] at w
        exact ZO G (show RepV B H (.tup xs) (.ref a) from ⟨a,vs,rfl,h1,k1,l1⟩) w
    · exact w.elim
  · split at w
    · rename_i xs e1
      split at w
      · rename_i hz
        obtain ⟨a,vs,rfl,h1,l1⟩:=Zaf G rd e1
        exact .inr (.inr ⟨a,_,vs,rfl,re,h1,by have:=hz.1; omega,by have:=hz.2.1; omega,by rw [l1.len]; exact Zaq hz.2.2,Ze5 G (l1.rep _) w⟩)
      · exact w.elim
    · exact w.elim
  · exact w.elim
def ZpQ (f:EM):EM:=fun ρ θ=>(f ρ θ).bind fun x θ=>match x with
  | .int i=>.ok (.int (-i)) θ
  | _=>.bad
theorem ZtJ {a:Expr} {fa:EM} {pos:Pos} (ha:ME X a fa):ME X (.UnaryOp .USub a pos) (ZpQ fa):=by
  refine PE.imp (Zu8 ZsK ha) fun σ H Q h=>?_
  obtain ⟨B,θ,ρ,F,w⟩:=h
  refine Z5 (step F w) ?_
  rintro v H1 ⟨B1,θ1,x,E1,F1,rx,w1⟩
  cases x with
  | int i=>exact ⟨i,rx,ZO F1.good (show RepV B1 H1 (.int (-i)) (.int (-i)) from rfl) w1⟩
  | _=>exact w1.elim
mutual
def dat:D→PyData
  | .bl b=>.bool b
  | .int i=>.int i
  | .str x=>.str x
  | .tup xs=>.tuple (Zeu xs)
  | .lst xs=>.list (Zeu xs)
  | _=>.none
def Zeu:List D→List PyData
  | []=>[]
  | d::r=>dat d::Zeu r
end
mutual
def plain:D→Bool
  | .non=>true
  | .bl _=>true
  | .int _=>true
  | .str _=>true
  | .tup xs=>ZbP xs
  | .lst xs=>ZbP xs
  | _=>false
def ZbP:List D→Bool
  | []=>true
  | d::r=>plain d && ZbP r
end
mutual
theorem rdv {B:Bx} {H:Hp} {K:PySem.W.Frag}:∀{d:D} {v:V},plain d=true→RepV B H d v→RdV K H v (dat d)
  | .non,_,_,r=>by cases (show _=V.non from r); exact .non
  | .bl b,_,_,r=>by cases (show _=V.bl b from r); exact .bl b
  | .int i,_,_,r=>by cases (show _=V.int i from r); exact .int i
  | .str x,_,_,r=>by cases (show _=V.str x from r); exact .str x
  | .tup xs,_,p,r=>by
    obtain ⟨a,vs,rfl,h,_,l⟩:=r
    exact .tup (SqT.of h) (Zq7 p l)
  | .lst xs,_,p,r=>by
    obtain ⟨a,vs,rfl,h,_,l⟩:=r
    exact .lst (SqL.of h) (Zq7 p l)
  | .ty _,_,p,_=>nomatch p
  | .scr _,_,p,_=>nomatch p
  | .ref _,_,p,_=>nomatch p
theorem Zq7 {B:Bx} {H:Hp} {K:PySem.W.Frag}:∀{ds:List D} {vs:List V},ZbP ds=true→RepL B H ds vs→RdVs K H vs (Zeu ds)
  | [],_,_,r=>by cases (show _=[] from r); exact .nil
  | d::ds,_,p,r=>by
    obtain ⟨v,q,rfl,hv,hq⟩:=r
    have p':plain d=true∧ZbP ds=true:=by simpa [ZbP] using p
    exact .cons (rdv p'.1 hv) (Zq7 p'.2 hq)
end
mutual
theorem ZkC:∀{d e:D},plain d=true→plain e=true→(same (dat d) (dat e)=true↔d=e):=fun {d e} p q=>by
  cases d with
  | ty _=>exact nomatch p
  | scr _=>exact nomatch p
  | ref _=>exact nomatch p
  | non=>cases e<;>simp_all [plain,dat,same]
  | bl _=>cases e<;>simp_all [plain,dat,same]
  | int _=>cases e<;>simp_all [plain,dat,same]
  | str _=>cases e<;>simp_all [plain,dat,same]
  | tup xs=>
    cases e with
    | tup ys=>
      simp only [dat,same,D.tup.injEq]
      exact ZfY p q
    | ty _=>exact nomatch q
    | scr _=>exact nomatch q
    | ref _=>exact nomatch q
    | _=>simp [dat,same]
  | lst xs=>
    cases e with
    | lst ys=>
      simp only [dat,same,D.lst.injEq]
      exact ZfY p q
    | ty _=>exact nomatch q
    | scr _=>exact nomatch q
    | ref _=>exact nomatch q
    | _=>simp [dat,same]
theorem ZfY:∀{ds es:List D},ZbP ds=true→ZbP es=true→(sameAll (Zeu ds) (Zeu es)=true↔ds=es)
  | [],[],_,_=>by simp [Zeu,sameAll]
  | [],_::_,_,_=>by simp [Zeu,sameAll]
  | _::_,[],_,_=>by simp [Zeu,sameAll]
  | d::ds,e::es,p,q=>by
    have p':plain d=true∧ZbP ds=true:=by simpa [ZbP] using p
    have q':plain e=true∧ZbP es=true:=by simpa [ZbP] using q
    simp only [Zeu,sameAll,Bool.and_eq_true,List.cons.injEq]
    rw [ZkC p'.1 q'.1,ZfY p'.2 q'.2]
end
def look (θ:Sto) (d:D):D:=match d with
  | .ref l=>match θ[l]? with
    | some (.lst xs)=>.lst xs
    | _=>.ref l
  | d=>d
theorem ZfD {B:Bx} {θ:Sto} {H:Hp} {K:PySem.W.Frag} (G:Good X.cl B θ H) {d:D} {v:V} (r:RepV B H d v) (p:plain (look θ d)=true):RdV K H v (dat (look θ d)):=by
  cases d with
  | ref l=>
    unfold look at p ⊢
    simp only at p ⊢
    split at p
    · rename_i xs e
      obtain ⟨hl,rfl⟩:=r
      obtain ⟨vs,h1,h2⟩:=G.cel l _ e
      exact .lst (SqL.of h1) (Zq7 p h2)
    · exact nomatch p
  | _=>exact rdv p r
structure Zln (x y:D):Prop where
  px:plain x=true
  py:plain y=true
  sx:shaped (dat x)=true
  sy:shaped (dat y)=true
  nm:noMix (dat x) (dat y)=true
open Classical in
def eqM:OM:=fun x y θ=>if Zln (look θ x) (look θ y) then .ok (.bl (decide (look θ x=look θ y))) θ else .bad
open Classical in
def neM:OM:=fun x y θ=>if Zln (look θ x) (look θ y) then .ok (.bl (!decide (look θ x=look θ y))) θ else .bad
open Classical in
theorem ZkD {d e:D} (p:plain d=true) (q:plain e=true):same (dat d) (dat e)=decide (d=e):=by
  rw [Bool.eq_iff_iff,ZkC p q,decide_eq_true_iff]
open Classical in
theorem zO (hu:X.A.units+64<cLine):OpR X (compareOp .Eq) (rM X eqM):=by
  refine OpR.imp (ZtC hu) fun x y H Q q=>?_
  obtain ⟨σ,B,θ,d,e,G,rd,re,w⟩:=q
  unfold eqM at w
  split at w
  · rename_i c
    refine ⟨_,_,ZfD G rd c.px,ZfD G re c.py,c.sx,c.sy,c.nm,?_⟩
    rw [ZkD c.px c.py]
    exact ZO G (show RepV B H (.bl _) (.bl _) from rfl) w
  · exact w.elim
open Classical in
theorem Zdq (hu:X.A.units+64<cLine):OpR X (compareOp .NotEq) (rM X neM):=by
  refine OpR.imp (Ztz hu) fun x y H Q q=>?_
  obtain ⟨σ,B,θ,d,e,G,rd,re,w⟩:=q
  unfold neM at w
  split at w
  · rename_i c
    refine ⟨_,_,ZfD G rd c.px,ZfD G re c.py,c.sx,c.sy,c.nm,?_⟩
    rw [ZkD c.px c.py]
    exact ZO G (show RepV B H (.bl _) (.bl _) from rfl) w
  · exact w.elim
def Zi8:List D→Bool
  | []=>true
  | .int _::r=>Zi8 r
  | _=>false
def ZhP:List D→Bool
  | []=>true
  | .str _::r=>ZhP r
  | _=>false
def memI (i:Int):List D→Bool
  | .int j::r=>decide (j=i) || memI i r
  | _=>false
def memS (x:Str):List D→Bool
  | .str y::r=>decide (y=x) || memS x r
  | _=>false
def inD (θ:Sto) (x y:D):Option Bool:=match seqOf θ y with
  | none=>none
  | some ys=>match x with
    | .int i=>if Zi8 ys=true then some (memI i ys) else none
    | .str z=>if ZhP ys=true then some (memS z ys) else none
    | _=>none
def inM:OM:=fun x y θ=>match inD θ x y with
  | some k=>.ok (.bl k) θ
  | none=>.bad
def ZcV:OM:=fun x y θ=>match inD θ x y with
  | some k=>.ok (.bl (!k)) θ
  | none=>.bad
theorem ZgJ {B:Bx} {H:Hp}:∀{ys:List D} {vs:List V},Zi8 ys=true→RepL B H ys vs→vs.all Zc8=true∧∀i:Int,inV (.int i) vs=memI i ys
  | [],_,_,r=>by cases (show _=[] from r); exact ⟨rfl,fun _=>rfl⟩
  | d::ys,_,h,r=>by
    cases d with
    | int j=>
      obtain ⟨v,q,rfl,hv,hq⟩:=r
      cases (show v=V.int j from hv)
      obtain ⟨h1,h2⟩:=ZgJ (show Zi8 ys=true from h) hq
      refine ⟨by simp [Zc8] at h1 ⊢; exact h1,fun i=>?_⟩
      have:=h2 i
      unfold inV at this ⊢
      rw [List.any_cons,this]
      show (j == i || memI i ys)=(decide (j=i) || memI i ys)
      rw [Bool.beq_eq_decide_eq]
    | _=>exact nomatch h
theorem ZgI {B:Bx} {H:Hp}:∀{ys:List D} {vs:List V},ZhP ys=true→RepL B H ys vs→vs.all Zc8=true∧∀i:Str,inV (.str i) vs=memS i ys
  | [],_,_,r=>by cases (show _=[] from r); exact ⟨rfl,fun _=>rfl⟩
  | d::ys,_,h,r=>by
    cases d with
    | str j=>
      obtain ⟨v,q,rfl,hv,hq⟩:=r
      cases (show v=V.str j from hv)
      obtain ⟨h1,h2⟩:=ZgI (show ZhP ys=true from h) hq
      refine ⟨by simp [Zc8] at h1 ⊢; exact h1,fun i=>?_⟩
      have:=h2 i
      unfold inV at this ⊢
      rw [List.any_cons,this]
      show (j == i || memS i ys)=(decide (j=i) || memS i ys)
      rw [Bool.beq_eq_decide_eq]
    | _=>exact nomatch h
theorem ZpY {cl:Mo} {B:Bx} {θ:Sto} {H:Hp} (G:Good cl B θ H) {d e:D} {x y:V} {k:Bool} (rd:RepV B H d x) (re:RepV B H e y) (h:inD θ d e=some k) :
    ∃p xs,y=.ref p∧(SqL cl.K H p xs∨SqT cl.K H p xs)∧Zc8 x=true∧xs.all Zc8=true∧inV x xs=k:=by
  unfold inD at h
  split at h
  · cases h
  · rename_i ys e1
    obtain ⟨a,vs,rfl,h1,h2⟩:=ZcQ G re e1
    split at h
    · split at h
      · rename_i i hz
        cases h
        cases (show x=V.int i from rd)
        obtain ⟨q1,q2⟩:=ZgJ hz h2
        exact ⟨a,vs,rfl,h1,rfl,q1,q2 i⟩
      · cases h
    · split at h
      · rename_i i hz
        cases h
        cases (show x=V.str i from rd)
        obtain ⟨q1,q2⟩:=ZgI hz h2
        exact ⟨a,vs,rfl,h1,rfl,q1,q2 i⟩
      · cases h
    · cases h
theorem ZkO:OpR X (compareOp .In) (rM X inM):=by
  refine OpR.imp Zm1 fun x y H Q q=>?_
  obtain ⟨σ,B,θ,d,e,G,rd,re,w⟩:=q
  unfold inM at w
  split at w
  · rename_i k e1
    obtain ⟨p,xs,h1,h2,h3,h4,h5⟩:=ZpY G rd re e1
    exact ⟨p,xs,h1,h2,h3,h4,by rw [h5]; exact ZO G (show RepV B H (.bl _) (.bl _) from rfl) w⟩
  · exact w.elim
theorem ZgT:OpR X (compareOp .NotIn) (rM X ZcV):=by
  refine OpR.imp ZiO fun x y H Q q=>?_
  obtain ⟨σ,B,θ,d,e,G,rd,re,w⟩:=q
  unfold ZcV at w
  split at w
  · rename_i k e1
    obtain ⟨p,xs,h1,h2,h3,h4,h5⟩:=ZpY G rd re e1
    exact ⟨p,xs,h1,h2,h3,h4,by rw [h5]; exact ZO G (show RepV B H (.bl _) (.bl _) from rfl) w⟩
  · exact w.elim
def Zcr:D→Bool
  | .non=>true
  | _=>false
theorem Zk0 {B:Bx} {H:Hp} {d:D} {v:V} (r:RepV B H d v):Zcr d=decide (v=.non):=by
  cases d with
  | non=>cases (show v=.non from r); simp [Zcr]
  | bl b=>cases (show v=.bl b from r); simp [Zcr]
  | int i=>cases (show v=.int i from r); simp [Zcr]
  | str x=>cases (show v=.str x from r); simp [Zcr]
  | ty n=>cases (show v=.ty n from r); simp [Zcr]
  | scr ns=>obtain ⟨a,rfl,_⟩:=r; simp [Zcr]
  | tup xs=>obtain ⟨a,o,rfl,_⟩:=r; simp [Zcr]
  | lst xs=>obtain ⟨a,o,rfl,_⟩:=r; simp [Zcr]
  | ref l=>obtain ⟨_,rfl⟩:=r; simp [Zcr]
def isM:OM:=fun x y θ=>match y with
  | .non=>.ok (.bl (Zcr x)) θ
  | .bl c=>match x with
    | .bl b=>.ok (.bl (b == c)) θ
    | _=>.bad
  | _=>.bad
def Zga:OM:=fun x y θ=>match y with
  | .non=>.ok (.bl (!Zcr x)) θ
  | .bl c=>match x with
    | .bl b=>.ok (.bl (!(b == c))) θ
    | _=>.bad
  | _=>.bad
theorem ZtB:OpR X (compareOp .Is) (fun x y H Q=>∃b c:Bool,x=.bl b∧y=.bl c∧Q (.bl (b == c)) H):=by
  intro pins s σ H x y v u Q I rx ry h
  obtain ⟨b,c,rfl,rfl,q⟩:=h
  cases rx
  cases ry
  have e:(Value.bool b == Value.bool c)=(b == c):=by cases b<;>cases c<;>rfl
  exact wpAny_is_plain rfl ⟨.bl _,H,I,rfl,by rw [e]; exact q⟩
theorem ZpA:OpR X (compareOp .Is) (rM X isM):=by
  refine OpR.imp (op_isN.or ZtB) fun x y H Q q=>?_
  obtain ⟨σ,B,θ,d,e,G,rd,re,w⟩:=q
  unfold isM at w
  split at w
  · refine .inl ⟨re,?_⟩
    have q:=ZO G (show RepV B H (.bl _) (.bl _) from rfl) w
    rw [Zk0 rd] at q
    exact q
  · split at w
    · exact .inr ⟨_,_,rd,re,ZO G (show RepV B H (.bl _) (.bl _) from rfl) w⟩
    · exact w.elim
  · exact w.elim
theorem Zmj:OpR X (compareOp .IsNot) (rM X Zga):=by
  refine OpR.imp (op_notN.or Zrq) fun x y H Q q=>?_
  obtain ⟨σ,B,θ,d,e,G,rd,re,w⟩:=q
  unfold Zga at w
  split at w
  · refine .inl ⟨re,?_⟩
    have q:=ZO G (show RepV B H (.bl _) (.bl _) from rfl) w
    rw [Zk0 rd] at q
    exact q
  · split at w
    · exact .inr ⟨_,_,rd,re,ZO G (show RepV B H (.bl _) (.bl _) from rfl) w⟩
    · exact w.elim
  · exact w.elim
end
end
end L2.MM
namespace L2.MM
open PySem PySem.Spec PyProof.Rows PySem.SeqAt
noncomputable section
variable {X:Cx}
section
def ixD (θ:Sto) (x:D) (i:Int):Option D:=match x with
  | .str z=>if z.length≤BIG then (atI z.cps.toList i).map fun c=>.str ⟨#[c]⟩ else none
  | x=>(seqOf θ x).bind (atI · i)
def ixM:OM:=fun x y θ=>match y with
  | .int i=>match ixD θ x i with
    | some d=>.ok d θ
    | none=>.bad
  | _=>.bad
theorem RepL.atI {B:Bx} {H:Hp} {xs:List D} {vs:List V} {i:Int} {d:D} (r:RepL B H xs vs) (h:atI xs i=some d):∃v,atI vs i=some v∧RepV B H d v:=by
  unfold L2.atI at h ⊢
  rw [r.len]
  cases e:ixN xs.length i with
  | none=>rw [e] at h; cases h
  | some j=>
    rw [e] at h
    exact r.get h
theorem ZB:IxR X (rM X ixM):=by
  refine IxR.imp ZtP fun x y H Q q=>?_
  obtain ⟨σ,B,θ,d,e,G,rd,re,w⟩:=q
  unfold ixM at w
  split at w
  · rename_i i
    split at w
    · rename_i r e1
      have sq:(seqOf θ d).bind (L2.atI · i)=some r→rIx X.K x y H Q:=fun h=>by
        cases e2:seqOf θ d with
        | none=>rw [e2] at h; cases h
        | some xs=>
          rw [e2] at h
          obtain ⟨a,vs,rfl,h1,h2⟩:=ZcQ G rd e2
          obtain ⟨v,h3,h4⟩:=h2.atI h
          have q:=ZO G h4 w
          rcases h1 with h1 | h1
          · exact .inl ⟨a,vs,i,v,rfl,re,h1,h3,q⟩
          · exact .inr (.inl ⟨a,vs,i,v,rfl,re,h1,h3,q⟩)
      cases d with
      | str z=>
        simp only [ixD] at e1
        split at e1
        · rename_i hz
          cases e2:L2.atI z.cps.toList i with
          | none=>rw [e2] at e1; cases e1
          | some c=>
            rw [e2] at e1
            cases e1
            exact .inr (.inr ⟨z,i,c,rd,re,Zaq hz,e2,ZO G (show RepV B H (.str _) (.str _) from rfl) w⟩)
        · cases e1
      | non=>exact sq e1
      | bl _=>exact sq e1
      | int _=>exact sq e1
      | ty _=>exact sq e1
      | scr _=>exact sq e1
      | tup _=>exact sq e1
      | lst _=>exact sq e1
      | ref _=>exact sq e1
    · exact w.elim
  · exact w.elim
abbrev PM:=List Sl→Sto→R (Option Int)
def EqO (_:Bx) (_:Hp) (a b:Option Int):Prop:=a=b
def tMO (X:Cx) (f:PM):TO:=fun σ H Q=>∃B θ ρ,Frm X.cl B θ ρ σ H∧wpR X σ EqO B H (f ρ θ) Q
def MO (X:Cx) (e:Option Expr) (f:PM):Prop:=PO X e (tMO X f)
theorem Zed {f:PM} {σ:St} {H:Hp} {Q Q':Option Int→Hp→Prop} (h:tMO X f σ H Q) (hQ:∀v H',Q v H'→Q' v H'):tMO X f σ H Q':=let ⟨B,θ,ρ,F,w⟩:=h; ⟨B,θ,ρ,F,w.mono hQ⟩
theorem ZkB {σ:St} {H:Hp} {γ δ:Type} {Rel':Bx→Hp→γ→δ→Prop} {B:Bx} {θ:Sto} {ρ:List Sl} {f:PM} {k:Option Int→Sto→R γ} {Q:δ→Hp→Prop} (F:Frm X.cl B θ ρ σ H) (h:wpR X σ Rel' B H ((f ρ θ).bind k) Q) :
    tMO X f σ H (fun c H1=>∃B1 θ1,ExtE B B1 H H1∧Frm X.cl B1 θ1 ρ σ H1∧wpR X σ Rel' B1 H1 (k c θ1) Q):=
  ⟨B,θ,ρ,F,(wpR.bind (Rel:=EqO) h).mono fun v H1 ⟨B1,θ1,d,E,G,r,w⟩=>by cases (show d=v from r); exact ⟨B1,θ1,E,F.ext E G,w⟩⟩
def ZaV:PM:=fun _ θ=>.ok none θ
def Zbt (f:EM):PM:=fun ρ θ=>(f ρ θ).bind fun x θ=>match x with
  | .int i=>.ok (some i) θ
  | _=>.bad
theorem PO.imp {e:Option Expr} {t t':TO} (h:PO X e t) (hi:∀σ H Q,t' σ H Q→t σ H Q):PO X e t':=fun pins s σ H Q I q=>h pins s σ H Q I (hi σ H Q q)
theorem ZbS:MO X none ZaV:=PO.imp Zrh fun σ H Q h=>by
  obtain ⟨B,θ,ρ,F,w⟩:=h
  exact ZO (Rel:=EqO) F.good rfl w
theorem Zal {e:Expr} {f:EM} (h:ME X e f):MO X (some e) (Zbt f):=PO.imp (Zrg h) fun σ H Q h=>by
  obtain ⟨B,θ,ρ,F,w⟩:=h
  refine Z5 (step F w) ?_
  rintro v H1 ⟨B1,θ1,x,E1,F1,rx,w1⟩
  cases x with
  | int i=>exact ⟨i,rx,ZO (Rel:=EqO) F1.good rfl w1⟩
  | _=>exact w1.elim
def ZbM {α:Type} (xs:List α) (lo hi:Option Int):List α:=(xs.drop (HT.sIx xs.length 0 lo)).take (HT.sIx xs.length xs.length hi-HT.sIx xs.length 0 lo)
theorem RepL.cut {B:Bx} {H:Hp} {xs:List D} {vs:List V} (r:RepL B H xs vs) (lo hi:Option Int):RepL B H (ZbM xs lo hi) (Zla vs lo hi):=by
  unfold ZbM Zla
  rw [r.len]
  exact (r.drop _).take _
def Ze8 (θ:Sto) (x:D) (lo hi:Option Int):Option D:=match x with
  | .tup xs=>if HT.sIx xs.length 0 lo=0∧HT.sIx xs.length xs.length hi=xs.length then none else some (.tup (ZbM xs lo hi))
  | x=>(ZaR θ x).map fun xs=>.lst (ZbM xs lo hi)
def mSl (f:EM) (lo hi:PM):EM:=fun ρ θ=>(f ρ θ).bind fun x θ=>(lo ρ θ).bind fun l θ=>(hi ρ θ).bind fun h θ=>match Ze8 θ x l h with
  | some d=>.ok d θ
  | none=>.bad
theorem SlR.imp {r r':V→Option Int→Option Int→Hp→VK→Prop} (h:SlR X r) (hi:∀x l u H Q,r' x l u H Q→r x l u H Q):SlR X r':=by
  intro pins s σ H x v vl vu lo hi' sl Q I rx hs pl pu q
  exact h pins s σ H x v vl vu lo hi' sl Q I rx hs pl pu (hi _ _ _ _ _ q)
theorem Zbb {e:Expr} {lo hi:Option Expr} {f:EM} {fl fh:PM} {pos p2:Pos} (he:ME X e f) (hl:MO X lo fl) (hh:MO X hi fh):ME X (.Subscript e (.Slice lo hi none p2) pos) (mSl f fl fh):=by
  refine PE.imp (Zpi (sl_list.or Zs6) he hl hh) fun σ H Q h=>?_
  obtain ⟨B,θ,ρ,F,w⟩:=h
  refine Z5 (step F w) ?_
  rintro v H1 ⟨B1,θ1,x,E1,F1,rx,w1⟩
  refine Zed (ZkB F1 w1) ?_
  rintro l H2 ⟨B2,θ2,E2,F2,w2⟩
  refine Zed (ZkB F2 w2) ?_
  rintro u H3 ⟨B3,θ3,E3,F3,w3⟩
  have rx3:=rx.ext (E2.trans E3).toExtS
  have lst:∀d,(ZaR θ3 x).map (fun xs=>D.lst (ZbM xs l u))=some d→wpR X σ RepV B3 H3 (R.ok d θ3) Q→ZuY X.K v l u H3 Q:=fun d h w=>by
    cases e2:ZaR θ3 x with
    | none=>rw [e2] at h; cases h
    | some xs=>
      rw [e2] at h
      cases h
      obtain ⟨a,vs,rfl,h1,h2⟩:=Zaf F3.good rx3 e2
      exact ⟨a,vs,rfl,SqL.of h1,Ze5 F3.good (h2.cut l u) w⟩
  split at w3
  · rename_i d e1
    cases x with
    | tup xs=>
      simp only [Ze8] at e1
      split at e1
      · cases e1
      · rename_i hw
        cases e1
        obtain ⟨a,vs,rfl,h1,k1,l1⟩:=rx3
        exact .inr ⟨a,vs,rfl,SqT.of h1,by rw [l1.len]; exact hw,Zg5 F3.good (l1.cut l u) w3⟩
    | non=>exact .inl (lst d e1 w3)
    | bl _=>exact .inl (lst d e1 w3)
    | int _=>exact .inl (lst d e1 w3)
    | str _=>exact .inl (lst d e1 w3)
    | ty _=>exact .inl (lst d e1 w3)
    | scr _=>exact .inl (lst d e1 w3)
    | lst _=>exact .inl (lst d e1 w3)
    | ref _=>exact .inl (lst d e1 w3)
  · exact w3.elim
def Zdo {α:Type} (xs:List α) (lo hi st:Option Int):List α:=(sliceRange (sliceBounds lo hi st xs.length).1 (sliceBounds lo hi st xs.length).2.1 (sliceBounds lo hi st xs.length).2.2).filterMap (xs[·]?)
theorem RepL.none_of:∀{B:Bx} {H:Hp} {xs:List D} {vs:List V} {i:Nat},RepL B H xs vs→xs[i]?=none→vs[i]?=none:=fun {B H xs vs i} r e=>by
  have h1:=r.len
  have h2:xs.length≤i:=List.getElem?_eq_none_iff.mp e
  exact List.getElem?_eq_none_iff.mpr (by omega)
theorem RepL.pick {B:Bx} {H:Hp} {xs:List D} {vs:List V} (r:RepL B H xs vs):∀ks:List Nat,RepL B H (ks.filterMap (xs[·]?)) (ks.filterMap (vs[·]?))
  | []=>rfl
  | k::ks=>by
    cases e:xs[k]? with
    | none=>rw [List.filterMap_cons_none e,List.filterMap_cons_none (r.none_of e)]; exact r.pick ks
    | some x=>
      obtain ⟨u,e',q⟩:=r.get e
      rw [List.filterMap_cons_some e,List.filterMap_cons_some e']
      exact ⟨_,_,rfl,q,r.pick ks⟩
def ZrA (f:EM) (lo hi st:PM):EM:=fun ρ θ=>(f ρ θ).bind fun x θ=>(lo ρ θ).bind fun l θ=>(hi ρ θ).bind fun h θ=>(st ρ θ).bind fun s θ=>match ZaR θ x with
  | some xs=>if s≠some 0∧(Zdo xs l h s).length≤BIG then .ok (.lst (Zdo xs l h s)) θ else .bad
  | none=>.bad
theorem Zin {e sp:Expr} {lo hi:Option Expr} {f:EM} {fl fh fs:PM} {pos p2:Pos} (he:ME X e f) (hl:MO X lo fl) (hh:MO X hi fh) (hs:MO X (some sp) fs):ME X (.Subscript e (.Slice lo hi (some sp) p2) pos) (ZrA f fl fh fs):=by
  refine PE.imp (ZmZ he hl hh hs) fun σ H Q h=>?_
  obtain ⟨B,θ,ρ,F,w⟩:=h
  refine Z5 (step F w) ?_
  rintro v H1 ⟨B1,θ1,x,E1,F1,rx,w1⟩
  refine Zed (ZkB F1 w1) ?_
  rintro l H2 ⟨B2,θ2,E2,F2,w2⟩
  refine Zed (ZkB F2 w2) ?_
  rintro u H3 ⟨B3,θ3,E3,F3,w3⟩
  refine Zed (ZkB F3 w3) ?_
  rintro s H4 ⟨B4,θ4,E4,F4,w4⟩
  split at w4
  · rename_i xs e1
    split at w4
    · rename_i hz
      obtain ⟨a,vs,rfl,h1,h2⟩:=Zaf F4.good (rx.ext ((E2.trans E3).trans E4).toExtS) e1
      have p:RepL B4 H4 (Zdo xs l u s) (Zeh vs l u s):=by
        unfold Zdo Zeh
        rw [h2.len]
        exact h2.pick _
      exact ⟨a,vs,rfl,SqL.of h1,hz.1,by rw [p.len]; exact Zaq hz.2,Ze5 F4.good p w4⟩
    · exact w4.elim
  · exact w4.elim
def ZdR:GM:=fun ds θ=>match ds with
  | [.str z]=>if z.length≤BIG then .ok (.int z.length) θ else .bad
  | [d]=>match seqOf θ d with
    | some xs=>.ok (.int xs.length) θ
    | none=>.bad
  | _=>.bad
theorem RepL.one {B:Bx} {H:Hp} {d:D} {vs:List V} (r:RepL B H [d] vs):∃v,vs=[v]∧RepV B H d v:=by
  obtain ⟨v,q,rfl,hv,hq⟩:=r
  cases (show q=[] from hq)
  exact ⟨v,rfl,hv⟩
theorem RepL.two {B:Bx} {H:Hp} {d e:D} {vs:List V} (r:RepL B H [d,e] vs):∃v u,vs=[v,u]∧RepV B H d v∧RepV B H e u:=by
  obtain ⟨v,q,rfl,hv,hq⟩:=r
  obtain ⟨u,rfl,hu⟩:=hq.one
  exact ⟨v,u,rfl,hv,hu⟩
theorem Zd7:CallR X (.builtin "len") (rC X ZdR):=by
  refine CallR.imp (call_len_str.or Zi1) fun vs H Q q=>?_
  obtain ⟨σ,B,θ,ds,G,r,w⟩:=q
  unfold ZdR at w
  split at w
  · split at w
    · rename_i z hz
      obtain ⟨v,rfl,rv⟩:=r.one
      cases (show v=V.str z from rv)
      exact .inl ⟨z,rfl,Zaq hz,ZO G (show RepV B H (.int _) (.int _) from rfl) w⟩
    · exact w.elim
  · split at w
    · rename_i xs e1
      obtain ⟨v,rfl,rv⟩:=r.one
      obtain ⟨a,us,rfl,h1,h2⟩:=ZcQ G rv e1
      exact .inr ⟨a,us,rfl,h1,by rw [h2.len]; exact ZO G (show RepV B H (.int _) (.int _) from rfl) w⟩
    · exact w.elim
  · exact w.elim
def ZfF:List D→Option (List Int)
  | []=>some []
  | .int i::r=>(ZfF r).map (i::·)
  | _=>none
@[simp] theorem ZpX (ns:List Int):ZfF (ns.map D.int)=some ns:=by
  induction ns with
  | nil=>rfl
  | cons n r ih=>simp [ZfF,ih]
theorem Zmu:∀{ds:List D} {ns:List Int},ZfF ds=some ns→ds=ns.map D.int
  | [],_,h=>by cases h; rfl
  | d::r,ns,h=>by
    cases d with
    | int i=>
      simp only [ZfF] at h
      cases e:ZfF r with
      | none=>rw [e] at h; cases h
      | some ms=>rw [e] at h; cases h; rw [Zmu e]; rfl
    | _=>cases h
theorem Zk1 {B:Bx} {H:Hp}:∀{ns:List Int} {vs:List V},RepL B H (ns.map D.int) vs→vs=ns.map V.int
  | [],_,r=>r
  | n::ns,_,r=>by
    obtain ⟨v,q,rfl,hv,hq⟩:=r
    cases (show v=V.int n from hv)
    rw [Zk1 hq]; rfl
def Zi2:List D→Option (List Bool)
  | []=>some []
  | .bl i::r=>(Zi2 r).map (i::·)
  | _=>none
theorem Zqt:∀{ds:List D} {ns:List Bool},Zi2 ds=some ns→ds=ns.map D.bl
  | [],_,h=>by cases h; rfl
  | d::r,ns,h=>by
    cases d with
    | bl i=>
      simp only [Zi2] at h
      cases e:Zi2 r with
      | none=>rw [e] at h; cases h
      | some ms=>rw [e] at h; cases h; rw [Zqt e]; rfl
    | _=>cases h
theorem ZmD {B:Bx} {H:Hp}:∀{ns:List Bool} {vs:List V},RepL B H (ns.map D.bl) vs→vs=ns.map V.bl
  | [],_,r=>r
  | n::ns,_,r=>by
    obtain ⟨v,q,rfl,hv,hq⟩:=r
    cases (show v=V.bl n from hv)
    rw [ZmD hq]; rfl
def ZmR:GM:=fun ds θ=>match ds with
  | [d]=>match (ZaR θ d).bind ZfF with
    | some ns=>.ok (.int ns.sum) θ
    | none=>.bad
  | _=>.bad
theorem ZsB (hc:X.calm=true:=by rfl):CallR X (.builtin "sum") (rC X ZmR):=by
  refine CallR.imp (Zqm hc) fun vs H Q q=>?_
  obtain ⟨σ,B,θ,ds,G,r,w⟩:=q
  unfold ZmR at w
  split at w
  · rename_i d
    split at w
    · rename_i ns e1
      obtain ⟨v,rfl,rv⟩:=r.one
      cases e2:ZaR θ d with
      | none=>rw [e2] at e1; cases e1
      | some xs=>
        rw [e2] at e1
        obtain ⟨a,us,rfl,h1,h2⟩:=Zaf G rv e2
        rw [Zmu (show ZfF xs=some ns from e1)] at h2
        rw [Zk1 h2] at h1
        exact ⟨a,ns,rfl,SqL.of h1,ZO G (show RepV B H (.int _) (.int _) from rfl) w⟩
    · exact w.elim
  · exact w.elim
def Zqz:GM:=fun ds θ=>match ds with
  | [d]=>match (ZaR θ d).bind Zi2 with
    | some ns=>.ok (.bl (ns.all id)) θ
    | none=>.bad
  | _=>.bad
theorem ZvM (hc:X.calm=true:=by rfl):CallR X (.builtin "all") (rC X Zqz):=by
  refine CallR.imp (Zqo hc) fun vs H Q q=>?_
  obtain ⟨σ,B,θ,ds,G,r,w⟩:=q
  unfold Zqz at w
  split at w
  · rename_i d
    split at w
    · rename_i ns e1
      obtain ⟨v,rfl,rv⟩:=r.one
      cases e2:ZaR θ d with
      | none=>rw [e2] at e1; cases e1
      | some xs=>
        rw [e2] at e1
        obtain ⟨a,us,rfl,h1,h2⟩:=Zaf G rv e2
        rw [Zqt (show Zi2 xs=some ns from e1)] at h2
        rw [ZmD h2] at h1
        exact ⟨a,ns,rfl,SqL.of h1,ZO G (show RepV B H (.bl _) (.bl _) from rfl) w⟩
    · exact w.elim
  · exact w.elim
def ZkT:GM:=fun ds θ=>match ds with
  | [.int i,.int j]=>.ok (.int (if j<i then j else i)) θ
  | [.int i,.int j,.int k]=>.ok (.int (if j<i then (if k<j then k else j) else (if k<i then k else i))) θ
  | _=>.bad
def Zrz:GM:=fun ds θ=>match ds with
  | [.int i,.int j]=>.ok (.int (if j > i then j else i)) θ
  | _=>.bad
theorem RepL.three {B:Bx} {H:Hp} {d e f:D} {vs:List V} (r:RepL B H [d,e,f] vs):∃v u w,vs=[v,u,w]∧RepV B H d v∧RepV B H e u∧RepV B H f w:=by
  obtain ⟨v,q,rfl,hv,hq⟩:=r
  obtain ⟨u,w,rfl,hu,hw⟩:=hq.two
  exact ⟨v,u,w,rfl,hv,hu,hw⟩
theorem Znk (hc:X.calm=true):CallR X (.builtin "min") (fun xs H Q=>∃i j k,xs=[.int i,.int j,.int k]∧Q (.int (if j<i then (if k<j then k else j) else (if k<i then k else i))) H):=by
  intro pins s σ H xs us Q I r h
  obtain ⟨i,j,k,rfl,q⟩:=h
  cases r with
  | cons r1 rr=>
    obtain ⟨u2,u3,e,r2,r3⟩:=ZoS rr
    subst e
    obtain ⟨t1,rfl⟩:=r1
    obtain ⟨t2,rfl⟩:=r2
    obtain ⟨t3,rfl⟩:=r3
    refine min_three_ints (I.ok.hd hc) fun h' tk kk=>⟨_,H,I.kept kk,?_,q⟩
    by_cases c1:j<i
    · by_cases c2:k<j
      · simp only [c1,c2,if_true]; exact ⟨_,rfl⟩
      · simp only [c1,c2,if_true,if_false]; exact ⟨_,rfl⟩
    · by_cases c2:k<i
      · simp only [c1,c2,if_true,if_false]; exact ⟨_,rfl⟩
      · simp only [c1,c2,if_false]; exact ⟨_,rfl⟩
theorem ZmC (hc:X.calm=true:=by rfl):CallR X (.builtin "min") (rC X ZkT):=by
  refine CallR.imp ((Znl hc).or (Znk hc)) fun vs H Q q=>?_
  obtain ⟨σ,B,θ,ds,G,r,w⟩:=q
  unfold ZkT at w
  split at w
  · rename_i i j
    obtain ⟨v,u,rfl,rv,ru⟩:=r.two
    cases (show v=V.int i from rv)
    cases (show u=V.int j from ru)
    exact .inl ⟨i,j,rfl,ZO G (show RepV B H (.int _) (.int _) from rfl) w⟩
  · rename_i i j k
    obtain ⟨v,u,z,rfl,rv,ru,rz⟩:=r.three
    cases (show v=V.int i from rv)
    cases (show u=V.int j from ru)
    cases (show z=V.int k from rz)
    exact .inr ⟨i,j,k,rfl,ZO G (show RepV B H (.int _) (.int _) from rfl) w⟩
  · exact w.elim
theorem ZvK (hc:X.calm=true:=by rfl):CallR X (.builtin "max") (rC X Zrz):=by
  refine CallR.imp (Znm hc) fun vs H Q q=>?_
  obtain ⟨σ,B,θ,ds,G,r,w⟩:=q
  unfold Zrz at w
  split at w
  · rename_i i j
    obtain ⟨v,u,rfl,rv,ru⟩:=r.two
    cases (show v=V.int i from rv)
    cases (show u=V.int j from ru)
    exact ⟨i,j,rfl,ZO G (show RepV B H (.int _) (.int _) from rfl) w⟩
  · exact w.elim
def ZrE:GM:=fun ds θ=>match ds with
  | [.int i]=>.ok (.int i) θ
  | [.bl k]=>.ok (.int (if k then 1 else 0)) θ
  | _=>.bad
theorem ZvL:CallR X (.type "int") (rC X ZrE):=by
  refine CallR.imp Znn fun vs H Q q=>?_
  obtain ⟨σ,B,θ,ds,G,r,w⟩:=q
  unfold ZrE at w
  split at w
  · rename_i i
    obtain ⟨v,rfl,rv⟩:=r.one
    cases (show v=V.int i from rv)
    exact .inl ⟨i,rfl,ZO G (show RepV B H (.int _) (.int _) from rfl) w⟩
  · rename_i k
    obtain ⟨v,rfl,rv⟩:=r.one
    cases (show v=V.bl k from rv)
    exact .inr ⟨k,rfl,ZO G (show RepV B H (.int _) (.int _) from rfl) w⟩
  · exact w.elim
def ZkV:GM:=fun ds θ=>match ds with
  | [d]=>match seqOf θ d with
    | some xs=>.ok (.lst xs) θ
    | none=>.bad
  | _=>.bad
theorem Zqp:CallR X (.type "list") (rC X ZkV):=by
  refine CallR.imp Zi0 fun vs H Q q=>?_
  obtain ⟨σ,B,θ,ds,G,r,w⟩:=q
  unfold ZkV at w
  split at w
  · split at w
    · rename_i xs e1
      obtain ⟨v,rfl,rv⟩:=r.one
      obtain ⟨a,us,rfl,h1,h2⟩:=ZcQ G rv e1
      exact ⟨a,us,rfl,h1,Ze5 G h2 w⟩
    · exact w.elim
  · exact w.elim
def Ze6:GM:=fun ds θ=>match ds with
  | [.tup xs]=>.ok (.tup xs) θ
  | [d]=>match ZaR θ d with
    | some xs=>.ok (.tup xs) θ
    | none=>.bad
  | _=>.bad
theorem Zg1:CallR X (.type "tuple") (rC X Ze6):=by
  refine CallR.imp Zh0 fun vs H Q q=>?_
  obtain ⟨σ,B,θ,ds,G,r,w⟩:=q
  unfold Ze6 at w
  split at w
  · rename_i xs
    obtain ⟨v,rfl,rv⟩:=r.one
    obtain ⟨a,us,rfl,h1,k1,l1⟩:=id rv
    exact ⟨a,us,rfl,.inr ⟨SqT.of h1,ZO G rv w⟩⟩
  · split at w
    · rename_i xs e1
      obtain ⟨v,rfl,rv⟩:=r.one
      obtain ⟨a,us,rfl,h1,h2⟩:=Zaf G rv e1
      exact ⟨a,us,rfl,.inl ⟨SqL.of h1,Zg5 G h2 w⟩⟩
    · exact w.elim
  · exact w.elim
inductive Ty | non | bl | int | str | lst | tup
def Ty.nm:Ty→String
  | .non=>"NoneType" | .bl=>"bool" | .int=>"int" | .str=>"str" | .lst=>"list" | .tup=>"tuple"
def tyD (θ:Sto):D→Option Ty
  | .non=>some .non
  | .bl _=>some .bl
  | .int _=>some .int
  | .str _=>some .str
  | .tup _=>some .tup
  | .scr _=>none
  | d=>(ZaR θ d).map fun _=>.lst
def isT:Ty→String→Option Bool
  | .non,"int"=>some false | .non,"bool"=>some false | .non,"list"=>some false | .non,"tuple"=>some false | .non,"str"=>some false
  | .bl,"int"=>some true | .bl,"bool"=>some true | .bl,"list"=>some false | .bl,"tuple"=>some false | .bl,"str"=>some false
  | .int,"int"=>some true | .int,"bool"=>some false | .int,"list"=>some false | .int,"tuple"=>some false | .int,"str"=>some false
  | .str,"int"=>some false | .str,"bool"=>some false | .str,"list"=>some false | .str,"tuple"=>some false | .str,"str"=>some true
  | .lst,"int"=>some false | .lst,"bool"=>some false | .lst,"list"=>some true | .lst,"tuple"=>some false | .lst,"str"=>some false
  | .tup,"int"=>some false | .tup,"bool"=>some false | .tup,"list"=>some false | .tup,"tuple"=>some true | .tup,"str"=>some false
  | _,_=>none
theorem ZtQ {K:PySem.W.Frag} {t:Ty} {n:String} {b:Bool} (h:isT t n=some b):PySem.W.kitOne K (.type t.nm) (.type n)=some b:=by
  unfold isT at h
  split at h<;>first | (cases h; with_unfolding_all rfl) | cases h
def Zgu:GM:=fun ds θ=>match ds with
  | [d,.ty n]=>match (tyD θ d).bind (isT · n) with
    | some b=>.ok (.bl b) θ
    | none=>.bad
  | _=>.bad
theorem ZsM {B:Bx} {θ:Sto} {H:Hp} {K:PySem.W.Frag} (G:Good X.cl B θ H) {d:D} {v:V} {t:Ty} (r:RepV B H d v) (h:tyD θ d=some t):ZfS K H v (.type t.nm):=by
  cases d with
  | non=>cases (show v=.non from r); cases h; exact .non
  | bl b=>cases (show v=.bl b from r); cases h; exact .bl b
  | int b=>cases (show v=.int b from r); cases h; exact .int b
  | str b=>cases (show v=.str b from r); cases h; exact .str b
  | tup xs=>obtain ⟨a,vs,rfl,h1,_⟩:=r; cases h; exact .tup h1
  | scr xs=>cases h
  | lst xs=>obtain ⟨a,vs,rfl,h1,_⟩:=r; cases h; exact .lst h1
  | ref l=>
    cases e:ZaR θ (.ref l) with
    | none=>simp only [tyD,e] at h; cases h
    | some xs=>
      simp only [tyD,e] at h
      cases h
      obtain ⟨a,us,rfl,h1,h2⟩:=Zaf G r e
      exact .lst h1
  | ty n=>cases h
theorem ZlP:CallR X (.builtin "isinstance") (rC X Zgu):=by
  refine CallR.imp Zlf fun vs H Q q=>?_
  obtain ⟨σ,B,θ,ds,G,r,w⟩:=q
  unfold Zgu at w
  split at w
  · rename_i d n
    split at w
    · rename_i b e1
      obtain ⟨v,u,rfl,rv,ru⟩:=r.two
      cases (show u=V.ty n from ru)
      cases e2:tyD θ d with
      | none=>rw [e2] at e1; cases e1
      | some t=>
        rw [e2] at e1
        exact ⟨v,n,_,b,rfl,ZsM G rv e2,ZtQ e1,ZO G (show RepV B H (.bl _) (.bl _) from rfl) w⟩
    · exact w.elim
  · exact w.elim
end
end
end L2.MM
namespace L2.MM
open PySem PySem.Spec PyProof.Rows PySem.SeqAt
noncomputable section
variable {X:Cx}
inductive Src where
  | seq (d:D) | rng (lo:Int) (n:Nat)
def Src.items (θ:Sto):Src→Option (List D)
  | .seq d=>seqOf θ d
  | .rng lo n=>some ((List.range n).map fun (i:Nat)=>D.int (lo+(i:Int)))
def SrcRep (K:PySem.W.Frag) (B:Bx) (H:Hp):Src→It→Prop
  | .seq d,J=>∃a,RepV B H d (.ref a)∧J=(match d with | .tup _=>Itt K a | _=>Itl K a)
  | .rng lo n,J=>J=Itr lo n
abbrev IM:=List Sl→Sto→R Src
section
def tMI (X:Cx) (f:IM):TI:=fun σ H Q=>∃B θ ρ,Frm X.cl B θ ρ σ H∧wpR X σ (SrcRep X.K) B H (f ρ θ) Q
def MI (X:Cx) (tg iter:Expr) (f:IM):Prop:=PI X tg iter (tMI X f)
theorem PI.imp {tg iter:Expr} {t t':TI} (h:PI X tg iter t) (hi:∀σ H Q,t' σ H Q→t σ H Q):PI X tg iter t':=fun pins s σ H Q I q=>h pins s σ H Q I (hi σ H Q q)
theorem SrcRep.ext {K:PySem.W.Frag} {B B':Bx} {H H':Hp} {S:Src} {J:It} (r:SrcRep K B H S J) (E:ExtS B B' H H'):SrcRep K B' H' S J:=by
  cases S with
  | seq d=>obtain ⟨a,h,e⟩:=r; exact ⟨a,h.ext E,e⟩
  | rng lo n=>exact r
theorem ZiH {cl:Mo} {B:Bx} {θ:Sto} {H:Hp} {S:Src} {J:It} {xs:List D} (G:Good cl B θ H) (r:SrcRep cl.K B H S J) (h:S.items θ=some xs) :
    (∀i d,xs[i]?=some d→J.go i H∧∀x H',J.yld i H x H'→H'=H∧RepV B H d x)∧J.stop xs.length H:=by
  cases S with
  | rng lo n=>
    cases (show J=Itr lo n from r)
    cases h
    refine ⟨fun i d e=>?_,by show n≤_; simp⟩
    rw [List.getElem?_map] at e
    by_cases hi:i<n
    · rw [List.getElem?_range hi] at e
      cases e
      exact ⟨hi,fun x H' y=>⟨y.1,y.2⟩⟩
    · rw [List.getElem?_eq_none (by simpa using hi)] at e
      cases e
  | seq d=>
    obtain ⟨a,rv,e⟩:=r
    cases d with
    | tup ys=>
      obtain ⟨a',vs,e1,h1,_,h2⟩:=rv
      cases e1
      cases h
      simp only at e
      subst e
      refine ⟨fun i d e=>?_,⟨vs,SqT.of h1,by rw [h2.len]; exact Nat.le_refl _⟩⟩
      obtain ⟨v,q1,q2⟩:=h2.get e
      refine ⟨⟨vs,v,SqT.of h1,q1⟩,fun x H' y=>⟨y.1,?_⟩⟩
      have:=y.2 vs (SqT.of h1)
      rw [q1] at this
      cases this
      exact q2
    | scr ns=>
      cases h
      obtain ⟨a',vs',e1,h1,_⟩:=ZcQ G rv (show seqOf θ (.scr ns)=some (ns.map D.int) from rfl)
      cases e1
      simp only at e
      subst e
      have hS:SqL cl.K H a (ns.map V.int):=by
        obtain ⟨a',e1,h1⟩:=rv
        cases e1
        rcases h1 with ⟨o,h1,_⟩ | h1
        · exact .inl (.inr ⟨o,h1⟩)
        · exact .inr (G.kc a ns h1)
      have h2:RepL B H (ns.map D.int) (ns.map V.int):=RepL.map (f:=D.int) (g:=V.int) (fun _=>rfl) ns
      refine ⟨fun i d e=>?_,⟨ns.map V.int,hS,by simp⟩⟩
      obtain ⟨v,q1,q2⟩:=h2.get e
      refine ⟨⟨_,v,hS,q1⟩,fun x H' y=>⟨y.1,?_⟩⟩
      have:=y.2 _ hS
      rw [q1] at this
      cases this
      exact q2
    | lst ys=>
      obtain ⟨a',vs,e1,h1,h2⟩:=Zaf G rv (show ZaR θ (.lst ys)=some xs from h)
      cases e1
      simp only at e
      subst e
      refine ⟨fun i d e=>?_,⟨vs,SqL.of h1,by rw [h2.len]; exact Nat.le_refl _⟩⟩
      obtain ⟨v,q1,q2⟩:=h2.get e
      refine ⟨⟨vs,v,SqL.of h1,q1⟩,fun x H' y=>⟨y.1,?_⟩⟩
      have:=y.2 vs (SqL.of h1)
      rw [q1] at this
      cases this
      exact q2
    | ref l=>
      obtain ⟨a',vs,e1,h1,h2⟩:=Zaf G rv (show ZaR θ (.ref l)=some xs from h)
      cases e1
      simp only at e
      subst e
      refine ⟨fun i d e=>?_,⟨vs,SqL.of h1,by rw [h2.len]; exact Nat.le_refl _⟩⟩
      obtain ⟨v,q1,q2⟩:=h2.get e
      refine ⟨⟨vs,v,SqL.of h1,q1⟩,fun x H' y=>⟨y.1,?_⟩⟩
      have:=y.2 vs (SqL.of h1)
      rw [q1] at this
      cases this
      exact q2
    | non=>cases h
    | bl _=>cases h
    | int _=>cases h
    | str _=>cases h
    | ty _=>cases h
def Zy5 (K:PySem.W.Frag) (tl:TE):TI:=fun σ H R=>tl σ H fun x H1=>∃a,x=.ref a∧(((∃xs,SqL K H1 a xs)∧R (Itl K a) H1)∨((∃xs,SqT K H1 a xs)∧R (Itt K a) H1))
theorem Ztm {tg l:Expr} {tl:TE} (hl:PE X l tl):PI X tg l (Zy5 X.K tl):=by
  intro pins s σ H R I h
  refine thn (hl pins s σ H _ I h) fun v s1 ⟨x,H1,I1,r1,q1⟩=>?_
  obtain ⟨a,e,q1⟩:=q1
  subst e
  cases r1
  rcases q1 with ⟨⟨xs,hq⟩,q⟩ | ⟨⟨xs,hq⟩,q⟩
  · obtain ⟨its,rv,p,hz⟩:=I1.list hq
    refine wpAny_pyIter_list p.isList ?_
    refine ⟨s1.heap.objs.size,[s1.heap.objs.size],_,_,H1,rfl,I1.kept (t':=s1.toks) fun b o e=>Heap.get?_push_of_some _ e,ZmN a _,⟨_,Heap.get?_push_size _ rfl,rfl,rfl⟩,fun b hb=>?_,q⟩
    have e:b=s1.heap.objs.size:=by simpa using hb
    subst e
    exact I1.fpOk (Nat.le_refl _) (I1.hok.fresh (Nat.le_refl _))
  · obtain ⟨its,rv,p,hz⟩:=I1.tuple hq
    refine wpAny_pyIter_tuple (show s1.heap.IsTuple a its.toArray from p) ?_
    refine ⟨s1.heap.objs.size,[s1.heap.objs.size],_,_,H1,rfl,I1.kept (t':=s1.toks) fun b o e=>Heap.get?_push_of_some _ e,Zlo a _,⟨_,Heap.get?_push_size _ rfl,rfl,rfl⟩,fun b hb=>?_,q⟩
    have e:b=s1.heap.objs.size:=by simpa using hb
    subst e
    exact I1.fpOk (Nat.le_refl _) (I1.hok.fresh (Nat.le_refl _))
def mIn (f:EM):IM:=fun ρ θ=>(f ρ θ).bind fun d θ=>match seqOf θ d with
  | some _=>.ok (.seq d) θ
  | none=>.bad
theorem ZpK {tg l:Expr} {f:EM} (h:ME X l f):MI X tg l (mIn f):=by
  refine PI.imp (Ztm h) fun σ H R q=>?_
  obtain ⟨B,θ,ρ,F,w⟩:=q
  refine Z5 (step F w) ?_
  rintro v H1 ⟨B1,θ1,d,E1,F1,rd,w1⟩
  split at w1
  · rename_i xs e
    obtain ⟨a,vs,rfl,h1,h2⟩:=ZcQ F1.good rd e
    refine ⟨a,rfl,?_⟩
    have fin:=fun J (hJ:SrcRep X.K B1 H1 (.seq d) J)=>ZO (Rel:=SrcRep X.K) F1.good hJ w1
    cases d with
    | tup ys=>
      obtain ⟨a',us,e1,g1,_,_⟩:=id rd
      cases e1
      exact .inr ⟨⟨us,SqT.of g1⟩,fin _ ⟨a,rd,rfl⟩⟩
    | scr ns=>
      have hS:SqL X.K H1 a (ns.map V.int):=by
        obtain ⟨a',e1,g1⟩:=id rd
        cases e1
        rcases g1 with ⟨o,g1,_⟩ | g1
        · exact .inl (.inr ⟨o,g1⟩)
        · exact .inr (F1.good.kc a ns g1)
      exact .inl ⟨⟨_,hS⟩,fin _ ⟨a,rd,rfl⟩⟩
    | lst ys=>
      obtain ⟨a',us,e1,g1,_⟩:=Zaf F1.good rd (show ZaR θ1 (.lst ys)=some xs from e)
      cases e1
      exact .inl ⟨⟨us,SqL.of g1⟩,fin _ ⟨a,rd,rfl⟩⟩
    | ref l=>
      obtain ⟨a',us,e1,g1,_⟩:=Zaf F1.good rd (show ZaR θ1 (.ref l)=some xs from e)
      cases e1
      exact .inl ⟨⟨us,SqL.of g1⟩,fin _ ⟨a,rd,rfl⟩⟩
    | non=>cases e
    | bl _=>cases e
    | int _=>cases e
    | str _=>cases e
    | ty _=>cases e
  · exact w1.elim
def Zd3 (f:AM):IM:=fun ρ θ=>(f ρ θ).bind fun ds θ=>match ds with
  | [.int j]=>if -1000000≤j∧j≤1000000 then .ok (.rng 0 j.toNat) θ else .bad
  | _=>.bad
theorem ZeQ {tg a:Expr} {f:AM} {p pos:Pos} (hm:X.mg "range"=none) (ha:MA X [a] f) (hg:Gl X "range":=by rfl) (hs:starEach [a] X.env=[(false,eval a X.env)]:=by rfl):MI X tg (.Call (.Name "range" p) [a] [] pos) (Zd3 f):=by
  refine PI.imp (ZmY hg hm ha hs) fun σ H R q=>?_
  obtain ⟨B,θ,ρ,F,w⟩:=q
  refine ZbN (Zhe F w) ?_
  rintro vs H1 ⟨B1,θ1,ds,E1,F1,rd,w1⟩
  split at w1
  · rename_i j
    split at w1
    · rename_i hj
      obtain ⟨v,rfl,rv⟩:=rd.one
      cases (show v=V.int j from rv)
      exact ⟨j,rfl,by have:=hj.1; omega,by have:=hj.2; omega,ZO (Rel:=SrcRep X.K) F1.good (show SrcRep X.K B1 H1 (.rng 0 j.toNat) _ from rfl) w1⟩
    · exact w1.elim
  · exact w1.elim
def Ze1 (src:List Nat) (ρ:List Sl) (x:D):List Sl:=Sl.val x::src.map fun (j:Nat)=>match ρ[j]? with
  | some (Sl.val d)=>Sl.val d
  | _=>Sl.no
theorem Frm.inner {B:Bx} {θ:Sto} {ρ:List Sl} {σ:St} {H:Hp} (F:Frm X.cl B θ ρ σ H) (src:List Nat) {x:D} {v:V} (r:RepV B H x v):Frm X.cl B θ (Ze1 src ρ x) (L2.inner src σ (some v)) H:=by
  have key:∀(i:Nat) (s:Sl),(Ze1 src ρ x)[i]?=some s→s=.no∨∃d,s=.val d∧∃v',(L2.inner src σ (some v))[i]?=some (some v')∧RepV B H d v':=fun i s e=>by
    cases i with
    | zero=>simp [Ze1] at e; subst e; exact .inr ⟨x,rfl,v,by simp [L2.inner],r⟩
    | succ i=>
      simp only [Ze1,List.getElem?_cons_succ,List.getElem?_map] at e
      simp only [L2.inner,List.getElem?_cons_succ,List.getElem?_map]
      cases q:src[i]? with
      | none=>rw [q] at e; cases e
      | some j=>
        rw [q] at e
        simp only [Option.map_some,Option.some.injEq] at e
        split at e
        · rename_i d ed
          subst e
          obtain ⟨v',h1,h2⟩:=F.val j d ed
          exact .inr ⟨d,rfl,v',by simp [h1],h2⟩
        · exact .inl e.symm
  refine ⟨F.good,by simp [Ze1,L2.inner],fun i d e=>?_,fun i xs e=>?_,fun i j xs ys a _ e _=>?_⟩
  · rcases key i _ e with z | ⟨d',z,v',h1,h2⟩
    · cases z
    · cases z; exact ⟨v',h1,h2⟩
  · rcases key i _ e with z | ⟨d',z,_⟩<;>cases z
  · rcases key i _ e with z | ⟨d',z,_⟩<;>cases z
open Classical in
def Zgw (S:Src) (all:List D) (elt:D→Sto→R D):List D→List D→Sto→R D
  | [],acc,θ=>if S.items θ=some all∧acc.length≤BIG then .ok (.lst acc) θ else .bad
  | x::r,acc,θ=>if S.items θ=some all then (elt x θ).bind fun y θ=>Zgw S all elt r (acc++[y]) θ else .bad
def ZfC (fi:IM) (src:List Nat) (elt:EM):EM:=fun ρ θ=>(fi ρ θ).bind fun S θ=>match S.items θ with
  | some xs=>if xs.length≤BIG then Zgw S xs (fun x θ=>elt (Ze1 src ρ x) θ) xs [] θ else .bad
  | none=>.bad
open Classical in
theorem Zl2 {fi:IM} {src:List Nat} {elt:EM} (σ:St) (H:Hp) (Q:VK) (h:tM X (ZfC fi src elt) σ H Q):tLc (tMI X fi) src (tM X elt) σ H Q:=by
  obtain ⟨B,θ,ρ,F,w⟩:=h
  refine ⟨B,θ,ρ,F,(wpR.bind (Rel:=SrcRep X.K) w).mono ?_⟩
  rintro J H1 ⟨B1,θ1,S,E1,G1,rJ,w1⟩
  split at w1
  · rename_i xs e1
    split at w1
    · rename_i hz
      refine ⟨xs.length,fun i ys H'=>∃B' θ' acc,ExtE B1 B' H1 H'∧Good X.cl B' θ' H'∧RepL B' H' acc ys∧wpR X σ RepV B' H' (Zgw S xs (fun x θ=>elt (Ze1 src ρ x) θ) (xs.drop i) acc θ') Q,Zaq hz,?_,?_,?_⟩
      · exact ⟨B1,θ1,[],ExtE.refl _ _,G1,rfl,w1⟩
      · rintro i ys H' hi ⟨B2,θ2,acc,E2,G2,racc,w2⟩
        rw [List.drop_eq_getElem_cons hi] at w2
        unfold Zgw at w2
        split at w2
        · rename_i e2
          obtain ⟨g1,g2⟩:=(ZiH G2 (rJ.ext E2.toExtS) e2).1 i xs[i] (List.getElem?_eq_getElem hi)
          refine ⟨g1,fun y H3 hy=>?_⟩
          obtain ⟨rfl,ry⟩:=g2 y H3 hy
          have F2:=(F.ext (E1.trans E2) G2).inner src ry
          refine ⟨B2,θ2,_,F2,(wpR.bind (Rel:=RepV) w2).mono ?_⟩
          rintro z H4 ⟨B4,θ4,d,E4,G4,rd,w4⟩
          exact ⟨B4,θ4,acc++[d],E2.trans E4,G4,(racc.ext E4.toExtS).app ⟨z,[],rfl,rd,rfl⟩,w4⟩
        · exact w2.elim
      · rintro ys H' ⟨B2,θ2,acc,E2,G2,racc,w2⟩
        rw [List.drop_length] at w2
        unfold Zgw at w2
        split at w2
        · rename_i e2
          exact ⟨(ZiH G2 (rJ.ext E2.toExtS) e2.1).2,Ze5 G2 racc w2⟩
        · exact w2.elim
    · exact w1.elim
  · exact w1.elim
theorem Zvr {x:Str} {px pos:Pos} {iter elt:Expr} {scope:Scope} {N':List Str} {src:List Nat} {sc:Scope} {N:List Str} {fi:IM} {fe:EM} (S:ZbL scope sc x N N' src) (hsc:X.env.scope=sc) (hN:X.N=N) (hi:MI X (.Name x px) iter fi)
    (helt:∀(cl:List (Str×Addr)) (C:Addr) (s₀:Shared) (H₀:Hp) (fp:List Addr),ME (X.comp scope N' cl C s₀ H₀ fp) elt fe) (hcm:X.calm=true:=by rfl) (hs:∀v,foldedSetIterable iter X.env v=pure v:=by intro _; rfl) :
    ME X (.ListComp elt [⟨.Name x px,iter,[],0⟩] scope pos) (ZfC fi src fe):=
  PE.imp (Zvc (te:=tM X fe) S hsc hN hi (fun cl C s₀ H₀ fp=>helt cl C s₀ H₀ fp) hcm hs) Zl2
inductive Fl where
  | nx | rt (d:D) | bk | ct
abbrev SM:=List Sl→Sto→R (Fl×List Sl)
def Zsz (Dn:ZeM) (B:Bx) (σ:St) (H:Hp):Fl→Prop
  | .nx=>Dn.nx σ H
  | .bk=>Dn.bk σ H
  | .ct=>Dn.ct σ H
  | .rt d=>∀v,RepV B H d v→Dn.rt v H
def wpS (X:Cx) (σ:St) (B:Bx) (H:Hp) (r:R (Fl×List Sl)) (Dn:ZeM):Prop:=match r with
  | .ok (fl,ρ') θ'=>∀B' H' σ',ExtS B B' H H'→Frm X.cl B' θ' ρ' σ' H'→Zsz Dn B' σ' H' fl
  | .ex c θ'=>XE X σ B H c θ'
  | .bad=>False
def tMS (X:Cx) (f:SM):TS:=fun Dn σ H=>∃B θ ρ,Frm X.cl B θ ρ σ H∧wpS X σ B H (f ρ θ) Dn
def MS (X:Cx) (st:Stmt) (f:SM):Prop:=PS X st (tMS X f)
def MSs (X:Cx) (sts:List Stmt) (f:SM):Prop:=PSs X sts (tMS X f)
theorem PS.imp {st:Stmt} {t t':TS} (h:PS X st t) (hi:∀D σ H,t' D σ H→t D σ H):PS X st t':=fun pins s σ H D I q=>h pins s σ H D I (hi D σ H q)
theorem PSs.imp {st:List Stmt} {t t':TS} (h:PSs X st t) (hi:∀D σ H,t' D σ H→t D σ H):PSs X st t':=fun pins s σ H D I q=>h pins s σ H D I (hi D σ H q)
theorem wpS.trans {σ σ':St} {B B':Bx} {H H':Hp} {r:R (Fl×List Sl)} {Dn:ZeM} (h:wpS X σ B H r Dn) (E:ExtS B B' H H'):wpS X σ' B' H' r Dn:=by
  cases r with
  | ok a θ'=>exact fun B2 H2 σ2 e g=>h B2 H2 σ2 (E.trans e) g
  | ex c θ'=>exact h
  | bad=>exact h
theorem wpS.bind {α β:Type} {Rel:Bx→Hp→α→β→Prop} {σ:St} {B:Bx} {H:Hp} {r:R α} {k:α→Sto→R (Fl×List Sl)} {Dn:ZeM} (h:wpS X σ B H (r.bind k) Dn) :
    wpR X σ Rel B H r (fun b H1=>∃B1 θ1 a,ExtE B B1 H H1∧Good X.cl B1 θ1 H1∧Rel B1 H1 a b∧wpS X σ B1 H1 (k a θ1) Dn):=by
  cases r with
  | ok a θ'=>exact fun B1 H1 b E g q=>⟨B1,θ',a,E,g,q,wpS.trans h E.toExtS⟩
  | ex c θ'=>exact h
  | bad=>exact h
theorem Zhd {σ:St} {H:Hp} {B:Bx} {θ:Sto} {ρ:List Sl} {f:EM} {k:D→Sto→R (Fl×List Sl)} {Dn:ZeM} (F:Frm X.cl B θ ρ σ H) (h:wpS X σ B H ((f ρ θ).bind k) Dn) :
    tM X f σ H (fun v H1=>∃B1 θ1 d,ExtE B B1 H H1∧Frm X.cl B1 θ1 ρ σ H1∧RepV B1 H1 d v∧wpS X σ B1 H1 (k d θ1) Dn):=
  ⟨B,θ,ρ,F,(wpS.bind (Rel:=RepV) h).mono fun v H1 ⟨B1,θ1,d,E,G,r,w⟩=>⟨B1,θ1,d,E,F.ext E G,r,w⟩⟩
theorem Zo2 {σ:St} {H:Hp} {B:Bx} {θ:Sto} {ρ:List Sl} {f:TMr} {k:Bool→Sto→R (Fl×List Sl)} {Dn:ZeM} (F:Frm X.cl B θ ρ σ H) (h:wpS X σ B H ((f ρ θ).bind k) Dn) :
    tMT X f σ H (fun c H1=>∃B1 θ1,ExtE B B1 H H1∧Frm X.cl B1 θ1 ρ σ H1∧wpS X σ B1 H1 (k c θ1) Dn):=
  ⟨B,θ,ρ,F,(wpS.bind (Rel:=EqB) h).mono fun v H1 ⟨B1,θ1,d,E,G,r,w⟩=>by cases (show d=v from r); exact ⟨B1,θ1,E,F.ext E G,w⟩⟩
theorem ZdF {σ:St} {B:Bx} {H:Hp} {θ:Sto} {ρ:List Sl} {fl:Fl} {Dn:ZeM} (F:Frm X.cl B θ ρ σ H) (h:wpS X σ B H (.ok (fl,ρ) θ) Dn):Zsz Dn B σ H fl:=h B H σ (ExtS.refl B H) F
def ZK:SM:=fun ρ θ=>.ok (.nx,ρ) θ
def Zha (r:R (Fl×List Sl)) (k:SM):R (Fl×List Sl):=r.bind fun p θ=>match p with
  | (.nx,ρ)=>k ρ θ
  | p=>.ok p θ
def Zr (f g:SM):SM:=fun ρ θ=>Zha (f ρ θ) g
theorem Zx:MSs X [] ZK:=PSs.imp Zrd fun D σ H h=>by
  obtain ⟨B,θ,ρ,F,w⟩:=h
  exact ZdF F w
theorem wpS.seq {σ:St} {B:Bx} {H:Hp} {r:R (Fl×List Sl)} {g:SM} {Dn:ZeM} (w:wpS X σ B H (Zha r g) Dn):wpS X σ B H r { Dn with nx:=tMS X g Dn }:=by
  cases r with
  | ex c θ'=>exact w
  | bad=>exact w
  | ok p θ'=>
    obtain ⟨fl,ρ'⟩:=p
    intro B' H' σ' E F
    cases fl with
    | nx=>exact ⟨B',θ',ρ',F,wpS.trans w E⟩
    | bk=>exact w B' H' σ' E F
    | ct=>exact w B' H' σ' E F
    | rt d=>exact w B' H' σ' E F
theorem Zg {st:Stmt} {rest:List Stmt} {f g:SM} (h1:MS X st f) (h2:MSs X rest g):MSs X (st::rest) (Zr f g):=PSs.imp (Zpa h1 h2) fun D σ H h=>by
  obtain ⟨B,θ,ρ,F,w⟩:=h
  exact ⟨B,θ,ρ,F,wpS.seq w⟩
theorem Zj {st:Stmt} {f:SM} (h1:MS X st f):MSs X [st] f:=Zrc h1
def ZrB:SM:=fun _ _=>.bad
theorem ZpI {st:Stmt}:MS X st ZrB:=fun _ _ _ _ _ _ h=>by obtain ⟨_,_,_,_,w⟩:=h; exact w.elim
def zh (f:EM):SM:=fun ρ θ=>(f ρ θ).bind fun _ θ=>.ok (.nx,ρ) θ
theorem ZL {e:Expr} {f:EM} {pos:Pos} (he:ME X e f) (hs:swapsWith e none pos.line X.env=pure false:=by rfl):MS X (.Expr e pos) (zh f):=PS.imp (Zl9 he hs) fun D σ H h=>by
  obtain ⟨B,θ,ρ,F,w⟩:=h
  refine Z5 (Zhd F w) ?_
  rintro v H1 ⟨B1,θ1,d,E1,F1,rd,w1⟩
  exact ZdF F1 w1
def ZJ (f:EM):SM:=fun ρ θ=>(f ρ θ).bind fun d θ=>.ok (.rt d,ρ) θ
theorem Zs {e:Expr} {f:EM} {pos:Pos} (he:ME X e f):MS X (.Return (some e) pos) (ZJ f):=PS.imp (Zti he) fun D σ H h=>by
  obtain ⟨B,θ,ρ,F,w⟩:=h
  refine Z5 (Zhd F w) ?_
  rintro v H1 ⟨B1,θ1,d,E1,F1,rd,w1⟩
  exact ZdF F1 w1 v rd
def ZfA:SM:=fun ρ θ=>.ok (.rt .non,ρ) θ
theorem ZdL {pos:Pos}:MS X (.Return none pos) ZfA:=PS.imp Zre fun D σ H h=>by
  obtain ⟨B,θ,ρ,F,w⟩:=h
  exact ZdF F w .non rfl
def mIf (t:TMr) (f g:SM):SM:=fun ρ θ=>(t ρ θ).bind fun k θ=>if k=true then f ρ θ else g ρ θ
theorem ZH {c:Expr} {a b:List Stmt} {t:TMr} {f g:SM} {pos:Pos} (hc:MT X c t) (ha:MSs X a f) (hb:MSs X b g):MS X (.If c a b pos) (mIf t f g):=PS.imp (Zu6 hc ha hb) fun D σ H h=>by
  obtain ⟨B,θ,ρ,F,w⟩:=h
  refine Zdl (Zo2 F w) ?_
  rintro k H1 ⟨B1,θ1,E1,F1,w1⟩
  cases k with
  | true=>rw [if_pos rfl] at w1 ⊢; exact ⟨B1,θ1,ρ,F1,w1⟩
  | false=>rw [if_neg Bool.false_ne_true] at w1 ⊢; exact ⟨B1,θ1,ρ,F1,w1⟩
theorem Frm.set {B:Bx} {θ:Sto} {ρ:List Sl} {σ:St} {H:Hp} (F:Frm X.cl B θ ρ σ H) (i:Nat) {d:D} {v:V} (r:RepV B H d v):Frm X.cl B θ (ρ.set i (.val d)) (σ.set i (some v)) H:=by
  have oth:∀(j:Nat) (s:Sl),(ρ.set i (Sl.val d))[j]?=some s→(j=i∧s=.val d∧j < σ.length)∨(j≠i∧ρ[j]?=some s):=fun j s e=>by
    by_cases q:j=i
    · subst q
      have hl:j < ρ.length:=by
        have:=(List.getElem?_eq_some_iff.mp e).1
        simpa using this
      rw [List.getElem?_set_self hl] at e
      cases e
      exact .inl ⟨rfl,rfl,by rw [←F.len]; exact hl⟩
    · rw [List.getElem?_set_ne (Ne.symm q)] at e
      exact .inr ⟨q,e⟩
  refine ⟨F.good,by simp [F.len],fun j e h=>?_,fun j xs h=>?_,fun j k xs ys a hne h1 h2 h3=>?_⟩
  · rcases oth j _ h with ⟨rfl,z,hl⟩ | ⟨q,z⟩
    · cases z; exact ⟨v,by rw [List.getElem?_set_self hl],r⟩
    · rw [List.getElem?_set_ne (Ne.symm q)]; exact F.val j e z
  · rcases oth j _ h with ⟨rfl,z,hl⟩ | ⟨q,z⟩
    · cases z
    · rw [List.getElem?_set_ne (Ne.symm q)]; exact F.own j xs z
  · rcases oth j _ h1 with ⟨_,z,_⟩ | ⟨q1,z1⟩
    · cases z
    · rcases oth k _ h2 with ⟨_,z,_⟩ | ⟨q2,z2⟩
      · cases z
      · rw [List.getElem?_set_ne (Ne.symm q1)] at h3
        rw [List.getElem?_set_ne (Ne.symm q2)]
        exact F.ne j k xs ys a hne z1 z2 h3
def Z9 (i:Nat) (f:EM):SM:=fun ρ θ=>(f ρ θ).bind fun d θ=>.ok (.nx,ρ.set i (.val d)) θ
theorem ZI (i:Nat) {x:Str} {e:Expr} {f:EM} {pos pos':Pos} (hN:X.N.Nodup) (he:ME X e f) (hi:X.N[i]?=some x:=by rfl) (hx:Loc X.env.scope x:=by first | exact Or.inl rfl | exact Or.inr rfl)
    (hs:swapsWith e (some (.Name x pos')) pos.line X.env=pure false:=by rfl) (hf:X.fn x=true∨X.env.scope.names.lookup x=some .local:=by first | exact .inl rfl | exact .inr rfl):MS X (.Assign [.Name x pos'] e pos) (Z9 i f):=
  PS.imp (Zpc hN hi hx he hs hf) fun D σ H h=>by
  obtain ⟨B,θ,ρ,F,w⟩:=h
  refine Z5 (Zhd F w) ?_
  rintro v H1 ⟨B1,θ1,d,E1,F1,rd,w1⟩
  exact w1 B1 H1 _ (ExtS.refl _ _) (F1.set i rd)
theorem ZpH (i:Nat) {x y:Str} {px py pos spos:Pos} {iter elt:Expr} {scope:Scope} {N':List Str} {src:List Nat} {sc:Scope} {N:List Str} {fi:IM} {fe:EM} (hnd:X.N.Nodup) (S:ZbL scope sc x N N' src) (hsc:X.env.scope=sc) (hN:X.N=N) (hi:MI X (.Name x px) iter fi)
    (helt:∀(cl:List (Str×Addr)) (C:Addr) (s₀:Shared) (H₀:Hp) (fp:List Addr),ME (X.comp scope N' cl C s₀ H₀ fp) elt fe) (hi':X.N[i]?=some y:=by rfl)
    (hsw:swapsWith (.ListComp elt [⟨.Name x px,iter,[],0⟩] scope pos) (some (.Name y py)) spos.line X.env=pure true:=by rfl)
    (hy:X.env.scope.names.lookup y=some .local:=by rfl) (hcm:X.calm=true:=by rfl) (hs:∀v,foldedSetIterable iter X.env v=pure v:=by intro _; rfl) :
    MS X (.Assign [.Name y py] (.ListComp elt [⟨.Name x px,iter,[],0⟩] scope pos) spos) (Z9 i (ZfC fi src fe)):=
  PS.imp (Zu5 (te:=tM X fe) hnd hi' S hsc hN hi (fun cl C s₀ H₀ fp=>helt cl C s₀ H₀ fp) hsw hy hcm hs) fun D σ H h=>by
  obtain ⟨B,θ,ρ,F,w⟩:=h
  refine Zl2 σ H _ (Z5 (Zhd F w) ?_)
  rintro v H1 ⟨B1,θ1,d,E1,F1,rd,w1⟩
  exact w1 B1 H1 _ (ExtS.refl _ _) (F1.set i rd)
end
end
end L2.MM
namespace L2.MM
open PySem PySem.Spec PyProof.Rows PySem.SeqAt
noncomputable section
variable {X:Cx}
def Ze0 (k:SM):Fl×List Sl→Sto→R (Fl×List Sl)
  | (.nx,ρ),θ=>k ρ θ
  | (.ct,ρ),θ=>k ρ θ
  | (.bk,ρ),θ=>.ok (.nx,ρ) θ
  | (.rt d,ρ),θ=>.ok (.rt d,ρ) θ
theorem wpS.loop {σ:St} {B:Bx} {H:Hp} {r:R (Fl×List Sl)} {k:SM} {Dn:ZeM} (w:wpS X σ B H (r.bind (Ze0 k)) Dn) :
    wpS X σ B H r { Dn with nx:=fun σ' H'=>∃B' θ' ρ',ExtS B B' H H'∧Frm X.cl B' θ' ρ' σ' H'∧wpS X σ' B' H' (k ρ' θ') Dn,ct:=fun σ' H'=>∃B' θ' ρ',ExtS B B' H H'∧Frm X.cl B' θ' ρ' σ' H'∧wpS X σ' B' H' (k ρ' θ') Dn,bk:=Dn.nx }:=by
  cases r with
  | ex c θ'=>exact w
  | bad=>exact w
  | ok p θ'=>
    obtain ⟨fl,ρ'⟩:=p
    intro B' H' σ' E F
    cases fl with
    | nx=>exact ⟨B',θ',ρ',E,F,wpS.trans w E⟩
    | ct=>exact ⟨B',θ',ρ',E,F,wpS.trans w E⟩
    | bk=>exact w B' H' σ' E F
    | rt d=>exact w B' H' σ' E F
theorem wpS.mono {σ:St} {B:Bx} {H:Hp} {r:R (Fl×List Sl)} {D D':ZeM} (w:wpS X σ B H r D) (h1:∀σ H,D.nx σ H→D'.nx σ H) (h2:∀v H,D.rt v H→D'.rt v H) (h3:∀σ H,D.bk σ H→D'.bk σ H) (h4:∀σ H,D.ct σ H→D'.ct σ H):wpS X σ B H r D':=by
  cases r with
  | ex c θ'=>exact w
  | bad=>exact w
  | ok p θ'=>
    obtain ⟨fl,ρ'⟩:=p
    intro B' H' σ' E F
    have:=w B' H' σ' E F
    cases fl with
    | nx=>exact h1 _ _ this
    | ct=>exact h4 _ _ this
    | bk=>exact h3 _ _ this
    | rt d=>exact fun v r=>h2 _ _ (this v r)
abbrev TgM:=D→List Sl→Option (List Sl)
def tMG (X:Cx) (g:TgM):TG:=fun v σ H Q=>∃B θ ρ d ρ',Frm X.cl B θ ρ σ H∧RepV B H d v∧g d ρ=some ρ'∧∀σ',Frm X.cl B θ ρ' σ' H→Q σ' H
def MG (X:Cx) (tg:Expr) (g:TgM):Prop:=PG X tg (tMG X g)
theorem PG.imp {tg:Expr} {t t':TG} (h:PG X tg t) (hi:∀v σ H Q,t' v σ H Q→t v σ H Q):PG X tg t':=fun pins s σ H v u Q I r q=>h pins s σ H v u Q I r (hi v σ H Q q)
def gNm (i:Nat):TgM:=fun d ρ=>some (ρ.set i (.val d))
theorem ZgV (i:Nat) {x:Str} {pos:Pos} (hN:X.N.Nodup) (hi:X.N[i]?=some x:=by rfl) (hx:Loc X.env.scope x:=by first | exact Or.inl rfl | exact Or.inr rfl) (hf:X.fn x=true∨X.env.scope.names.lookup x=some .local:=by first | exact .inl rfl | exact .inr rfl):MG X (.Name x pos) (gNm i):=
  PG.imp (Zfr hN hi hx hf) fun v σ H Q h=>by
  obtain ⟨B,θ,ρ,d,ρ',F,r,e,q⟩:=h
  cases e
  exact q _ (F.set i r)
open Classical in
def Zdu (S:Src) (all:List D) (tg:TgM) (body:SM):List D→SM
  | []=>fun ρ θ=>if S.items θ=some all then .ok (.nx,ρ) θ else .bad
  | x::r=>fun ρ θ=>if S.items θ=some all then (match tg x ρ with
    | none=>.bad
    | some ρ1=>(body ρ1 θ).bind (Ze0 (Zdu S all tg body r))) else .bad
def Zf4 (fi:IM) (tg:TgM) (body:SM):SM:=fun ρ θ=>(fi ρ θ).bind fun S θ=>match S.items θ with
  | some xs=>Zdu S xs tg body xs ρ θ
  | none=>.bad
open Classical in
theorem ZiR {tg iter:Expr} {body:List Stmt} {fi:IM} {g:TgM} {fb:SM} {pos:Pos} (hp:PassesOwn (model X.prog X.w) X.A X.env X.xe) (hi:MI X tg iter fi) (hg:MG X tg g) (hb:MSs X body fb) (hc:X.calm=true:=by rfl)
    (hs:∀x,foldedSetIterable iter X.env x=pure x:=by intro _; rfl):MS X (.For tg iter body [] pos) (Zf4 fi g fb):=
  PS.imp (Zpd hp hc hi hg hb hs) fun Dn σ H h=>by
  obtain ⟨B,θ,ρ,F,w⟩:=h
  refine ⟨B,θ,ρ,F,(wpS.bind (Rel:=SrcRep X.K) w).mono ?_⟩
  rintro J H1 ⟨B1,θ1,S,E1,G1,rJ,w1⟩
  split at w1
  · rename_i xs e1
    refine ⟨fun i m σ H=>∃B θ ρ,Frm X.cl B θ ρ σ H∧SrcRep X.K B H S J∧m=xs.length-i∧i≤xs.length∧wpS X σ B H (Zdu S xs g fb (xs.drop i) ρ θ) Dn,⟨xs.length,B1,θ1,ρ,F.ext E1 G1,rJ,rfl,Nat.zero_le _,w1⟩,?_⟩
    rintro i m σ2 H2 ⟨B2,θ2,ρ2,F2,rJ2,rfl,hi2,w2⟩
    by_cases hlt:i<xs.length
    · rw [List.drop_eq_getElem_cons hlt] at w2
      unfold Zdu at w2
      split at w2
      · rename_i e2
        obtain ⟨g1,g2⟩:=(ZiH F2.good rJ2 e2).1 i xs[i] (List.getElem?_eq_getElem hlt)
        split at w2
        · exact w2.elim
        · rename_i ρ3 e3
          refine .inr ⟨g1,fun σ' H'=>∃B' θ' ρ',ExtS B2 B' H2 H'∧Frm X.cl B' θ' ρ' σ' H'∧wpS X σ' B' H' (Zdu S xs g fb (xs.drop (i+1)) ρ' θ') Dn,?_,fun x H' hy=>?_⟩
          · rintro σ' H' ⟨B',θ',ρ',E',F',w'⟩
            exact ⟨xs.length-(i+1),by omega,B',θ',ρ',F',rJ2.ext E',rfl,hlt,w'⟩
          · obtain ⟨rfl,rx⟩:=g2 x H' hy
            refine ⟨B2,θ2,ρ2,xs[i],ρ3,F2,rx,e3,fun σ' F'=>⟨B2,θ2,ρ3,F',?_⟩⟩
            have w3:=wpS.loop w2
            exact wpS.trans w3 (ExtS.refl _ _)
      · exact w2.elim
    · have e:i=xs.length:=by omega
      subst e
      rw [List.drop_length] at w2
      unfold Zdu at w2
      split at w2
      · rename_i e2
        exact .inl ⟨(ZiH F2.good rJ2 e2).2,ZdF F2 w2⟩
      · exact w2.elim
  · exact w1.elim
def Zcu (t:TMr) (body:SM):Nat→SM
  | 0=>ZrB
  | n+1=>fun ρ θ=>(t ρ θ).bind fun k θ=>if k=true then (body ρ θ).bind (Ze0 (Zcu t body n)) else .ok (.nx,ρ) θ
theorem Zhm (n:Nat) {c:Expr} {body:List Stmt} {t:TMr} {fb:SM} {pos:Pos} (hp:PassesOwn (model X.prog X.w) X.A X.env X.xe) (hc:MT X c t) (hb:MSs X body fb):MS X (.While c body [] pos) (Zcu t fb n):=
  PS.imp (Zpb hp hc hb) fun Dn σ H h=>by
  obtain ⟨B,θ,ρ,F,w⟩:=h
  refine ⟨fun m σ H=>∃B θ ρ,Frm X.cl B θ ρ σ H∧wpS X σ B H (Zcu t fb m ρ θ) Dn,⟨n,B,θ,ρ,F,w⟩,?_⟩
  rintro m σ2 H2 ⟨B2,θ2,ρ2,F2,w2⟩
  cases m with
  | zero=>exact w2.elim
  | succ m=>
    refine Zdl (Zo2 F2 w2) ?_
    rintro k H3 ⟨B3,θ3,E3,F3,w3⟩
    cases k with
    | true=>
      rw [if_pos rfl] at w3 ⊢
      refine ⟨_,?_,⟨B3,θ3,ρ2,F3,wpS.loop w3⟩⟩
      rintro σ' H' ⟨B',θ',ρ',E',F',w'⟩
      exact ⟨m,Nat.lt_succ_self _,B',θ',ρ',F',w'⟩
    | false=>
      rw [if_neg Bool.false_ne_true] at w3 ⊢
      exact ZdF F3 w3
theorem Frm.setOwn {cl:Mo} {B:Bx} {θ:Sto} {ρ:List Sl} {σ:St} {H:Hp} (F:Frm cl B θ ρ σ H) (i:Nat) {p:Addr} (hp:H p=none) {xs:List D} {vs:List V} (r:RepL B H xs vs) :
    ExtS B { B with os:=p::B.os } H (upd H p (.lst vs))∧Frm cl { B with os:=p::B.os } θ (ρ.set i (.own xs)) (σ.set i (some (.ref p))) (upd H p (.lst vs)):=by
  have E0:=ZcI F.good hp (.lst vs)
  have G0:=Zet F.good hp (.lst vs)
  have ok:=F.good.okNone hp
  have E:ExtS B { B with os:=p::B.os } H (upd H p (.lst vs)):=⟨E0.n,E0.m,E0.fr,E0.keep,E0.sm,fun a h=>by
    rcases List.mem_cons.mp h with rfl | h
    · exact .inr hp
    · exact .inl h,rfl,rfl⟩
  refine ⟨E,?_⟩
  have E1:ExtS B { B with os:=p::B.os } H (upd H p (.lst vs)):=E
  have G:Good cl { B with os:=p::B.os } θ (upd H p (.lst vs)):=⟨G0.len,G0.inj,fun j c e=>(F.good.cel j c e).ext E fun u q=>by rw [ZP (zi q hp)]; exact q,fun j hj=>⟨(G0.cF j hj).1,fun z=>by
      rcases List.mem_cons.mp z with z | z
      · exact ok.1 j hj z
      · exact (G0.cF j hj).2 z⟩,G0.Fs,fun a z=>by
      rcases List.mem_cons.mp z with rfl | z
      · rw [zI]; simp
      · exact G0.oS a z,fun a z=>by
      rcases List.mem_cons.mp z with rfl | z
      · exact ok.2.1
      · exact G0.oF a z,G0.kc⟩
  have oth:∀(j:Nat) (s:Sl),(ρ.set i (Sl.own xs))[j]?=some s→(j=i∧s=.own xs∧j < σ.length)∨(j≠i∧ρ[j]?=some s):=fun j s e=>by
    by_cases q:j=i
    · subst q
      have hl:j < ρ.length:=by
        have:=(List.getElem?_eq_some_iff.mp e).1
        simpa using this
      rw [List.getElem?_set_self hl] at e
      cases e
      exact .inl ⟨rfl,rfl,by rw [←F.len]; exact hl⟩
    · rw [List.getElem?_set_ne (Ne.symm q)] at e
      exact .inr ⟨q,e⟩
  have old:∀j ys,ρ[j]?=some (Sl.own ys)→∀a,σ[j]?=some (some (V.ref a))→a≠p:=fun j ys h a e z=>by
    obtain ⟨a',us,q1,q2,q3,q4⟩:=F.own j ys h
    rw [e] at q1
    cases q1
    rw [z,hp] at q3
    cases q3
  refine ⟨G,by simp [F.len],fun j d h=>?_,fun j ys h=>?_,fun j k ys zs a hne h1 h2 h3=>?_⟩
  · rcases oth j _ h with ⟨_,z,_⟩ | ⟨q,z⟩
    · cases z
    · rw [List.getElem?_set_ne (Ne.symm q)]
      obtain ⟨v,q1,q2⟩:=F.val j d z
      exact ⟨v,q1,q2.ext E⟩
  · rcases oth j _ h with ⟨rfl,z,hl⟩ | ⟨q,z⟩
    · cases z
      exact ⟨p,vs,by rw [List.getElem?_set_self hl],List.mem_cons_self,zI,r.ext E⟩
    · rw [List.getElem?_set_ne (Ne.symm q)]
      obtain ⟨a,us,q1,q2,q3,q4⟩:=F.own j ys z
      exact ⟨a,us,q1,List.mem_cons_of_mem _ q2,by rw [ZP (zi q3 hp)]; exact q3,q4.ext E⟩
  · rcases oth j _ h1 with ⟨rfl,z1,hl⟩ | ⟨q1,z1⟩
    · rcases oth k _ h2 with ⟨rfl,z2,_⟩ | ⟨q2,z2⟩
      · exact absurd rfl hne
      · rw [List.getElem?_set_self hl] at h3
        cases h3
        rw [List.getElem?_set_ne (Ne.symm q2)]
        exact fun z=>old k zs z2 _ z rfl
    · rw [List.getElem?_set_ne (Ne.symm q1)] at h3
      rcases oth k _ h2 with ⟨rfl,z2,hl⟩ | ⟨q2,z2⟩
      · rw [List.getElem?_set_self hl]
        intro z
        cases z
        exact old j ys z1 _ h3 rfl
      · rw [List.getElem?_set_ne (Ne.symm q2)]
        exact F.ne j k ys zs a hne z1 z2 h3
def ZgW (i:Nat) (f:AM):SM:=fun ρ θ=>(f ρ θ).bind fun xs θ=>if xs.length≤BIG then .ok (.nx,ρ.set i (.own xs)) θ else .bad
theorem Zo3 {σ:St} {H:Hp} {B:Bx} {θ:Sto} {ρ:List Sl} {f:AM} {k:List D→Sto→R (Fl×List Sl)} {Dn:ZeM} (F:Frm X.cl B θ ρ σ H) (h:wpS X σ B H ((f ρ θ).bind k) Dn) :
    tMA X f σ H (fun v H1=>∃B1 θ1 d,ExtE B B1 H H1∧Frm X.cl B1 θ1 ρ σ H1∧RepL B1 H1 d v∧wpS X σ B1 H1 (k d θ1) Dn):=
  ⟨B,θ,ρ,F,(wpS.bind (Rel:=RepL) h).mono fun v H1 ⟨B1,θ1,d,E,G,r,w⟩=>⟨B1,θ1,d,E,F.ext E G,r,w⟩⟩
theorem Zik (i:Nat) {x:Str} {es:List Expr} {f:AM} {pos pos' lpos:Pos} (hN:X.N.Nodup) (he:MA X es f) (hi:X.N[i]?=some x:=by rfl) (hx:Loc X.env.scope x:=by first | exact Or.inl rfl | exact Or.inr rfl)
    (hs:swapsWith (.List es lpos) (some (.Name x pos')) pos.line X.env=pure false:=by rfl) (hf:X.fn x=true∨X.env.scope.names.lookup x=some .local:=by first | exact .inl rfl | exact .inr rfl):MS X (.Assign [.Name x pos'] (.List es lpos) pos) (ZgW i f):=
  PS.imp (Zpc hN hi hx (Zpk he) hs hf) fun D σ H h=>by
  obtain ⟨B,θ,ρ,F,w⟩:=h
  refine ZbN (Zo3 F w) ?_
  rintro vs H1 ⟨B1,θ1,xs,E1,F1,rd,w1⟩
  split at w1
  · rename_i hz
    refine ⟨by rw [rd.len]; exact Zaq hz,fun p hp=>?_⟩
    obtain ⟨E2,F2⟩:=F1.setOwn i hp rd
    exact w1 _ _ _ E2 F2
  · exact w1.elim
theorem Frm.updOwn {cl:Mo} {B:Bx} {θ:Sto} {ρ:List Sl} {σ:St} {H:Hp} (F:Frm cl B θ ρ σ H) {i:Nat} {xs ys:List D} {us:List V} {a:Addr} (h:ρ[i]?=some (Sl.own xs)) (ha:σ[i]?=some (some (.ref a))) (r:RepL B H ys us) :
    ExtS B B H (upd H a (.lst us))∧Frm cl B θ (ρ.set i (.own ys)) σ (upd H a (.lst us)):=by
  obtain ⟨a',vs,q1,q2,q3,q4⟩:=F.own i xs h
  rw [ha] at q1
  cases q1
  have hc:∀j,j<B.n→B.m j≠a:=fun j hj z=>(F.good.cF j hj).2 (by rw [z]; exact q2)
  have E:ExtS B B H (upd H a (.lst us)):=⟨Nat.le_refl _,fun _ _=>rfl,fun i h h'=>absurd h' (Nat.not_lt.mpr h),fun b o e _ hb=>by rw [ZP (fun z=>hb (by rw [z]; exact q2))]; exact e,fun b e=>by
    by_cases q:b=a
    · rw [q,zI]; simp
    · rw [ZP q]; exact e,fun _ h=>.inl h,rfl,rfl⟩
  have hl:i < ρ.length:=(List.getElem?_eq_some_iff.mp h).1
  have oth:∀(j:Nat) (s:Sl),(ρ.set i (Sl.own ys))[j]?=some s→(j=i∧s=.own ys)∨(j≠i∧ρ[j]?=some s):=fun j s e=>by
    by_cases q:j=i
    · subst q
      rw [List.getElem?_set_self hl] at e
      cases e
      exact .inl ⟨rfl,rfl⟩
    · rw [List.getElem?_set_ne (Ne.symm q)] at e
      exact .inr ⟨q,e⟩
  refine ⟨E,⟨⟨F.good.len,F.good.inj,fun j c e=>(F.good.cel j c e).ext E fun u q=>by
      have hj:j<B.n:=by rw [←F.good.len]; exact (List.getElem?_eq_some_iff.mp e).1
      rw [ZP (hc j hj)]; exact q,F.good.cF,fun b z=>E.sm b (F.good.Fs b z),fun b z=>E.sm b (F.good.oS b z),F.good.oF,F.good.kc⟩,by simp [F.len],fun j d e=>?_,fun j zs e=>?_,fun j k zs ws b hne h1 h2 h3=>?_⟩⟩
  · rcases oth j _ e with ⟨_,z⟩ | ⟨_,z⟩
    · cases z
    · obtain ⟨v,p1,p2⟩:=F.val j d z
      exact ⟨v,p1,p2.ext E⟩
  · rcases oth j _ e with ⟨rfl,z⟩ | ⟨q,z⟩
    · cases z
      exact ⟨a,us,ha,q2,zI,r.ext E⟩
    · obtain ⟨b,ws,p1,p2,p3,p4⟩:=F.own j zs z
      refine ⟨b,ws,p1,p2,?_,p4.ext E⟩
      rw [ZP (fun z'=>F.ne i j xs zs a (Ne.symm q) h z ha (by rw [←z']; exact p1))]
      exact p3
  · have o1:∃zs',ρ[j]?=some (Sl.own zs'):=by
      rcases oth j _ h1 with ⟨rfl,_⟩ | ⟨_,z⟩
      · exact ⟨xs,h⟩
      · exact ⟨_,z⟩
    have o2:∃ws',ρ[k]?=some (Sl.own ws'):=by
      rcases oth k _ h2 with ⟨rfl,_⟩ | ⟨_,z⟩
      · exact ⟨xs,h⟩
      · exact ⟨_,z⟩
    obtain ⟨zs',o1⟩:=o1
    obtain ⟨ws',o2⟩:=o2
    exact F.ne j k zs' ws' b hne o1 o2 h3
def ZdQ (i:Nat) (f:EM):SM:=fun ρ θ=>(f ρ θ).bind fun d θ=>match ρ[i]? with
  | some (Sl.own xs)=>if xs.length<BIG then .ok (.nx,ρ.set i (.own (xs++[d]))) θ else .bad
  | _=>.bad
theorem Zil (i:Nat) {x:Str} {e:Expr} {f:EM} {p apos pos pos':Pos} (he:ME X e f) (hN:X.N[i]?=some x:=by rfl) (hv:Vis X.env.scope x:=by first | exact Or.inl rfl | exact Or.inr (Or.inl rfl) | exact Or.inr (Or.inr rfl))
    (hd:(x == ("__debug__":Str))=false:=by decide) (hcd:(x == ("__classdict__":Str))=false:=by decide)
    (hpe:∀{to:TE},PE X (.Name x p) to→PE X (.Call (.Attribute (.Name x p) "append" apos) [e] [] pos) (tBM X.K "list" Zl6 to (Zsj (tM X f) Zs2)))
    (hs:swapsWith (.Call (.Attribute (.Name x p) "append" apos) [e] [] pos) none pos'.line X.env=pure false:=by rfl):MS X (.Expr (.Call (.Attribute (.Name x p) "append" apos) [e] [] pos) pos') (ZdQ i f):=
  PS.imp (Zl9 (hpe (Zph hN hv hd hcd)) hs) fun D σ H h=>by
  obtain ⟨B,θ,ρ,F,w⟩:=h
  have own:∃xs,ρ[i]?=some (Sl.own xs):=by
    unfold ZdQ at w
    cases q:f ρ θ with
    | bad=>rw [q] at w; exact w.elim
    | ex c θ'=>rw [q] at w; exact False.elim w
    | ok d θ'=>
      rw [q] at w
      simp only [R.bind_ok] at w
      split at w
      · rename_i xs e; exact ⟨xs,e⟩
      · exact w.elim
  obtain ⟨xs,hx⟩:=own
  obtain ⟨a,vs,q1,q2,q3,q4⟩:=F.own i xs hx
  refine ⟨.ref a,q1,.inl ⟨rfl,vs,SqL.of q3⟩,?_⟩
  refine Z5 (Zhd F w) ?_
  rintro y H1 ⟨B1,θ1,d,E1,F1,rd,w1⟩
  rw [hx] at w1
  simp only at w1
  split at w1
  · rename_i hz
    obtain ⟨a',us,p1,p2,p3,p4⟩:=F1.own i xs hx
    rw [q1] at p1
    cases p1
    refine ⟨a,us,y,rfl,rfl,p3,by rw [p4.len]; exact Nat.lt_of_lt_of_le hz (Zaq (Nat.le_refl _)),?_⟩
    obtain ⟨E2,F2⟩:=F1.updOwn hx q1 (p4.app (show RepL B1 H1 [d] [y] from ⟨y,[],rfl,rd,rfl⟩))
    exact w1 _ _ _ E2 F2
  · exact w1.elim
def ZdO (i:Nat) (f:SM):SM:=fun ρ θ=>match ρ[i]? with
  | some (Sl.own xs)=>f (ρ.set i (.val (.lst xs))) θ
  | _=>f ρ θ
theorem Zlu {i:Nat} {f:SM} {D:ZeM} {σ:St} {H:Hp} (h:tMS X (ZdO i f) D σ H):tMS X f D σ H:=by
  obtain ⟨B,θ,ρ,F,w⟩:=h
  unfold ZdO at w
  split at w
  · rename_i xs hx
    obtain ⟨a,vs,q1,q2,q3,q4⟩:=F.own i xs hx
    let B':Bx:={ B with os:=B.os.filter fun b=>decide (b≠a) }
    have sub:∀b,b∈B'.os→b∈B.os∧b≠a:=fun b hb=>by
      have:=List.mem_filter.mp hb
      exact ⟨this.1,of_decide_eq_true this.2⟩
    have E:ExtS B B' H H:=⟨Nat.le_refl _,fun _ _=>rfl,fun i h h'=>absurd h' (Nat.not_lt.mpr h),fun _ _ e _ _=>e,fun _ e=>e,fun b hb=>.inl (sub b hb).1,rfl,rfl⟩
    have hc:∀j,j<B.n→B.m j≠a:=fun j hj z=>(F.good.cF j hj).2 (by rw [z]; exact q2)
    have G:Good X.cl B' θ H:=⟨F.good.len,F.good.inj,fun j c e=>(F.good.cel j c e).ext E fun _ q=>q,fun j hj=>⟨(F.good.cF j hj).1,fun z=>(F.good.cF j hj).2 (sub _ z).1⟩,F.good.Fs,fun b z=>F.good.oS b (sub b z).1,fun b z=>F.good.oF b (sub b z).1,F.good.kc⟩
    have rv:RepV B' H (.lst xs) (.ref a):=⟨a,vs,rfl,q3,⟨hc,F.good.oF a q2,fun z=>(sub a z).2 rfl⟩,q4.ext E⟩
    have hl:i < ρ.length:=(List.getElem?_eq_some_iff.mp hx).1
    have oth:∀(j:Nat) (s:Sl),(ρ.set i (Sl.val (.lst xs)))[j]?=some s→(j=i∧s=.val (.lst xs))∨(j≠i∧ρ[j]?=some s):=fun j s e=>by
      by_cases q:j=i
      · subst q
        rw [List.getElem?_set_self hl] at e
        cases e
        exact .inl ⟨rfl,rfl⟩
      · rw [List.getElem?_set_ne (Ne.symm q)] at e
        exact .inr ⟨q,e⟩
    refine ⟨B',θ,_,⟨G,by simp [F.len],fun j d e=>?_,fun j ys e=>?_,fun j k ys zs b hne h1 h2 h3=>?_⟩,wpS.trans w E⟩
    · rcases oth j _ e with ⟨rfl,z⟩ | ⟨_,z⟩
      · cases z; exact ⟨_,q1,rv⟩
      · obtain ⟨v,p1,p2⟩:=F.val j d z
        exact ⟨v,p1,p2.ext E⟩
    · rcases oth j _ e with ⟨_,z⟩ | ⟨q,z⟩
      · cases z
      · obtain ⟨b,ws,p1,p2,p3,p4⟩:=F.own j ys z
        refine ⟨b,ws,p1,List.mem_filter.mpr ⟨p2,decide_eq_true fun z'=>?_⟩,p3,p4.ext E⟩
        subst z'
        exact F.ne i j xs ys b (Ne.symm q) hx z q1 p1
    · rcases oth j _ h1 with ⟨_,z⟩ | ⟨_,z1⟩
      · cases z
      · rcases oth k _ h2 with ⟨_,z⟩ | ⟨_,z2⟩
        · cases z
        · exact F.ne j k ys zs b hne z1 z2 h3
  · exact ⟨B,θ,ρ,F,w⟩
theorem Zf2 (i:Nat) {st:Stmt} {f:SM} (h:MS X st f):MS X st (ZdO i f):=PS.imp h fun _ _ _ q=>Zlu q
def ZdH (n:Nat) (ds:List D):List Sl:=ds.map Sl.val++List.replicate (n-ds.length) Sl.no
def ZN (np nn:Nat) (fb:SM):GM:=fun ds θ=>if ds.length=np then (fb (ZdH nn ds) θ).bind fun p θ=>match p.1 with
  | .nx=>.ok .non θ
  | .rt d=>.ok d θ
  | _=>.bad
  else .bad
def spM (X:Mo) (f:GM):Sp:=fun vs H Q E=>∃B θ ds,B.os=[]∧Good X B θ H∧RepL B H ds vs∧(match f ds θ with
  | .ok d θ'=>∀B' H' v,ExtE B B' H H'→Good X B' θ' H'→RepV B' H' d v→Q v H'
  | .ex c θ'=>False
  | .bad=>False)
def MDef (P:Program) (w:World) (K:PySem.W.Frag) (mg:Str→Option Value) (base:Heap) (k:Nat) (x:Str) (f:GM):Prop:=∃ps,Def P w K mg base k x ps (spM ⟨zY mg,K⟩ f)
theorem MDef.mono {P:Program} {w:World} {K:PySem.W.Frag} {mg:Str→Option Value} {base:Heap} {x:Str} {f:GM} {j k:Nat} (D:MDef P w K mg base j x f) (h:j≤k):MDef P w K mg base k x f:=let ⟨ps,q⟩:=D; ⟨ps,q.mono h⟩
theorem ZmT {cl:Mo} {B:Bx} {θ:Sto} {H:Hp} {ds:List D} {vs:List V} {N:List Str} {nn:Nat} (G:Good cl B θ H) (r:RepL B H ds vs) (hn:N.length=nn):Frm cl B θ (ZdH nn ds) (Zdm N vs) H:=by
  subst hn
  have hl:=r.len
  have key:∀(i:Nat) (s:Sl),(ZdH N.length ds)[i]?=some s→s=.no∨∃d,s=.val d∧∃v,(Zdm N vs)[i]?=some (some v)∧RepV B H d v:=fun i s e=>by
    unfold ZdH at e
    by_cases q:i<ds.length
    · rw [List.getElem?_append_left (by simpa using q),List.getElem?_map,List.getElem?_eq_getElem q] at e
      cases e
      obtain ⟨v,h1,h2⟩:=r.get (List.getElem?_eq_getElem q)
      refine .inr ⟨_,rfl,v,?_,h2⟩
      unfold Zdm
      rw [List.getElem?_append_left (by simpa [hl] using q),List.getElem?_map,h1]
      rfl
    · rw [List.getElem?_append_right (by simpa using q)] at e
      exact .inl (List.eq_of_mem_replicate (List.mem_of_getElem? e))
  refine ⟨G,by simp [ZdH,Zdm,hl],fun i d e=>?_,fun i xs e=>?_,fun i j xs ys a _ e _=>?_⟩
  · rcases key i _ e with z | ⟨d',z,v',h1,h2⟩
    · cases z
    · cases z; exact ⟨v',h1,h2⟩
  · rcases key i _ e with z | ⟨d',z,_⟩<;>cases z
  · rcases key i _ e with z | ⟨d',z,_⟩<;>cases z
theorem mfn {P:Program} {w:World} {K:PySem.W.Frag} {mg:Str→Option Value} {base:Heap} {x qual:Str} {st:Stmt} {N ps:List Str} {k:Nat} {fb:SM} {f:Addr} {fd:FuncData} (F:Fun K x qual st f fd) (S:Zo N ps (Zf st)) (np nn:Nat) (hp:ps.length=np) (hn:N.length=nn)
    (hbody:∀(cdv:Value) (A:Around) (outer:List Env) (s:Shared) (H:Hp) (E:XK),Room k (A.deeper (envOfC qual (Zf st) s.heap.objs.size f cdv))→MSs (ZgR CX0 P w K mg base N qual (Zf st) f cdv A outer s H E).nox (Zn st) fb) :
    FnOk P w K mg base CX0 (k+1) f fd ps (spM ⟨zY mg,K⟩ (ZN np nn fb)):=by
  refine F.ok S ?_ ?_
  · rintro vs H Q E ⟨B,θ,ds,_,_,r,q⟩
    unfold ZN at q
    split at q
    · rename_i h
      split at h
      · rename_i hl; rw [r.len,hl,hp]
      · cases h
    · exact q.elim
    · exact q.elim
  · intro cdv A outer s H vs Q E hr h
    obtain ⟨B,θ,ds,hos,G,r,q⟩:=h
    refine ⟨tMS (ZgR CX0 P w K mg base N qual (Zf st) f cdv A outer s H E).nox fb,hbody cdv A outer s H E hr,B,θ,ZdH nn ds,ZmT G r hn,?_⟩
    unfold ZN at q
    by_cases hl:ds.length=np
    · rw [if_pos hl] at q
      cases e:fb (ZdH nn ds) θ with
      | bad=>rw [e] at q; exact q.elim
      | ex c θ'=>rw [e] at q; exact q.elim
      | ok p θ'=>
        rw [e] at q
        obtain ⟨fl,ρ'⟩:=p
        intro B' H' σ' E' F'
        have hos':∀a,a∈B.os→False:=fun a ha=>by rw [hos] at ha; cases ha
        let B2:Bx:={ B' with os:=[] }
        have E2:ExtE B B2 H H':=⟨⟨E'.n,E'.m,E'.fr,E'.keep,E'.sm,fun a ha=>(nomatch ha),E'.F,E'.ks⟩,hos.symm,fun a o ha=>(hos' a ha).elim⟩
        have E3:ExtS B' B2 H' H':=⟨Nat.le_refl _,fun _ _=>rfl,fun i h h'=>absurd h' (Nat.not_lt.mpr h),fun _ _ e _ _=>e,fun _ e=>e,fun b hb=>(nomatch hb),rfl,rfl⟩
        have G2:Good ⟨zY mg,K⟩ B2 θ' H':=⟨F'.good.len,F'.good.inj,fun j c e=>(F'.good.cel j c e).ext E3 fun _ q=>q,fun j hj=>⟨(F'.good.cF j hj).1,fun z=>nomatch z⟩,F'.good.Fs,fun b z=>(nomatch z),fun b z=>(nomatch z),F'.good.kc⟩
        cases fl with
        | nx=>exact q B2 H' .non E2 G2 rfl
        | rt d=>exact fun v rv=>q B2 H' v E2 G2 (rv.ext E3)
        | bk=>exact q.elim
        | ct=>exact q.elim
    · rw [if_neg hl] at q
      exact q.elim
theorem ZT {P:Program} {w:World} {K:PySem.W.Frag} {mg:Str→Option Value} {base:Heap} {x:Str} {st:Stmt} {N ps:List Str} {k:Nat} {fb:SM} (D0:Def0 K mg x st ps) (S:Zo N ps (Zf st)) (np nn:Nat) (hp:ps.length=np) (hn:N.length=nn)
    (hbody:∀(f:Addr) (cdv:Value) (A:Around) (outer:List Env) (s:Shared) (H:Hp) (E:XK),Room k (A.deeper (envOfC x (Zf st) s.heap.objs.size f cdv))→MSs (ZgR CX0 P w K mg base N x (Zf st) f cdv A outer s H E).nox (Zn st) fb):MDef P w K mg base (k+1) x (ZN np nn fb):=by
  obtain ⟨f,fd,F,b,m⟩:=D0
  exact ⟨ps,f,fd,mfn F S np nn hp hn (hbody f),b,F.kp,m⟩
def Bx.inC (B:Bx):Bx:={ B with F:=fun a=>B.F a∨a∈B.os,os:=[] }
theorem inC_ok {B:Bx} {a:Addr}:B.inC.ok a↔B.ok a:=by
  constructor
  · rintro ⟨h1,h2,h3⟩
    exact ⟨h1,fun z=>h2 (.inl z),fun z=>h2 (.inr z)⟩
  · rintro ⟨h1,h2,h3⟩
    exact ⟨h1,fun z=>z.elim h2 h3,fun z=>nomatch z⟩
mutual
theorem RepV.same {B B':Bx} {H:Hp} (hn:B'.n=B.n) (hm:B'.m=B.m) (hk:B'.ks=B.ks) (ho:∀a,B.ok a→B'.ok a):∀{d:D} {v:V},RepV B H d v→RepV B' H d v
  | .non,_,h=>h
  | .bl _,_,h=>h
  | .int _,_,h=>h
  | .str _,_,h=>h
  | .ty _,_,h=>h
  | .scr _,_,h=>by
    obtain ⟨a,e,h⟩:=h
    refine ⟨a,e,?_⟩
    rcases h with ⟨o,h,k⟩ | h
    · exact .inl ⟨o,h,ho a k⟩
    · exact .inr (by rw [hk]; exact h)
  | .tup _,_,h=>by obtain ⟨a,vs,e,h,k,l⟩:=h; exact ⟨a,vs,e,h,ho a k,RepL.same hn hm hk ho l⟩
  | .lst _,_,h=>by obtain ⟨a,vs,e,h,k,l⟩:=h; exact ⟨a,vs,e,h,ho a k,RepL.same hn hm hk ho l⟩
  | .ref l,_,h=>⟨by rw [hn]; exact h.1,by rw [hm]; exact h.2⟩
theorem RepL.same {B B':Bx} {H:Hp} (hn:B'.n=B.n) (hm:B'.m=B.m) (hk:B'.ks=B.ks) (ho:∀a,B.ok a→B'.ok a):∀{ds:List D} {vs:List V},RepL B H ds vs→RepL B' H ds vs
  | [],_,h=>h
  | _::_,_,h=>by obtain ⟨v,r,e,hv,hr⟩:=h; exact ⟨v,r,e,RepV.same hn hm hk ho hv,RepL.same hn hm hk ho hr⟩
end
theorem RepKV.same {κ:Type} {B B':Bx} {H:Hp} (hn:B'.n=B.n) (hm:B'.m=B.m) (hk:B'.ks=B.ks) (ho:∀a,B.ok a→B'.ok a):∀{ks:List (κ×D)} {vs:List (κ×V)},RepKV B H ks vs→RepKV B' H ks vs
  | _,_,.nil=>.nil
  | _,_,.cons h t=>.cons ⟨h.1,RepV.same hn hm hk ho h.2⟩ (RepKV.same hn hm hk ho t)
theorem CellOk.same {cl:Mo} {B B':Bx} {H:Hp} {a:Addr} {c:Cell} (hn:B'.n=B.n) (hm:B'.m=B.m) (hk:B'.ks=B.ks) (ho:∀a,B.ok a→B'.ok a) (k:CellOk cl B H a c):CellOk cl B' H a c:=by
  cases c with
  | lst xs=>obtain ⟨vs,e,r⟩:=k; exact ⟨vs,e,r.same hn hm hk ho⟩
  | dK kvs=>obtain ⟨vs,e,r⟩:=k; exact ⟨vs,e,r.same hn hm hk ho⟩
  | dT kvs=>obtain ⟨vs,e,r⟩:=k; exact ⟨vs,e,r.same hn hm hk ho⟩
  | ins C fs=>obtain ⟨dx,vs,e,r⟩:=k; exact ⟨dx,vs,e,r.same hn hm hk ho⟩
theorem Zp3 {cl:Mo} {B:Bx} {θ:Sto} {H:Hp} (G:Good cl B θ H):Good cl B.inC θ H:=
  ⟨G.len,G.inj,fun i c e=>CellOk.same (B:=B) (B':=B.inC) rfl rfl rfl (fun a=>inC_ok.mpr) (G.cel i c e),fun i hi=>⟨fun z=>z.elim (G.cF i hi).1 (G.cF i hi).2,fun z=>nomatch z⟩,fun a z=>z.elim (G.Fs a) (G.oS a),fun a z=>(nomatch z),fun a z=>(nomatch z),G.kc⟩
theorem Zvf {cl:Mo} {B B':Bx} {θ θ':Sto} {H H':Hp} (G:Good cl B θ H) (E:ExtE B.inC B' H H') (G':Good cl B' θ' H') :
    ExtE B { B' with F:=B.F,os:=B.os } H H'∧Good cl { B' with F:=B.F,os:=B.os } θ' H'∧∀d v,RepV B' H' d v→RepV { B' with F:=B.F,os:=B.os } H' d v:=by
  have hF:B'.F=fun a=>B.F a∨a∈B.os:=E.F
  have ho:∀a,B'.ok a→Bx.ok { B' with F:=B.F,os:=B.os } a:=fun a ⟨h1,h2,h3⟩=>by
    rw [hF] at h2
    exact ⟨h1,fun z=>h2 (.inl z),fun z=>h2 (.inr z)⟩
  have keep:∀a o,H a=some o→(∀i,i<B.n→B.m i≠a)→H' a=some o:=fun a o h k=>E.keep a o h k (fun z=>nomatch z)
  refine ⟨⟨⟨E.n,E.m,E.fr,fun a o h k _=>keep a o h k,E.sm,fun a h=>.inl h,rfl,E.ks⟩,rfl,fun a o _ k h=>keep a o h k⟩,⟨G'.len,G'.inj,fun i c e=>CellOk.same (B:=B') (B':={ B' with F:=B.F,os:=B.os }) rfl rfl rfl ho (G'.cel i c e),fun i hi=>?_,fun a z=>E.sm a (G.Fs a z),fun a z=>E.sm a (G.oS a z),G.oF,G'.kc⟩,fun d v r=>RepV.same (B:=B') (B':={ B' with F:=B.F,os:=B.os }) rfl rfl rfl ho r⟩
  have:=(G'.cF i hi).1
  rw [hF] at this
  exact ⟨fun z=>this (.inl z),fun z=>this (.inr z)⟩
theorem ZmB {f:GM} {σ:St} {B:Bx} {θ:Sto} {H:Hp} {ds:List D} {vs:List V} {Q:VK} {E:XK} (G:Good X.cl B θ H) (r:RepL B H ds vs) (w:wpR X σ RepV B H (f ds θ) Q):spM X.cl f vs H Q E:=by
  refine ⟨B.inC,θ,ds,rfl,Zp3 G,RepL.same (B:=B) (B':=B.inC) rfl rfl rfl (fun a=>inC_ok.mpr) r,?_⟩
  cases e:f ds θ with
  | bad=>rw [e] at w; exact w
  | ex c θ'=>rw [e] at w; exact w
  | ok d θ'=>
    rw [e] at w
    intro B' H' v E' G' rv
    obtain ⟨h1,h2,h3⟩:=Zvf G E' G'
    exact w _ H' v h1 h2 (h3 d v rv)
theorem Zh {k j:Nat} {x:Str} {f:GM} {p pos:Pos} {e:Expr} {es:List Expr} {fs:AM} (D0:MDef X.prog X.w X.K X.mg X.base k x f) (hr:Room j X.A) (hj:k≤j) (ha:MA X (e::es) fs) (hg:Gl X x:=by rfl) (hdb:(x == ("__debug__":Str))=false:=by decide)
    (he:starEach (e::es) X.env=(false,eval e X.env)::starEach es X.env:=by rfl) (hpl:(backTo pos (starEach es X.env)).any (·.1)=false:=by rfl):ME X (.Call (.Name x p) (e::es) [] pos) (mCB f fs):=by
  obtain ⟨ps,D0⟩:=D0
  refine PE.imp (Zpq D0 hr hj ha hg hdb he hpl) fun σ H Q h=>?_
  obtain ⟨B,θ,ρ,F,w⟩:=h
  refine ZbN (Zhe F w) ?_
  rintro vs H1 ⟨B1,θ1,ds,E1,F1,rd,w1⟩
  rw [List.append_nil]
  exact ZmB F1.good rd w1
end
end L2.MM
namespace L2.MM
open PySem PySem.Spec PyProof.Rows PySem.SeqAt
noncomputable section
def Zl4 (K:PySem.W.Frag):Sp:=fun vs H Q _=>∃(a:Addr) (ns:List Int),vs=[.ref a]∧Zr5 H∧SqL K H a (ns.map V.int)∧ns.length≤63∧∀H',Q (.bl true) H'
theorem ZrC {P:Program} {w:World} {K:PySem.W.Frag} {mg:Str→Option Value} {base:Heap} {k:Nat} {f:Addr} {fd:FuncData} {ps:List Str} {g:GM} (h:∀ns:List Int,ns.length≤63→∃θ',g [.scr ns] []=.ok (.bl true) θ')
    (F:FnOk P w K mg base CX0 k f fd ps (spM ⟨zY mg,K⟩ g)):FnOk P w K mg base CX0 k f fd ps (Zl4 K):=by
  refine F.imp ?_
  rintro vs H Q E ⟨a,ns,rfl,hO,hS,hl,q⟩
  obtain ⟨θ',e⟩:=h ns hl
  refine ⟨⟨0,fun _=>0,fun _=>False,[],KL K⟩,[],[.scr ns],rfl,⟨rfl,fun i j hi=>absurd hi (Nat.not_lt_zero _),fun i c h=>by simp at h,fun i hi=>absurd hi (Nat.not_lt_zero _),fun a h=>h.elim,fun a h=>(nomatch h),fun a h=>(nomatch h),fun a ns h=>h⟩,?_,?_⟩
  · refine ⟨.ref a,[],rfl,⟨a,rfl,?_⟩,rfl⟩
    rcases hS with (h1 | ⟨o,h1⟩) | h1
    · rcases hO a with z | ⟨o,xs,z⟩
      · rw [z] at h1; cases h1
      · rw [z] at h1; cases h1
    · exact .inl ⟨o,h1,fun i hi=>absurd hi (Nat.not_lt_zero _),fun z=>z,fun z=>(nomatch z)⟩
    · exact .inr h1
  · rw [e]
    intro B' H' v _ _ rv
    cases (show v=V.bl true from rv)
    exact q H'
end
end L2.MM
namespace L2.MM
open PySem PySem.Spec PyProof.Rows PySem.SeqAt
noncomputable section
section
variable {i j k:Nat} {ρ:List Sl} {θ:Sto} {f g h:EM} {fs:AM} {t u:TMr}
@[simp] theorem Zr6:Zd i ρ θ=match ρ[i]? with | some (Sl.val d)=>.ok d θ | _=>.bad:=nr rfl
@[simp] theorem x_c {d:D}:mC d ρ θ=.ok d θ:=nr rfl
@[simp] theorem Zux {o:OM}:mOp o f g ρ θ=(f ρ θ).bind fun x θ=>(g ρ θ).bind fun y θ=>o x y θ:=nr rfl
@[simp] theorem Zye:ZG f ρ θ=(f ρ θ).bind fun x θ=>match x with | .bl k=>.ok k θ | _=>.bad:=nr rfl
@[simp] theorem Zzt:zX f ρ θ=(f ρ θ).bind fun x θ=>match ZgK θ x with | some k=>.ok k θ | none=>.bad:=nr rfl
@[simp] theorem ZzI:Zho t u ρ θ=(t ρ θ).bind fun k θ=>if k=true then u ρ θ else .ok false θ:=nr rfl
@[simp] theorem Zz5:mOr t u ρ θ=(t ρ θ).bind fun k θ=>if k=true then .ok true θ else u ρ θ:=nr rfl
@[simp] theorem Zzx:ZdN t ρ θ=(t ρ θ).bind fun k θ=>.ok (!k) θ:=nr rfl
def Zt0 (g:Sto→R D):D→Sto→R D
  | .bl true,θ=>g θ
  | .bl false,θ=>.ok (.bl false) θ
  | _,_=>.bad
def orK (g:Sto→R D):D→Sto→R D
  | .bl true,θ=>.ok (.bl true) θ
  | .bl false,θ=>g θ
  | _,_=>.bad
@[simp] theorem Zwk {g:Sto→R D} {k:Bool}:Zt0 g (.bl k) θ=if k=true then g θ else .ok (.bl false) θ:=by cases k<;>rfl
@[simp] theorem ZyW {g:Sto→R D} {k:Bool}:orK g (.bl k) θ=if k=true then .ok (.bl true) θ else g θ:=by cases k<;>rfl
@[simp] theorem Zyq:Zbu f g ρ θ=(f ρ θ).bind (Zt0 (g ρ)):=by
  show (f ρ θ).bind _=_
  congr 1
  funext x θ
  cases x<;>first | rfl | (rename_i b; cases b<;>rfl)
@[simp] theorem Zzw:Zm5 f g ρ θ=(f ρ θ).bind (orK (g ρ)):=by
  show (f ρ θ).bind _=_
  congr 1
  funext x θ
  cases x<;>first | rfl | (rename_i b; cases b<;>rfl)
@[simp] theorem Zvt {p:Prop} [Decidable p] {m:Bool}:(if p then R.ok (D.bl m) θ else R.ok (D.bl false) θ)=R.ok (D.bl (decide p && m)) θ:=by by_cases h:p<;>simp [h]
@[simp] theorem Zwb {p:Prop} [Decidable p] {m:Bool}:(if p then R.ok (D.bl true) θ else R.ok (D.bl m) θ)=R.ok (D.bl (decide p || m)) θ:=by by_cases h:p<;>simp [h]
@[simp] theorem Zun {p:Prop} [Decidable p] {m:Bool}:(if p then R.ok m θ else R.ok false θ)=R.ok (decide p && m) θ:=by by_cases h:p<;>simp [h]
@[simp] theorem Zvs {p:Prop} [Decidable p] {m:Bool}:(if p then R.ok true θ else R.ok m θ)=R.ok (decide p || m) θ:=by by_cases h:p<;>simp [h]
@[simp] theorem Zyk:Zms f ρ θ=(f ρ θ).bind fun x θ=>match ZgK θ x with | some k=>.ok (.bl (!k)) θ | none=>.bad:=nr rfl
@[simp] theorem Zzy:ZpQ f ρ θ=(f ρ θ).bind fun x θ=>match x with | .int i=>.ok (.int (-i)) θ | _=>.bad:=nr rfl
@[simp] theorem ZzB:ZfB t f g ρ θ=(t ρ θ).bind fun k θ=>if k=true then f ρ θ else g ρ θ:=nr rfl
@[simp] theorem ZvY {o o':OM}:ZdP o o' f g h ρ θ=(f ρ θ).bind fun x θ=>(g ρ θ).bind fun y θ=>(o x y θ).bind (Zt0 fun θ=>(h ρ θ).bind fun w θ=>o' y w θ):=by
  show (f ρ θ).bind _=_
  congr 1
  funext x θ
  congr 1
  funext y θ
  congr 1
  funext z θ
  cases z<;>first | rfl | (rename_i b; cases b<;>rfl)
@[simp] theorem Zr7:Zk ρ θ=.ok [] θ:=nr rfl
@[simp] theorem ZoR:Zc f fs ρ θ=(f ρ θ).bind fun x θ=>(fs ρ θ).bind fun xs θ=>.ok (x::xs) θ:=nr rfl
@[simp] theorem Zzs:Zaa fs ρ θ=(fs ρ θ).bind fun xs θ=>if xs.length≤BIG then .ok (.tup xs) θ else .bad:=nr rfl
@[simp] theorem Zuy:ZaC fs ρ θ=(fs ρ θ).bind fun xs θ=>if xs.length≤BIG then .ok (.lst xs) θ else .bad:=nr rfl
@[simp] theorem Zyr {o:GM}:mCB o fs ρ θ=(fs ρ θ).bind fun xs θ=>o xs θ:=nr rfl
@[simp] theorem ZoP:ZaV ρ θ=.ok none θ:=nr rfl
@[simp] theorem ZsE:Zbt f ρ θ=(f ρ θ).bind fun x θ=>match x with | .int i=>.ok (some i) θ | _=>.bad:=nr rfl
@[simp] theorem Zyf {lo hi:PM}:mSl f lo hi ρ θ=(f ρ θ).bind fun x θ=>(lo ρ θ).bind fun l θ=>(hi ρ θ).bind fun h θ=>match Ze8 θ x l h with
  | some d=>.ok d θ
  | none=>.bad:=nr rfl
@[simp] theorem Zzu {lo hi st:PM}:ZrA f lo hi st ρ θ=(f ρ θ).bind fun x θ=>(lo ρ θ).bind fun l θ=>(hi ρ θ).bind fun h θ=>(st ρ θ).bind fun s θ=>match ZaR θ x with
  | some xs=>if s≠some 0∧(Zdo xs l h s).length≤BIG then .ok (.lst (Zdo xs l h s)) θ else .bad
  | none=>.bad:=nr rfl
@[simp] theorem Zz7:mIn f ρ θ=(f ρ θ).bind fun d θ=>match seqOf θ d with | some _=>.ok (.seq d) θ | none=>.bad:=nr rfl
@[simp] theorem Zyi:Zd3 fs ρ θ=(fs ρ θ).bind fun ds θ=>match ds with
  | [.int j]=>if -1000000≤j∧j≤1000000 then .ok (.rng 0 j.toNat) θ else .bad
  | _=>.bad:=by
  unfold Zd3; exact nr rfl
variable {a b:SM} {Fl':Fl×List Sl}
@[simp] theorem Zyg:ZK ρ θ=.ok (.nx,ρ) θ:=nr rfl
@[simp] theorem ZzH:ZrB ρ θ=.bad:=nr rfl
@[simp] theorem Zt5 {ρ':List Sl}:Zha (.ok (.nx,ρ') θ) a=a ρ' θ:=nr rfl
@[simp] theorem Zt4 {ρ':List Sl} {d:D}:Zha (.ok (.rt d,ρ') θ) a=.ok (.rt d,ρ') θ:=nr rfl
@[simp] theorem Zzv:Zr a b ρ θ=Zha (a ρ θ) b:=nr rfl
@[simp] theorem Zyo:zh f ρ θ=(f ρ θ).bind fun _ θ=>.ok (.nx,ρ) θ:=nr rfl
@[simp] theorem ZoO:ZJ f ρ θ=(f ρ θ).bind fun d θ=>.ok (.rt d,ρ) θ:=nr rfl
@[simp] theorem Zyj:ZfA ρ θ=.ok (.rt .non,ρ) θ:=nr rfl
@[simp] theorem Zz8:mIf t a b ρ θ=(t ρ θ).bind fun k θ=>if k=true then a ρ θ else b ρ θ:=nr rfl
@[simp] theorem Zuw:Z9 i f ρ θ=(f ρ θ).bind fun d θ=>.ok (.nx,ρ.set i (.val d)) θ:=nr rfl
@[simp] theorem Zuv:ZgW i fs ρ θ=(fs ρ θ).bind fun xs θ=>if xs.length≤BIG then .ok (.nx,ρ.set i (.own xs)) θ else .bad:=nr rfl
@[simp] theorem ZuD:ZdQ i f ρ θ=(f ρ θ).bind fun d θ=>match ρ[i]? with
  | some (Sl.own xs)=>if xs.length<BIG then .ok (.nx,ρ.set i (.own (xs++[d]))) θ else .bad
  | _=>.bad:=nr rfl
@[simp] theorem ZuC:ZdO i a ρ θ=match ρ[i]? with | some (Sl.own xs)=>a (ρ.set i (.val (.lst xs))) θ | _=>a ρ θ:=nr rfl
@[simp] theorem ZeN {ρ':List Sl}:Ze0 a (.nx,ρ') θ=a ρ' θ:=nr rfl
@[simp] theorem ZzD {d:D}:gNm i d ρ=some (ρ.set i (.val d)):=nr rfl
@[simp] theorem ZzG {np nn:Nat} {ds:List D}:ZN np nn a ds θ=if ds.length=np then (a (ZdH nn ds) θ).bind fun p θ=>match p.1 with | .nx=>.ok .non θ | .rt d=>.ok d θ | _=>.bad else .bad:=nr rfl
@[simp] theorem ZvU {n:Nat} {ds:List D}:ZdH n ds=ds.map Sl.val++List.replicate (n-ds.length) Sl.no:=nr rfl
@[simp] theorem Zgn {xs:List D}:seqOf θ (.tup xs)=some xs:=nr rfl
@[simp] theorem Zt3 {b:Bool}:ZgK θ (.bl b)=some b:=nr rfl
@[simp] theorem ZsD {ns:List Int}:ZgK θ (.scr ns)=some (!(ns.map D.int).isEmpty):=nr rfl
@[simp] theorem ZsG {xs:List D}:look θ (.lst xs)=.lst xs:=nr rfl
@[simp] theorem ZsH {n:Int}:look θ (.int n)=.int n:=nr rfl
@[simp] theorem ZsF {n:Str}:look θ (.str n)=.str n:=nr rfl
@[simp] theorem ZoQ {xs:List D} {n:Int}:ixM (.lst xs) (.int n) θ=match atI xs n with | some d=>.ok d θ | none=>.bad:=nr rfl
@[simp] theorem Zfj {xs:List D} {n:Int}:ixM (.tup xs) (.int n) θ=match atI xs n with | some d=>.ok d θ | none=>.bad:=nr rfl
@[simp] theorem ZuA {xs:List Int} {n:Int}:ixM (.scr xs) (.int n) θ=match atI (xs.map D.int) n with | some d=>.ok d θ | none=>.bad:=nr rfl
@[simp] theorem Zuz {xs:List D}:ZdR [.lst xs] θ=.ok (.int xs.length) θ:=nr rfl
@[simp] theorem ZmM {xs:List D}:ZdR [.tup xs] θ=.ok (.int xs.length) θ:=nr rfl
@[simp] theorem Zt6 {xs:List Int}:ZdR [.scr xs] θ=.ok (.int (xs.map D.int).length) θ:=nr rfl
@[simp] theorem Zuu {xs:List D}:ZmR [.lst xs] θ=match ZfF xs with | some ns=>.ok (.int ns.sum) θ | none=>.bad:=nr rfl
@[simp] theorem ZuE {xs:List D}:Zqz [.lst xs] θ=match Zi2 xs with | some ns=>.ok (.bl (ns.all id)) θ | none=>.bad:=nr rfl
@[simp] theorem Zzz {m n:Int}:ZkT [.int m,.int n] θ=.ok (.int (if n<m then n else m)) θ:=nr rfl
@[simp] theorem Zyl {m n k:Int}:ZkT [.int m,.int n,.int k] θ=.ok (.int (if n<m then (if k<n then k else n) else (if k<m then k else m))) θ:=nr rfl
@[simp] theorem ZzA {m n:Int}:Zrz [.int m,.int n] θ=.ok (.int (if n > m then n else m)) θ:=nr rfl
@[simp] theorem Zyn {k:Bool}:ZrE [.bl k] θ=.ok (.int (if k then 1 else 0)) θ:=nr rfl
@[simp] theorem ZoN {xs:List D} {lo hi:Option Int}:Ze8 θ (.lst xs) lo hi=some (.lst (ZbM xs lo hi)):=nr rfl
@[simp] theorem Zz6 {x:D}:isM x .non θ=.ok (.bl (Zcr x)) θ:=nr rfl
@[simp] theorem ZzC {x y:Bool}:isM (.bl x) (.bl y) θ=.ok (.bl (x == y)) θ:=nr rfl
@[simp] theorem ZvV {x:D}:Zga x .non θ=.ok (.bl (!Zcr x)) θ:=nr rfl
@[simp] theorem ZuB {x y:Bool}:Zga (.bl x) (.bl y) θ=.ok (.bl (!(x == y))) θ:=nr rfl
end
mutual
def pl:Nat→D→Bool
  | _,.non=>true
  | _,.bl _=>true
  | _,.int _=>true
  | _,.str x=>PyData.strOk x
  | k+1,.tup xs=>pls k xs
  | k+1,.lst xs=>pls k xs
  | _,_=>false
def pls:Nat→List D→Bool
  | _,[]=>true
  | k,d::r=>pl k d && pls k r
end
mutual
def noB:D→Bool
  | .bl _=>false
  | .tup xs=>Zec xs
  | .lst xs=>Zec xs
  | _=>true
def Zec:List D→Bool
  | []=>true
  | d::r=>noB d && Zec r
end
mutual
theorem Zmb:∀(k:Nat) (d:D),pl k d=true→plain d=true∧(dat d).canLay0=true∧(dat d).depth≤k
  | _,.non,_=>⟨rfl,rfl,Nat.zero_le _⟩
  | _,.bl _,_=>⟨rfl,rfl,Nat.zero_le _⟩
  | _,.int _,_=>⟨rfl,rfl,Nat.zero_le _⟩
  | k,.str x,h=>⟨rfl,by cases k<;>simpa [pl,dat,PyData.canLay0] using h,Nat.zero_le _⟩
  | k+1,.tup xs,h=>by
    obtain ⟨a,b,c⟩:=Zly k xs (by simpa [pl] using h)
    exact ⟨a,b,by simp only [dat,PyData.depth]; omega⟩
  | k+1,.lst xs,h=>by
    obtain ⟨a,b,c⟩:=Zly k xs (by simpa [pl] using h)
    exact ⟨a,b,by simp only [dat,PyData.depth]; omega⟩
  | 0,.tup xs,h=>by simp [pl] at h
  | 0,.lst xs,h=>by simp [pl] at h
  | 0,.ty _,h=>by simp [pl] at h
  | 0,.scr _,h=>by simp [pl] at h
  | 0,.ref _,h=>by simp [pl] at h
  | _+1,.ty _,h=>by simp [pl] at h
  | _+1,.scr _,h=>by simp [pl] at h
  | _+1,.ref _,h=>by simp [pl] at h
theorem Zly:∀(k:Nat) (ds:List D),pls k ds=true→ZbP ds=true∧PyData.canLayAll0 (Zeu ds)=true∧PyData.depthAll (Zeu ds)≤k
  | _,[],_=>⟨rfl,rfl,Nat.zero_le _⟩
  | k,d::r,h=>by
    have h':pl k d=true∧pls k r=true:=by simpa [pls] using h
    obtain ⟨a,b,c⟩:=Zmb k d h'.1
    obtain ⟨a',b',c'⟩:=Zly k r h'.2
    exact ⟨by simp [ZbP,a,a'],by simp [Zeu,PyData.canLayAll0,b,b'],by simp only [Zeu,PyData.depthAll]; omega⟩
end
mutual
theorem Zmn:∀(d e:D),noB d=true→noB e=true→noMix (dat d) (dat e)=true:=fun d e p q=>by
  cases d with
  | bl _=>simp [noB] at p
  | tup xs=>
    cases e with
    | bl _=>simp [noB] at q
    | tup ys=>simp only [dat,noMix]; exact Zhk xs ys p q
    | _=>simp [dat,noMix]
  | lst xs=>
    cases e with
    | bl _=>simp [noB] at q
    | lst ys=>simp only [dat,noMix]; exact Zhk xs ys p q
    | _=>simp [dat,noMix]
  | _=>cases e<;>simp_all [noB,dat,noMix]
theorem Zhk:∀(ds es:List D),Zec ds=true→Zec es=true→noMixAll (Zeu ds) (Zeu es)=true
  | [],[],_,_=>rfl
  | [],_::_,_,_=>rfl
  | _::_,[],_,_=>rfl
  | d::ds,e::es,p,q=>by
    have p':noB d=true∧Zec ds=true:=by simpa [Zec] using p
    have q':noB e=true∧Zec es=true:=by simpa [Zec] using q
    simp only [Zeu,noMixAll,Bool.and_eq_true]
    exact ⟨Zmn d e p'.1 q'.1,Zhk ds es p'.2 q'.2⟩
end
theorem Zh8 {k:Nat} {d:D} (h:pl k d=true) (hk:k≤64):shaped (dat d)=true:=by
  obtain ⟨_,b,c⟩:=Zmb k d h
  unfold shaped
  rw [b,decide_eq_true (by omega)]
  rfl
theorem Zdf {x y:D} (h1:pl 9 x=true) (h2:pl 9 y=true) (h3:noB x=true) (h4:noB y=true):Zln x y:=
  ⟨(Zmb _ _ h1).1,(Zmb _ _ h2).1,Zh8 h1 (by decide),Zh8 h2 (by decide),Zmn x y h3 h4⟩
section
open Classical
theorem Zhx {x y:D} {θ:Sto} (h:Zln (look θ x) (look θ y)):eqM x y θ=.ok (.bl (decide (look θ x=look θ y))) θ:=if_pos h
theorem Zhl {x y:D} {θ:Sto} (h:Zln (look θ x) (look θ y)):neM x y θ=.ok (.bl (!decide (look θ x=look θ y))) θ:=if_pos h
end
@[simp] theorem Zu7 (k:Nat) (ns:List Int):pls k (ns.map D.int)=true:=by
  induction ns with
  | nil=>rfl
  | cons n r ih=>simp only [List.map_cons,pls,ih,Bool.and_true]; cases k<;>rfl
@[simp] theorem Zul (ns:List Int):Zec (ns.map D.int)=true:=by
  induction ns with
  | nil=>rfl
  | cons n r ih=>simp only [List.map_cons,Zec,ih,Bool.and_true]; rfl
@[simp] theorem Zsv (ns ms:List Int):(ns.map D.int=ms.map D.int)↔ns=ms:=by
  constructor
  · intro h
    have:∀(ns ms:List Int),ns.map D.int=ms.map D.int→ns=ms:=fun ns=>by
      induction ns with
      | nil=>intro ms h; cases ms with
        | nil=>rfl
        | cons _ _=>cases h
      | cons n r ih=>intro ms h; cases ms with
        | nil=>cases h
        | cons m s=>simp at h; rw [h.1,ih s h.2]
    exact this ns ms h
  · intro h; rw [h]
@[simp] theorem Zzg (a b:Int) (θ:Sto):eqM (.int a) (.int b) θ=.ok (.bl (decide (a=b))) θ:=by
  rw [Zhx (Zdf rfl rfl rfl rfl)]
  simp
@[simp] theorem ZyX (a b:Int) (θ:Sto):neM (.int a) (.int b) θ=.ok (.bl (!decide (a=b))) θ:=by
  rw [Zhl (Zdf rfl rfl rfl rfl)]
  simp
@[simp] theorem ZrL (a b:List Int) (θ:Sto):eqM (.lst (a.map D.int)) (.lst (b.map D.int)) θ=.ok (.bl (decide (a=b))) θ:=by
  rw [Zhx (Zdf (by simp [pl]) (by simp [pl]) (by simp [noB]) (by simp [noB]))]
  simp
@[simp] theorem Zrw (a b:List Int) (θ:Sto):neM (.lst (a.map D.int)) (.lst (b.map D.int)) θ=.ok (.bl (!decide (a=b))) θ:=by
  rw [Zhl (Zdf (by simp [pl]) (by simp [pl]) (by simp [noB]) (by simp [noB]))]
  simp
end
end L2.MM
namespace L2.MM
open PySem PySem.Spec PyProof.Rows PySem.SeqAt My
noncomputable section
@[simp] theorem Zt2:BIG=100000:=nr rfl
def il (ns:List Int):D:=.lst (ns.map D.int)
def itp (ns:List Int):D:=.tup (ns.map D.int)
section
variable {θ:Sto} {a b ns ms:List Int} {i j:Int}
@[simp] theorem Zz1:D.lst (ns.map D.int)=il ns:=nr rfl
theorem Zbl:D.lst []=il []:=rfl
@[simp] theorem Zz0 (x:Int):D.lst [.int x]=il [x]:=nr rfl
@[simp] theorem ZvH (x y:Int):D.lst [.int x,.int y]=il [x,y]:=nr rfl
@[simp] theorem ZzZ (x y z w:Int):D.lst [.int x,.int y,.int z,.int w]=il [x,y,z,w]:=nr rfl
@[simp] theorem Zvx:ZaR θ (il a)=some (a.map D.int):=nr rfl
@[simp] theorem Zvw:seqOf θ (il a)=some (a.map D.int):=nr rfl
@[simp] theorem ZpZ:ZV (il a) (il b) θ=if a.length+b.length≤BIG then .ok (il (a++b)) θ else .bad:=by
  unfold il
  rw [ZqA]
  simp [il]
theorem ZiW (h:a.length+b.length≤100000):ZV (il a) (il b) θ=.ok (il (a++b)) θ:=by
  rw [ZpZ,if_pos h]
@[simp] theorem Zy2:ZdR [il a] θ=.ok (.int a.length) θ:=by
  unfold il; rw [Zuz]; simp
@[simp] theorem Zy0:ZdR [itp a] θ=.ok (.int a.length) θ:=by
  unfold itp; rw [ZmM]; simp
theorem Zr2 {α β:Type} (f:α→β) (xs:List α) (n:Int):atI (xs.map f) n=(atI xs n).map f:=by
  unfold L2.atI
  rw [List.length_map]
  cases ixN xs.length n with
  | none=>rfl
  | some k=>simp
theorem Zvy:ixM (il a) (.int i) θ=match atI a i with | some z=>.ok (.int z) θ | none=>.bad:=by
  unfold il
  rw [ZoQ,Zr2]
  cases atI a i<;>rfl
theorem Zqw {xs:List Int} {i:Int} (h0:0≤i) (h:i<xs.length):atI xs i=some (xs.getD i.toNat 0):=by
  have c:i=((i.toNat:Nat):Int):=by omega
  rw [c]
  refine ZeW ?_
  have d:i.toNat<xs.length:=by omega
  rw [List.getD_eq_getElem?_getD,Int.toNat_natCast,List.getElem?_eq_getElem d]
  rfl
def gt (a:List Int) (i:Nat):Int:=a.getD i 0
theorem ZbW (h0:0≤i) (h:i<a.length):ixM (il a) (.int i) θ=.ok (.int (gt a i.toNat)) θ:=by rw [Zvy,Zqw h0 h]; rfl
@[simp] theorem Zy4 {x:Int} {r:List Int}:ixM (il (x::r)) (.int 0) θ=.ok (.int x) θ:=ZbW (a:=x::r) (i:=0) (by decide) (by rw [List.length_cons]; omega)
@[simp] theorem Zy3 {x y:Int} {r:List Int}:ixM (il (x::y::r)) (.int 1) θ=.ok (.int y) θ:=ZbW (a:=x::y::r) (i:=1) (by decide) (by rw [List.length_cons,List.length_cons]; omega)
@[simp high] theorem ZAc {x:D} {r:List D}:ixM (.tup (x::r)) (.int 0) θ=.ok x θ:=by
  rw [Zfj,show (0:Int)=((0:Nat):Int) from rfl,ZeW (j:=0) (v:=x) rfl]
@[simp high] theorem ZAb {x y:D} {r:List D}:ixM (.tup (x::y::r)) (.int 1) θ=.ok y θ:=by
  rw [Zfj,show (1:Int)=((1:Nat):Int) from rfl,ZeW (j:=1) (v:=y) rfl]
@[simp high] theorem ZAa {x y z:D} {r:List D}:ixM (.tup (x::y::z::r)) (.int 2) θ=.ok z θ:=by
  rw [Zfj,show (2:Int)=((2:Nat):Int) from rfl,ZeW (j:=2) (v:=z) rfl]
@[simp high] theorem Zz9 {x y z w:D} {r:List D}:ixM (.tup (x::y::z::w::r)) (.int 3) θ=.ok w θ:=by
  rw [Zfj,show (3:Int)=((3:Nat):Int) from rfl,ZeW (j:=3) (v:=w) rfl]
theorem Zqj {α β:Type} (f:α→β) (xs:List α) (lo hi:Option Int):ZbM (xs.map f) lo hi=(ZbM xs lo hi).map f:=by
  unfold ZbM
  rw [List.length_map,List.map_take,List.map_drop]
@[simp] theorem Zmw {lo hi:Option Int}:Ze8 θ (il a) lo hi=some (il (ZbM a lo hi)):=by
  unfold il; rw [ZoN,Zqj]
@[simp] theorem Zwc:ZkV [itp a] θ=.ok (il a) θ:=nr rfl
@[simp] theorem Zvv:Ze6 [il a] θ=.ok (itp a) θ:=nr rfl
@[simp] theorem Zy1:ZmR [il a] θ=.ok (.int a.sum) θ:=by unfold il; rw [Zuu,ZpX]
@[simp] theorem ZzT {n:String}:Zgu [il a,.ty n] θ=match isT .lst n with | some b=>.ok (.bl b) θ | none=>.bad:=nr rfl
@[simp] theorem ZzU:eqM (il a) (il b) θ=.ok (.bl (decide (a=b))) θ:=ZrL a b θ
@[simp] theorem ZzS:neM (il a) (il b) θ=.ok (.bl (!decide (a=b))) θ:=Zrw a b θ
theorem ZfZ {α β:Type} (f:α→β) (xs:List α) (lo hi st:Option Int):Zdo (xs.map f) lo hi st=(Zdo xs lo hi st).map f:=by
  unfold Zdo
  rw [List.length_map,List.map_filterMap]
  congr
  funext k
  simp
theorem Zhn:∀{ns ms:List Int},ns.map V.int=ms.map V.int→ns=ms
  | [],[],_=>rfl
  | [],_::_,h=>by cases h
  | _::_,[],h=>by cases h
  | _::_,_::_,h=>by simp at h; rw [h.1,Zhn h.2]
@[simp] theorem Zsp (ns:List Int):Zdo ns none none (some 2)=Zd6 ns:=Zhn (by
  have:=Znj ns
  rw [show Zeh (ns.map V.int) none none (some 2)=Zdo (ns.map V.int) none none (some 2) from rfl,ZfZ] at this
  exact this)
@[simp] theorem Ztl (ns:List Int):Zdo ns (some 1) none (some 2)=Zhh ns:=Zhn (by
  have:=Zqi ns
  rw [show Zeh (ns.map V.int) (some 1) none (some 2)=Zdo (ns.map V.int) (some 1) none (some 2) from rfl,ZfZ] at this
  exact this)
end
theorem ZiK {n d:Nat} {k:Int} (h:0≤k):HT.sIx n d (some k)=min k.toNat n:=by
  have c:k=((k.toNat:Nat):Int):=by omega
  rw [c]
  exact HT.sIx_nat n d k.toNat
theorem Zgd {α:Type} (xs:List α) {k:Int} (h:0≤k):ZbM xs none (some k)=xs.take k.toNat:=by
  unfold ZbM
  rw [HT.sIx_none,ZiK h,List.drop_zero,Nat.sub_zero,←List.take_take,List.take_length]
theorem Zdv {α:Type} (xs:List α) {k:Int} (h:0≤k):ZbM xs (some k) none=xs.drop k.toNat:=by
  unfold ZbM
  rw [HT.sIx_none,ZiK h]
  by_cases q:k.toNat≤xs.length
  · rw [Nat.min_eq_left q,List.take_of_length_le]
    rw [List.length_drop]
    exact Nat.le_refl _
  · rw [Nat.min_eq_right (by omega),List.drop_length,List.drop_eq_nil_of_le (by omega)]
    simp
theorem ZrP {α:Type} (xs:List α) {k l:Int} (h:0≤k) (h':0≤l):ZbM xs (some k) (some l)=(xs.drop k.toNat).take (l.toNat-k.toNat):=by
  unfold ZbM
  rw [ZiK h,ZiK h']
  by_cases q:k.toNat≤xs.length
  · rw [Nat.min_eq_left q]
    by_cases r:l.toNat≤xs.length
    · rw [Nat.min_eq_left r]
    · rw [Nat.min_eq_right (by omega),List.take_of_length_le (by rw [List.length_drop]; exact Nat.le_refl _),List.take_of_length_le (by rw [List.length_drop]; omega)]
  · rw [Nat.min_eq_right (a:=k.toNat) (by omega),List.drop_length,List.drop_eq_nil_of_le (i:=k.toNat) (by omega)]
    simp
section
variable {θ:Sto} {ρ:List Sl}
@[simp] theorem ZcK {lo:Int} {n:Nat}:(Src.rng lo n).items θ=some ((List.range n).map fun (i:Nat)=>D.int (lo+(i:Int))):=nr rfl
@[simp] theorem ZmU {d:D}:(Src.seq d).items θ=seqOf θ d:=nr rfl
open Classical in
theorem Zge {S:Src} {all:List D} {elt:D→Sto→R D} {θ:Sto} (f:D→D) (hS:S.items θ=some all):∀(xs acc:List D),(∀x∈xs,elt x θ=.ok (f x) θ)→(acc.length+xs.length≤BIG)→Zgw S all elt xs acc θ=.ok (.lst (acc++xs.map f)) θ
  | [],acc,_,hl=>by
    unfold Zgw
    rw [if_pos ⟨hS,by simpa using hl⟩]
    simp
  | x::r,acc,h,hl=>by
    unfold Zgw
    rw [if_pos hS,h x List.mem_cons_self]
    rw [R.bind_ok,Zge f hS r (acc++[f x]) (fun y hy=>h y (List.mem_cons_of_mem _ hy)) (by simp at hl ⊢; omega)]
    simp
theorem Zm7 {fi:IM} {src:List Nat} {elt:EM} {lo:Int} {n:Nat} {θ':Sto} (f:Int→D) (hi:fi ρ θ=.ok (.rng lo n) θ') (hn:n≤BIG) (he:∀i:Nat,i<n→elt (Ze1 src ρ (.int (lo+i))) θ'=.ok (f (lo+i)) θ') :
    ZfC fi src elt ρ θ=.ok (.lst ((List.range n).map fun (i:Nat)=>f (lo+i))) θ':=by
  unfold ZfC
  rw [hi,R.bind_ok]
  simp only [ZcK]
  rw [if_pos (by simpa using hn),Zge (fun d=>match d with | .int k=>f k | d=>d) rfl]
  · simp
  · intro x hx
    obtain ⟨i,hi,rfl⟩:=List.mem_map.mp hx
    exact he i (List.mem_range.mp hi)
  · simpa using hn
theorem Zm6 {fi:IM} {src:List Nat} {elt:EM} {d:D} {xs:List D} {θ':Sto} (f:D→D) (hi:fi ρ θ=.ok (.seq d) θ') (hd:seqOf θ' d=some xs) (hn:xs.length≤BIG) (he:∀x∈xs,elt (Ze1 src ρ x) θ'=.ok (f x) θ') :
    ZfC fi src elt ρ θ=.ok (.lst (xs.map f)) θ':=by
  unfold ZfC
  rw [hi,R.bind_ok]
  simp only [ZmU,hd]
  rw [if_pos hn,Zge (S:=.seq d) f hd xs [] he (by simpa using hn)]
  simp
@[simp] theorem Zvu {src:List Nat} {x:D}:Ze1 src ρ x=Sl.val x::src.map fun (j:Nat)=>match ρ[j]? with | some (Sl.val d)=>Sl.val d | _=>Sl.no:=nr rfl
open Classical in
theorem ZrJ {lo:Int} {n:Nat} {all:List D} {tg:TgM} {body:SM} (st:Nat→List Sl) (hs:∀i ρ1,i<n→tg (.int (lo+i)) (st i)=some ρ1→body ρ1 θ=.ok (.nx,st (i+1)) θ) (ht:∀i,i<n→∃ρ1,tg (.int (lo+i)) (st i)=some ρ1) (hall:all=(List.range n).map fun (i:Nat)=>D.int (lo+(i:Int))) :
    Zdu (.rng lo n) all tg body all (st 0) θ=.ok (.nx,st n) θ:=by
  subst hall
  have key:∀m,m≤n→Zdu (.rng lo n) ((List.range n).map fun (i:Nat)=>D.int (lo+(i:Int))) tg body (((List.range n).map fun (i:Nat)=>D.int (lo+(i:Int))).drop (n-m)) (st (n-m)) θ=.ok (.nx,st n) θ:=fun m=>by
    induction m with
    | zero=>
      intro _
      rw [Nat.sub_zero,List.drop_eq_nil_of_le (by simp)]
      simp [Zdu]
    | succ m ih=>
      intro hm
      have hlt:n-(m+1)<n:=by omega
      rw [List.drop_eq_getElem_cons (by simpa using hlt)]
      obtain ⟨ρ1,h1⟩:=ht (n-(m+1)) hlt
      have h2:=hs (n-(m+1)) ρ1 hlt h1
      have e:n-(m+1)+1=n-m:=by omega
      simp only [List.getElem_map,List.getElem_range,Zdu,ZcK,if_true,h1]
      rw [h2,R.bind_ok,ZeN,e]
      exact ih (by omega)
  have:=key n (Nat.le_refl _)
  rw [Nat.sub_self,List.drop_zero] at this
  exact this
end
end
end L2.MM
namespace L2.MM
open PySem PySem.Spec PyProof.Rows PySem.SeqAt
noncomputable section
variable {X:Cx}
def ZaD (f:Str) (v:D):List (Str×D)→List (Str×D)
  | []=>[(f,v)]
  | (g,x)::r=>if g=f then (g,v)::r else (g,x)::ZaD f v r
theorem RepKV.put {B:Bx} {H:Hp} {f:Str} {d:D} {v:V} (q:RepV B H d v):∀{fs:List (Str×D)} {vs:List (Str×V)},RepKV B H fs vs→RepKV B H (ZaD f d fs) (Zdn f v vs)
  | _,_,.nil=>.cons ⟨rfl,q⟩ .nil
  | (g,x)::fs,(g',y)::vs,.cons h t=>by
    obtain ⟨h1,h2⟩:=h
    cases (show g=g' from h1)
    unfold ZaD Zdn
    by_cases e:g=f
    · rw [if_pos e,if_pos e]; exact .cons ⟨rfl,q⟩ t
    · rw [if_neg e,if_neg e]; exact .cons ⟨rfl,h2⟩ (RepKV.put q t)
theorem RepKV.len {κ:Type} {B:Bx} {H:Hp}:∀{fs:List (κ×D)} {vs:List (κ×V)},RepKV B H fs vs→vs.length=fs.length
  | _,_,.nil=>rfl
  | _,_,.cons _ t=>by rw [List.length_cons,List.length_cons,RepKV.len t]
theorem RepKV.get {B:Bx} {H:Hp} {f:Str} {d:D}:∀{fs:List (Str×D)} {vs:List (Str×V)},RepKV B H fs vs→fs.lookup f=some d→∃v,vs.lookup f=some v∧RepV B H d v
  | _,_,.nil,h=>by cases h
  | (g,x)::fs,(g',y)::vs,.cons h t,e=>by
    obtain ⟨h1,h2⟩:=h
    cases (show g=g' from h1)
    rw [List.lookup_cons] at e ⊢
    cases q:f == g with
    | true=>rw [q] at e; cases e; exact ⟨y,rfl,h2⟩
    | false=>rw [q] at e; exact RepKV.get t e
theorem RepKV.none {B:Bx} {H:Hp} {f:Str}:∀{fs:List (Str×D)} {vs:List (Str×V)},RepKV B H fs vs→fs.lookup f=none→vs.lookup f=none
  | _,_,.nil,h=>rfl
  | (g,x)::fs,(g',y)::vs,.cons h t,e=>by
    obtain ⟨h1,h2⟩:=h
    cases (show g=g' from h1)
    rw [List.lookup_cons] at e ⊢
    cases q:f == g with
    | true=>rw [q] at e; cases e
    | false=>rw [q] at e; exact RepKV.none t e
def Zes (θ:Sto):D→Option (Nat×Str×List (Str×D))
  | .ref l=>match θ[l]? with
    | some (.ins C fs)=>some (l,C,fs)
    | _=>none
  | _=>none
theorem Zk2 {cl:Mo} {B:Bx} {θ:Sto} {H:Hp} (G:Good cl B θ H) {d:D} {v:V} {l:Nat} {C:Str} {fs:List (Str×D)} (r:RepV B H d v) (h:Zes θ d=some (l,C,fs)) :
    l<B.n∧v=.ref (B.m l)∧∃dx vs,H (B.m l)=some (.ins (cl.cl C) dx vs)∧RepKV B H fs vs:=by
  cases d with
  | ref k=>
    simp only [Zes] at h
    split at h
    · rename_i C' fs' e
      cases h
      obtain ⟨hl,rfl⟩:=r
      obtain ⟨dx,vs,h1,h2⟩:=G.cel _ _ e
      exact ⟨hl,rfl,dx,vs,h1,h2⟩
    · cases h
  | _=>cases h
def zG (cs:List Str) (f:Str):D→Sto→R D:=fun d θ=>match Zes θ d with
  | some (_,C,fs)=>if cs.contains C=true then (match fs.lookup f with
    | some v=>.ok v θ
    | none=>.bad) else .bad
  | none=>.bad
def ZF (cs:List Str) (f:Str) (fe:EM):EM:=fun ρ θ=>(fe ρ θ).bind (zG cs f)
def ZsC (X:Cx) (f:Str) (C:Str):Prop:=Cls X.K (X.cl.cl C)∧NoAttr X.K (X.cl.cl C) f
theorem Zq {P:Str→Prop} {a:Str} (h:P a):∀C,[a].contains C=true→P C:=fun C hc=>by
  have:C=a:=by simpa using hc
  rw [this]; exact h
theorem Zm {cs:List Str} {f:Str} {e:Expr} {fe:EM} {pos:Pos} (hc:∀C,cs.contains C=true→ZsC X f C) (he:ME X e fe) (hb:attributeBase e f X.env (eval e X.env)=eval e X.env:=by rfl):ME X (.Attribute e f pos) (ZF cs f fe):=by
  refine PE.imp (Ztu he hb) fun σ H Q h=>?_
  obtain ⟨B,θ,ρ,F,w⟩:=h
  refine Z5 (step F w) ?_
  rintro v H1 ⟨B1,θ1,d,E1,F1,rd,w1⟩
  unfold zG at w1
  split at w1
  · rename_i l C fs e1
    split at w1
    · rename_i hC
      split at w1
      · rename_i y ey
        obtain ⟨hl,rfl,dx,vs,h1,h2⟩:=Zk2 F1.good rd e1
        obtain ⟨u,h3,h4⟩:=h2.get ey
        exact ⟨_,_,dx,vs,u,rfl,h1,(hc C hC).1,(hc C hC).2,h3,ZO F1.good h4 w1⟩
      · exact w1.elim
    · exact w1.elim
  · exact w1.elim
def za (cs:List Str) (f:Str) (y d:D) (θ:Sto):Option Sto:=match Zes θ d with
  | some (l,C,fs)=>if cs.contains C=true∧fs.length<1000 then some (θ.set l (.ins C (ZaD f y fs))) else none
  | none=>none
def ZD (cs:List Str) (f:Str) (fe fv:EM):SM:=fun ρ θ=>(fv ρ θ).bind fun y θ=>(fe ρ θ).bind fun d θ=>match za cs f y d θ with
  | some θ'=>.ok (.nx,ρ) θ'
  | none=>.bad
theorem Zv {cs:List Str} {f:Str} {o value:Expr} {fe fv:EM} {pos pos':Pos} (hc:∀C,cs.contains C=true→ZsC X f C) (he:ME X o fe) (hv:ME X value fv) (hs:swapsWith value (some (.Attribute o f pos')) pos.line X.env=pure false:=by rfl) :
    MS X (.Assign [.Attribute o f pos'] value pos) (ZD cs f fe fv):=
  PS.imp (Ztj he hv hs) fun D σ H h=>by
  obtain ⟨B,θ,ρ,F,w⟩:=h
  refine Z5 (Zhd F w) ?_
  rintro y H1 ⟨B1,θ1,dy,E1,F1,ry,w1⟩
  refine Z5 (Zhd F1 w1) ?_
  rintro v H2 ⟨B2,θ2,d,E2,F2,rd,w2⟩
  unfold za at w2
  cases e1:Zes θ2 d with
  | none=>rw [e1] at w2; exact w2.elim
  | some q=>
    obtain ⟨l,C,fs⟩:=q
    rw [e1] at w2
    simp only at w2
    by_cases hC:cs.contains C=true∧fs.length<1000
    · rw [if_pos hC] at w2
      obtain ⟨hl,rfl,dx,vs,h1,h2⟩:=Zk2 F2.good rd e1
      refine ⟨_,_,dx,vs,rfl,h1,(hc C hC.1).1,(hc C hC.1).2,by rw [h2.len]; exact hC.2,?_⟩
      have E3:=ZgZ F2.good hl (.ins (X.cl.cl C) dx (Zdn f y vs))
      have G3:=Zhu F2.good hl (o:=.ins (X.cl.cl C) dx (Zdn f y vs)) (c:=.ins C (ZaD f dy fs)) ⟨dx,_,zI,(h2.put (ry.ext E2.toExtS)).ext E3.toExtS⟩
      exact w2 _ _ _ E3.toExtS (F2.ext E3 G3)
    · rw [if_neg hC] at w2
      exact w2.elim
structure MMk (P:Program) (w:World) (K:PySem.W.Frag) (mg:Str→Option Value) (base:Heap) (k:Nat) (C:Str) (f:GM):Prop where
  ex:∃(fI:Addr) (fd:FuncData) (ps:List Str),Mk K (zY mg C) fI∧FnOk P w K mg base CX0 k fI fd ps (spM ⟨zY mg,K⟩ f)∧Binds K fd ps []
  mg:mg C=some (.ref (zY mg C))
def mkG (C:Str) (f:GM):GM:=fun vs θ=>(f (.ref θ.length::vs) (θ++[.ins C []])).bind fun v θ'=>match v with
  | .non=>.ok (.ref θ.length) θ'
  | _=>.bad
theorem wpR.made {σ:St} {B:Bx} {θ:Sto} {H:Hp} {C:Str} {f:GM} {ds:List D} {vs:List V} {Q:VK} {E:XK} (G:Good X.cl B θ H) (r:RepL B H ds vs) (w:wpR X σ RepV B H (mkG C f ds θ) Q) :
    ∀x dx,H x=none→H dx=none→dx≠x→spM X.cl f (.ref x::(vs++[])) (upd (upd H dx (.own x)) x (.ins (X.cl.cl C) dx [])) (fun v H2=>v=.non∧Q (.ref x) H2) E:=by
  intro x dx hx hdx ne
  have E1:=ZcI G hdx (.own x)
  have G1:=Zet G hdx (.own x)
  have hx1:upd H dx (.own x) x=none:=by rw [ZP (Ne.symm ne)]; exact hx
  have E2:=Zhw G1 hx1 (.ins (X.cl.cl C) dx [])
  have G2:Good X.cl (B.push x) (θ++[.ins C []]) _:=Zir G1 hx1 (o:=.ins (X.cl.cl C) dx []) (c:=.ins C []) ⟨dx,[],zI,.nil⟩
  have rx:RepV (B.push x) (upd (upd H dx (.own x)) x (.ins (X.cl.cl C) dx [])) (.ref θ.length) (.ref x):=⟨by rw [G.len]; exact Nat.lt_succ_self _,by rw [G.len]; show V.ref x=V.ref (if B.n=B.n then x else B.m B.n); rw [if_pos rfl]⟩
  rw [List.append_nil]
  refine ZmB (σ:=σ) G2 (show RepL _ _ (.ref θ.length::ds) (.ref x::vs) from ⟨_,_,rfl,rx,r.ext (E1.trans E2).toExtS⟩) ?_
  have w1:=wpR.trans w (E1.trans E2)
  refine (wpR.bind (Rel:=RepV) w1).mono ?_
  rintro v H3 ⟨B3,θ3,d,E3,G3,rd,w3⟩
  cases d with
  | non=>exact ⟨rd,ZO G3 (rx.ext E3.toExtS) w3⟩
  | _=>exact w3.elim
theorem Zry {k j:Nat} {x:Str} {f:GM} {p pos:Pos} {e:Expr} {es:List Expr} {fs:AM} (M:MMk X.prog X.w X.K X.mg X.base k x f) (hr:Room j X.A) (hj:k+1≤j) (ha:MA X (e::es) fs) (hg:Gl X x:=by rfl) (hdb:(x == ("__debug__":Str))=false:=by decide)
    (he:starEach (e::es) X.env=(false,eval e X.env)::starEach es X.env:=by rfl) (hpl:(backTo pos (starEach es X.env)).any (·.1)=false:=by rfl):ME X (.Call (.Name x p) (e::es) [] pos) (mCB (mkG x f) fs):=by
  obtain ⟨fI,fd,ps,m,F0,b⟩:=M.ex
  refine PE.imp (Zrl m F0 (hr.mono hj) hg M.mg b .nil Zps ha hdb he hpl) fun σ H Q h=>?_
  obtain ⟨B,θ,ρ,F,w⟩:=h
  refine ZbN (Zhe F w) ?_
  rintro vs H1 ⟨B1,θ1,ds,E1,F1,rd,w1⟩
  exact wpR.made F1.good rd w1
theorem ZkU {k j:Nat} {x:Str} {f:GM} {p pos:Pos} (M:MMk X.prog X.w X.K X.mg X.base k x f) (hr:Room j X.A) (hj:k+1≤j) (hg:Gl X x:=by rfl) (hdb:(x == ("__debug__":Str))=false:=by decide):ME X (.Call (.Name x p) [] [] pos) (mCB (mkG x f) Zk):=by
  obtain ⟨fI,fd,ps,m,F0,b⟩:=M.ex
  refine PE.imp (Zpj m F0 (hr.mono hj) hg M.mg b .nil Zps hdb) fun σ H Q h=>?_
  obtain ⟨B,θ,ρ,F,w⟩:=h
  exact wpR.made (ds:=[]) (vs:=[]) F.good (show RepL B H [] [] from rfl) w
structure Zz4 (P:Program) (w:World) (K:PySem.W.Frag) (mg:Str→Option Value) (base:Heap) (k:Nat) (C m:Str) (f:GM):Prop where
  ex:∃(fa:Addr) (fd:FuncData) (ps:List Str),Zzp K (zY mg C) m fa∧FnOk P w K mg base CX0 k fa fd ps (spM ⟨zY mg,K⟩ f)∧Binds K fd ps []
  cl:Cls K (zY mg C)
instance {C C':Str} {gs:List (Str×D)} {m:Str}:Decidable (C'=C∧gs.lookup m=none):=by
  cases h:gs.lookup m with
  | none=>exact if e:C'=C then isTrue ⟨e,rfl⟩ else isFalse fun z=>e z.1
  | some _=>exact isFalse fun z=>nomatch z.2
theorem mmk {P:Program} {w:World} {K:PySem.W.Frag} {mg:Str→Option Value} {base:Heap} {x qual:Str} {st:Stmt} {N ps:List Str} {k:Nat} {fb:SM} {f:Addr} {fd:FuncData} {C:Str} (F:Fun K x qual st f fd) (S:Zo N ps (Zf st)) (np nn:Nat) (hp:ps.length=np) (hn:N.length=nn) (b:Binds K fd ps []) (M:Mk K (zY mg C) f) (hm:mg C=some (.ref (zY mg C)))
    (hbody:∀(cdv:Value) (A:Around) (outer:List Env) (s:Shared) (H:Hp) (E:XK),Room k (A.deeper (envOfC qual (Zf st) s.heap.objs.size f cdv))→MSs (ZgR CX0 P w K mg base N qual (Zf st) f cdv A outer s H E).nox (Zn st) fb):MMk P w K mg base (k+1) C (ZN np nn fb):=
  ⟨⟨f,fd,ps,M,mfn F S np nn hp hn hbody,b⟩,hm⟩
def ZlF:EM:=fun _ θ=>.ok (.ref θ.length) (θ++[.dK []])
theorem ZpO {pos:Pos}:ME X (.Dict [] [] pos) ZlF:=by
  refine PE.imp Zpo fun σ H Q h=>?_
  obtain ⟨B,θ,ρ,F,w⟩:=h
  intro p hp
  have G:=F.good
  exact w (B.push p) _ _ (Zhw G hp _) (Zir G hp ⟨[],zI,.nil⟩) ⟨by rw [G.len]; exact Nat.lt_succ_self _,by rw [G.len]; show V.ref p=V.ref (if B.n=B.n then p else B.m B.n); rw [if_pos rfl]⟩
section
variable {ρ:List Sl} {θ:Sto} {fe fv fo:EM} {cs:List Str} {f:Str}
@[simp] theorem ZzE:ZF cs f fe ρ θ=(fe ρ θ).bind (zG cs f):=nr rfl
@[simp] theorem Zyh:ZD cs f fe fv ρ θ=(fv ρ θ).bind fun y θ=>(fe ρ θ).bind fun d θ=>match za cs f y d θ with
  | some θ'=>.ok (.nx,ρ) θ'
  | none=>.bad:=nr rfl
@[simp] theorem ZvX:ZlF ρ θ=.ok (.ref θ.length) (θ++[.dK []]):=nr rfl
end
end
end L2.MM
namespace L2.MM
open PySem PySem.Spec PyProof.Rows PySem.SeqAt
def Mk0 (K:PySem.W.Frag) (mg:Str→Option Value) (C qual:Str) (st:Stmt) (ps:List Str):Prop:=
  ∃(f:Addr) (fd:FuncData),Fun K "__init__" qual st f fd∧Binds K fd ps []∧Mk K (zY mg C) f∧mg C=some (.ref (zY mg C))
theorem ZmA {mg:Str→Option Value} {x:Str} {a:Addr} (h:mg x=some (.ref a)):zY mg x=a:=by unfold zY; rw [h]
theorem mk0 {P:Program} {w:World} {K:PySem.W.Frag} {mg:Str→Option Value} {base:Heap} {qual:Str} {st:Stmt} {N ps:List Str} {k:Nat} {fb:SM} {C:Str} (D:Mk0 K mg C qual st ps) (S:Zo N ps (Zf st)) (np nn:Nat) (hp:ps.length=np) (hn:N.length=nn)
    (hbody:∀(f:Addr) (cdv:Value) (A:Around) (outer:List Env) (s:Shared) (H:Hp) (E:XK),Room k (A.deeper (envOfC qual (Zf st) s.heap.objs.size f cdv))→MSs (ZgR CX0 P w K mg base N qual (Zf st) f cdv A outer s H E).nox (Zn st) fb):MMk P w K mg base (k+1) C (ZN np nn fb):=by
  obtain ⟨f,fd,F,b,M,hm⟩:=D
  exact mmk F S np nn hp hn b M hm (hbody f)
end L2.MM
namespace My
open PySem L2 L2.MM
noncomputable section
def ZfO:SM:=(Zcu (ZG (mOp gtM (Zd 1) (mC (.int 65535)))) (Z9 1 (mOp ZV (mOp Zba (Zd 1) (mC (.int 65536))) (mOp Zfe (Zd 1) (mC (.int 65536))))) 200)
def ZhJ:SM:=(Zr (Z9 1 (mOp ZV (mOp ZcW (mC (.int 256)) (mCB ZmR (Zc (ZrA (Zd 0) ZaV ZaV (Zbt (mC (.int 2)))) Zk))) (mCB ZmR (Zc (ZrA (Zd 0) (Zbt (mC (.int 1))) ZaV (Zbt (mC (.int 2)))) Zk))))
  (Zr ZfO
  (ZJ (Zd 1))))
def ZcU:GM:=ZN 1 2 ZhJ
def ZhC:SM:=(ZJ (mOp ZfW (mC (.int 65535)) (mCB ZcU (Zc (Zd 0) Zk))))
def Zei:GM:=ZN 1 1 ZhC
def ZmG:SM:=(ZJ (ZfB (ZG (mOp neM (mOp ZvR (Zd 0) (Zd 1)) (mC (.int 0)))) (mC (.int 1)) (mC (.int 0))))
def ZeY:GM:=ZN 2 2 ZmG
def ZhG:SM:=(Zr (Z9 1 (mOp ixM (Zd 0) (mC (.int 4))))
  (ZJ (mOp ZV (mOp ZV (mCB ZdR (Zc (mOp ixM (Zd 0) (mC (.int 7))) Zk)) (mCB ZeY (Zc (Zd 1) (Zc (mC (.int 2)) Zk)))) (mCB ZeY (Zc (Zd 1) (Zc (mC (.int 1)) Zk))))))
def Zcn:GM:=ZN 1 2 ZhG
def ZdA:SM:=(ZJ (mOp ZcW (mC (.int 16)) (mOp Zfe (Zd 0) (mC (.int 4)))))
def zR:GM:=ZN 1 1 ZdA
def Ze3:SM:=(ZJ (ZaC (Zc (mOp Zba (mOp Zfe (Zd 0) (mC (.int 256))) (mC (.int 256))) (Zc (mOp Zba (Zd 0) (mC (.int 256))) Zk))))
def zj:GM:=ZN 1 1 Ze3
def ZeF:SM:=(ZJ (mOp ZV (mCB zj (Zc (mOp Zfe (Zd 0) (mC (.int 65536))) Zk)) (mCB zj (Zc (Zd 0) Zk))))
def Zbg:GM:=ZN 1 1 ZeF
def Zb2:SM:=(Zr (Z9 1 (mOp ZV (mCB zj (Zc (mOp ixM (Zd 0) (mC (.int 0))) Zk)) (mCB zj (Zc (mOp ixM (Zd 0) (mC (.int 1))) Zk))))
  (Zr (Z9 2 (mOp ZV (mCB Zbg (Zc (mOp ixM (Zd 0) (mC (.int 2))) Zk)) (mCB Zbg (Zc (mOp ixM (Zd 0) (mC (.int 3))) Zk))))
  (Zr (Z9 3 (ZfB (ZG (mOp eqM (mOp ixM (Zd 0) (mC (.int 6))) (mC (.int 0)))) (mC (.int 20)) (mC (.int 24))))
  (ZJ (mOp ZV (mOp ZV (mOp ZV (Zd 1) (Zd 2)) (ZaC (Zc (mCB zR (Zc (Zd 3) Zk)) (Zc (mOp ixM (Zd 0) (mC (.int 4))) Zk)))) (mCB zj (Zc (mOp ixM (Zd 0) (mC (.int 5))) Zk)))))))
def zQ:GM:=ZN 1 4 Zb2
def Zdc:SM:=(ZJ (ZfB (ZG (mOp eqM (Zd 0) (mC (.int 0)))) (ZaC Zk) (mOp ZV (ZaC (Zc (mC (.int 2)) (Zc (mC (.int 4)) Zk))) (mCB zj (Zc (Zd 0) Zk)))))
def ZaX:GM:=ZN 1 1 Zdc
def ZmE:SM:=(Zr (Z9 1 (mCB zQ (Zc (Zd 0) Zk)))
  (Zr (Z9 2 (mOp ZV (mOp ZV (ZaC (Zc (mC (.int 0)) (Zc (mC (.int 0)) Zk))) (mCB ZaX (Zc (mOp ixM (Zd 0) (mC (.int 6))) Zk))) (mCB ZkV (Zc (mOp ixM (Zd 0) (mC (.int 7))) Zk))))
  (ZJ (mOp ZV (mOp ZV (Zd 1) (mCB zj (Zc (mCB Zei (Zc (mOp ZV (mOp ZV (Zd 1) (ZaC (Zc (mC (.int 0)) (Zc (mC (.int 0)) Zk)))) (Zd 2)) Zk)) Zk))) (Zd 2)))))
def ZkJ:GM:=ZN 1 3 ZmE
def Zgy:SM:=(ZJ (mOp ZcW (mOp Zfe (mOp ixM (Zd 0) (mC (.int 12))) (mC (.int 16))) (mC (.int 4))))
def Zbf:GM:=ZN 1 1 Zgy
def ZhB:SM:=(ZJ (mOp ZV (mOp ZcW (mC (.int 256)) (mOp ixM (Zd 0) (Zd 1))) (mOp ixM (Zd 0) (mOp ZV (Zd 1) (mC (.int 1))))))
def Zab:GM:=ZN 2 2 ZhB
def ZbZ:SM:=(ZJ (Zbu (mOp eqM (mCB ZeY (Zc (mOp ixM (Zd 0) (mC (.int 13))) (Zc (mC (.int 2)) Zk))) (mC (.int 1))) (Zbu (mOp eqM (mOp ixM (Zd 0) (mC (.int 20))) (mC (.int 2))) (Zbu (mOp eqM (mOp ixM (Zd 0) (mC (.int 21))) (mC (.int 4))) (mOp geM (mCB Zab (Zc (Zd 0) (Zc (mC (.int 22)) Zk))) (mC (.int 4)))))))
def zP:GM:=ZN 1 1 ZbZ
def Zbj:SM:=(ZJ (Zbu (mOp geM (mCB ZdR (Zc (Zd 0) Zk)) (mC (.int 20))) (Zbu (mOp inM (mOp ixM (Zd 0) (mC (.int 12))) (Zaa (Zc (mCB zR (Zc (mC (.int 20)) Zk)) (Zc (mCB zR (Zc (mC (.int 24)) Zk)) Zk)))) (Zbu (mOp leM (mOp ixM (Zd 0) (mC (.int 13))) (mC (.int 31))) (Zbu (ZdP leM leM (mC (.int 0)) (mOp ZfW (mCB ZdR (Zc (Zd 0) Zk)) (mCB Zbf (Zc (Zd 0) Zk))) (mC (.int 16))) (Zbu (mOp eqM (mCB Zab (Zc (Zd 0) (Zc (mC (.int 18)) Zk))) (mC (.int 0))) (Zbu (Zm5 (mOp eqM (mCB Zbf (Zc (Zd 0) Zk)) (mC (.int 20))) (mCB zP (Zc (Zd 0) Zk))) (mOp eqM (mCB ZcU (Zc (Zd 0) Zk)) (mC (.int 65535))))))))))
def Zad:GM:=ZN 1 1 Zbj
def Zgz:SM:=(ZJ (mOp ZV (mOp ZcW (mC (.int 65536)) (mCB Zab (Zc (Zd 0) (Zc (Zd 1) Zk)))) (mCB Zab (Zc (Zd 0) (Zc (mOp ZV (Zd 1) (mC (.int 2))) Zk)))))
def ZcM:GM:=ZN 2 2 Zgz
def Zgf:SM:=(mIf (ZdN (zX (mCB Zad (Zc (Zd 0) Zk)))) ZrB ZK)
def Zi5:SM:=(Zr Zgf
  (Zr (Z9 1 (mCB Zbf (Zc (Zd 0) Zk)))
  (Zr (Z9 2 (ZfB (ZG (mOp eqM (Zd 1) (mC (.int 24)))) (mCB Zab (Zc (Zd 0) (Zc (mC (.int 22)) Zk))) (mC (.int 0))))
  (Zr (Z9 3 (Zaa (Zc (mCB Zab (Zc (Zd 0) (Zc (mC (.int 0)) Zk))) (Zc (mCB Zab (Zc (Zd 0) (Zc (mC (.int 2)) Zk))) Zk))))
  (Zr (Z9 4 (Zaa (Zc (mCB ZcM (Zc (Zd 0) (Zc (mC (.int 4)) Zk))) (Zc (mCB ZcM (Zc (Zd 0) (Zc (mC (.int 8)) Zk))) Zk))))
  (ZJ (mOp ZV (mOp ZV (Zd 3) (Zd 4)) (Zaa (Zc (mOp ixM (Zd 0) (mC (.int 13))) (Zc (mCB Zab (Zc (Zd 0) (Zc (mC (.int 14)) Zk))) (Zc (Zd 2) (Zc (mCB Ze6 (Zc (mSl (Zd 0) (Zbt (Zd 1)) ZaV) Zk)) Zk))))))))))))
def Zif:GM:=ZN 1 5 Zi5
def Zfi:SM:=(mIf (zX (Zd 0)) (ZJ (mOp ixM (Zd 0) (mOp Zba (Zd 1) (mCB ZdR (Zc (Zd 0) Zk))))) ZK)
def ZhO:SM:=(Zr Zfi
  (ZJ (mC (.int 0))))
def Zf7:GM:=ZN 2 2 ZhO
def ZmJ:SM:=(Zr (Z9 2 (mOp Zba (mOp ZV (mCB Zf7 (Zc (Zd 0) (Zc (Zd 1) Zk))) (mOp ZcW (mC (.int 104729)) (mOp ZV (Zd 1) (mC (.int 1))))) (mC (.int 4294967291))))
  (Zr (Z9 2 (mOp Zba (mOp ZcW (Zd 2) (mC (.int 48271))) (mC (.int 4294967279))))
  (ZJ (mOp Zba (mOp ZV (mOp ZcW (mOp Zfe (Zd 2) (mC (.int 64))) (mC (.int 69621))) (Zd 2)) (mC (.int 4294967231))))))
def ZbH:GM:=ZN 2 3 ZmJ
def ZmH:SM:=(ZJ (ZaC (Zc (mOp Zfe (Zd 0) (mC (.int 256))) (Zc (mOp Zba (Zd 0) (mC (.int 256))) Zk))))
def Zd4:GM:=ZN 1 1 ZmH
def ZfQ:SM:=(Zf4 (Zd3 (Zc (mCB ZdR (Zc (Zd 0) Zk)) Zk)) (gNm 2) (Z9 1 (mOp ZV (Zd 1) (mOp ZcW (mOp ixM (Zd 0) (Zd 2)) (mOp ixM (ZaC (Zc (mC (.int 256)) (Zc (mC (.int 1)) Zk))) (mOp Zba (Zd 2) (mC (.int 2))))))))
def ZfP:SM:=(Zcu (ZG (mOp gtM (Zd 1) (mC (.int 65535)))) (Z9 1 (mOp ZV (mOp Zba (Zd 1) (mC (.int 65536))) (mOp Zfe (Zd 1) (mC (.int 65536))))) 200)
def ZhN:SM:=(Zr (Z9 1 (mC (.int 0)))
  (Zr ZfQ
  (Zr ZfP
  (ZJ (Zd 1)))))
def Zcq:GM:=ZN 1 3 ZhN
def ZeJ:SM:=(Zf4 (mIn (mSl (Zd 0) (Zbt (mC (.int 2))) (Zbt (mC (.int 4))))) (gNm 2) (Z9 1 (mOp ZV (mOp ZV (Zd 1) (mCB Zd4 (Zc (mOp Zfe (Zd 2) (mC (.int 65536))) Zk))) (mCB Zd4 (Zc (mOp Zba (Zd 2) (mC (.int 65536))) Zk)))))
def ZeI:SM:=(mIf (ZG (mOp gtM (mOp ixM (Zd 0) (mC (.int 6))) (mC (.int 0)))) (Z9 1 (mOp ZV (mOp ZV (Zd 1) (ZaC (Zc (mC (.int 2)) (Zc (mC (.int 4)) Zk)))) (mCB Zd4 (Zc (mOp ixM (Zd 0) (mC (.int 6))) Zk)))) ZK)
def Zgk:SM:=(Zr (Z9 1 (mOp ZV (mCB Zd4 (Zc (mOp ixM (Zd 0) (mC (.int 0))) Zk)) (mCB Zd4 (Zc (mOp ixM (Zd 0) (mC (.int 1))) Zk))))
  (Zr ZeJ
  (Zr (Z9 1 (mOp ZV (mOp ZV (mOp ZV (Zd 1) (ZaC (Zc (mOp ixM (ZaC (Zc (mC (.int 80)) (Zc (mC (.int 96)) Zk))) (mCB ZrE (Zc (mOp gtM (mOp ixM (Zd 0) (mC (.int 6))) (mC (.int 0))) Zk))) (Zc (mOp ixM (Zd 0) (mC (.int 4))) Zk)))) (mCB Zd4 (Zc (mOp ixM (Zd 0) (mC (.int 5))) Zk))) (ZaC (Zc (mC (.int 0)) (Zc (mC (.int 0)) (Zc (mC (.int 0)) (Zc (mC (.int 0)) Zk)))))))
  (Zr ZeI
  (Zr (Z9 1 (mOp ZV (Zd 1) (mCB ZkV (Zc (mOp ixM (Zd 0) (mC (.int 7))) Zk))))
  (ZJ (mOp ZV (mOp ZV (mSl (Zd 1) ZaV (Zbt (mC (.int 16)))) (mCB Zd4 (Zc (mOp ZfW (mC (.int 65535)) (mCB Zcq (Zc (Zd 1) Zk))) Zk))) (mSl (Zd 1) (Zbt (mC (.int 18))) ZaV))))))))
def ZcH:GM:=ZN 1 3 Zgk
end
end My
namespace My
open PySem L2 L2.MM
noncomputable section
def cell (ns:List Int) (k:Int):Int:=if ns.length=0 then 0 else ns.getD (k % (ns.length:Int)).toNat 0
def mix (ns:List Int) (k:Int):Int:=
  ((cell ns k+104729*(k+1)) % 4294967291*48271 % 4294967279/64*69621+(cell ns k+104729*(k+1)) % 4294967291*48271 % 4294967279) % 4294967231
theorem ZpJ (ns:List Int) (k:Int):0≤mix ns k∧mix ns k<4294967231:=by
  unfold mix; omega
theorem Zr1 {ns:List Int} {k:Int} (h:0<ns.length):atI (ns.map D.int) (k % (ns.length:Int))=some (.int (cell ns k)):=by
  have a:=Int.emod_nonneg k (show (ns.length:Int)≠0 by omega)
  have b:=Int.emod_lt_of_pos k (show (0:Int)<ns.length by omega)
  have c:(k % (ns.length:Int))=(((k % (ns.length:Int)).toNat:Nat):Int):=by omega
  rw [c]
  refine ZeW ?_
  have d:(k % (ns.length:Int)).toNat<ns.length:=by omega
  rw [List.getElem?_map,List.getElem?_eq_getElem d]
  unfold cell
  rw [if_neg (by omega),List.getD_eq_getElem?_getD,List.getElem?_eq_getElem d]
  rfl
@[simp] theorem Zyz (ns:List Int) (k:Int) (θ:Sto):Zf7 [.scr ns,.int k] θ=.ok (.int (cell ns k)) θ:=by
  by_cases h:ns.length=0
  · have:ns=[]:=List.eq_nil_of_length_eq_zero h
    subst this
    simp [Zf7,ZhO,Zfi,cell]
  · have h1:ns.isEmpty=false:=by cases ns with
      | nil=>exact absurd rfl h
      | cons _ _=>rfl
    have h2:0<ns.length:=by omega
    simp [Zf7,ZhO,Zfi,h1,h2,Zr1 (k:=k) h2]
@[simp] theorem ZzJ (ns:List Int) (k:Int) (θ:Sto):ZbH [.scr ns,.int k] θ=.ok (.int (mix ns k)) θ:=by
  simp [ZbH,ZmJ,ZeL,mix]
@[simp] theorem ZuI (k:Int) (θ:Sto):Zd4 [.int k] θ=.ok (il [k/256,k % 256]) θ:=by
  simp [Zd4,ZmH]
theorem ZgS {t:TMr} {body:SM} {n:Nat} {ρ:List Sl} {θ:Sto}:Zcu t body (n+1) ρ θ=(t ρ θ).bind fun k θ=>if k=true then (body ρ θ).bind (Ze0 (Zcu t body n)) else .ok (.nx,ρ) θ:=rfl
abbrev Zsx:TMr:=ZG (mOp gtM (Zd 1) (mC (.int 65535)))
abbrev Zsy:SM:=Z9 1 (mOp ZV (mOp Zba (Zd 1) (mC (.int 65536))) (mOp Zfe (Zd 1) (mC (.int 65536))))
theorem ZlL (t:Int) (x:Sl) (r:List Sl) (θ:Sto):Zsx (x::.val (.int t)::r) θ=.ok (decide (65535<t)) θ:=by simp
theorem Zp6 (t:Int) (x:Sl) (r:List Sl) (θ:Sto):Zsy (x::.val (.int t)::r) θ=.ok (.nx,x::.val (.int (t % 65536+t/65536))::r) θ:=by simp
theorem ZqU {t:Int} (n:Nat) (h0:0≤t) (h1:t<4294967296) (x:Sl) (r:List Sl) (θ:Sto):Zcu Zsx Zsy (n+3) (x::.val (.int t)::r) θ=.ok (.nx,x::.val (.int (ZaP t))::r) θ:=by
  rw [ZgS,ZlL,R.bind_ok]
  by_cases c1:65535<t
  · have s1:=Zis c1
    rw [if_pos (by simpa using c1),Zp6,R.bind_ok,ZeN]
    have hu:t % 65536+t/65536≤131070:=by omega
    generalize t % 65536+t/65536=u at s1 hu
    rw [ZgS,ZlL,R.bind_ok]
    by_cases c2:65535<u
    · have s2:=Zis c2
      rw [if_pos (by simpa using c2),Zp6,R.bind_ok,ZeN]
      have hv:u % 65536+u/65536≤65535:=by omega
      generalize u % 65536+u/65536=v at s2 hv
      rw [ZgS,ZlL,R.bind_ok,if_neg (by simp; omega),←s1.1,←s2.1,Zfd s2.2.1 hv]
    · rw [if_neg (by simpa using c2),←s1.1,Zfd s1.2.1 (by omega)]
  · rw [if_neg (by simpa using c1),Zfd h0 (by omega)]
theorem Zh7 {t:Int} (h0:0≤t) (h1:t<4294967296) (x:Sl) (r:List Sl) (θ:Sto):Zcu (ZG (mOp gtM (Zd 1) (mC (.int 65535)))) (Z9 1 (mOp ZV (mOp Zba (Zd 1) (mC (.int 65536))) (mOp Zfe (Zd 1) (mC (.int 65536))))) 200 (x::.val (.int t)::r) θ=.ok (.nx,x::.val (.int (ZaP t))::r) θ:=ZqU 197 h0 h1 x r θ
def Byt (ns:List Int):Prop:=(∀z∈ns,0≤z∧z≤255)∧ns.length≤1000
theorem ZlT:∀{ns:List Int} {m:Nat},(∀z∈ns,0≤z∧z≤255)→ns.length≤2*m→zv ns≤65535*m
  | [],m,_,_=>by simp [zv]; omega
  | [a],m,h,hl=>by
    have:=h a (by simp)
    simp [zv] at hl ⊢
    omega
  | a::b::r,m,h,hl=>by
    have h1:=h a (by simp)
    have h2:=h b (by simp)
    obtain ⟨m,rfl⟩:∃k,m=k+1:=⟨m-1,by simp at hl; omega⟩
    have:=ZlT (ns:=r) (m:=m) (fun z hz=>h z (by simp [hz])) (by simp at hl; omega)
    simp [zv]
    omega
theorem Byt.sum {ns:List Int} (h:Byt ns):0≤zv ns∧zv ns<4294967296:=by
  refine ⟨ZlS fun z hz=>(h.1 z hz).1,?_⟩
  have:=ZlT (m:=500) h.1 (by have:=h.2; omega)
  omega
theorem Zky {ns:List Int} (h:Byt ns) (θ:Sto):ZcU [il ns] θ=.ok (.int (ZaP (zv ns))) θ:=by
  have l1:=Zit ns
  have l2:=ZkL ns
  have l3:=h.2
  have hs:=h.sum
  have e:=ZlU ns
  simp [ZcU,ZhJ,ZfO,ZfZ,ZeL,show (Zd6 ns).length≤100000 by omega,show (Zhh ns).length≤100000 by omega,e]
  rw [Zh7 hs.1 hs.2]
  simp
theorem ZoV {ns:List Int} (h:Byt ns) (θ:Sto):Zei [il ns] θ=.ok (.int (65535-ZaP (zv ns))) θ:=by
  simp [Zei,ZhC,Zky h]
theorem Zh3 {ns:List Int} (h:Byt ns) (θ:Sto):Zcq [il ns] θ=.ok (.int (ZaP (zv ns))) θ:=by
  have hs:=h.sum
  have l3:=h.2
  let st:Nat→List Sl:=fun i=>[.val (il ns),.val (.int (wpre ns i)),if i=0 then .no else .val (.int ((i:Int)-1))]
  have loop:=ZrJ (θ:=θ) (lo:=0) (n:=ns.length) (tg:=gNm 2) (body:=Z9 1 (mOp ZV (Zd 1) (mOp ZcW (mOp ixM (Zd 0) (Zd 2)) (mOp ixM (ZaC (Zc (mC (.int 256)) (Zc (mC (.int 1)) Zk))) (mOp Zba (Zd 2) (mC (.int 2))))))) st ?_ (fun i hi=>⟨_,rfl⟩) rfl
  · have b1:(ns.length:Int)≤1000000:=by omega
    have b2 : -1000000≤(ns.length:Int):=by omega
    have b3:ns.length≤1000000:=by omega
    have l0:st 0=[.val (il ns),.val (.int 0),.no]:=rfl
    rw [l0] at loop
    simp [Zcq,ZhN,ZfQ,ZfP,Zf4,b1,b2,b3]
    simp at loop
    rw [loop]
    simp [st]
    rw [Zku,Zh7 hs.1 hs.2]
    simp
  · intro i ρ1 hi e
    have e':ρ1=[.val (il ns),.val (.int (wpre ns i)),.val (.int (0+(i:Int)))]:=by
      simp [st] at e
      simp [←e]
    subst e'
    have g1:ixM (il ns) (.int (0+(i:Int))) θ=.ok (.int (ns.getD i 0)) θ:=by
      rw [ZbW (by omega) (by omega)]
      simp [gt]
    have g2:ixM (il [256,1]) (.int ((0+(i:Int)) % 2)) θ=.ok (.int (if i % 2=0 then 256 else 1)) θ:=by
      rw [ZbW (by omega) (by simp; omega)]
      by_cases q:i % 2=0
      · rw [show ((0+(i:Int)) % 2).toNat=0 by omega,if_pos q]; rfl
      · rw [show ((0+(i:Int)) % 2).toNat=1 by omega,if_neg q]; rfl
    have cm:ZeL (ns.getD i 0) (if i % 2=0 then 256 else 1):=.inr (by split<;>decide)
    simp only [Zuw,Zux,Zr6,Zuy,ZoR,x_c,Zr7,List.getElem?_cons_succ,List.getElem?_cons_zero,R.bind_ok,g1]
    simp only [List.length_cons,List.length_nil,ZvH,Zt2,Zme,if_pos (show (0:Int)<2 by decide),R.bind_ok,g2,ZpF,if_pos cm,ZqB,if_pos (show 0+1+1≤100000 by decide)]
    simp [st,wpre]
end
end My
namespace My
open PySem L2 L2.MM
noncomputable section
structure Seg where
  src:Int
  goal:Int
  num:Int
  ans:Int
  flags:Int
  win:Int
  most:Int
  data:List Int
def Seg.d (s:Seg):D:=.tup [.int s.src,.int s.goal,.int s.num,.int s.ans,.int s.flags,.int s.win,.int s.most,itp s.data]
structure Seg.Ok (s:Seg):Prop where
  src:0≤s.src∧s.src≤65535
  goal:0≤s.goal∧s.goal≤65535
  num:0≤s.num∧s.num≤4294967295
  ans:0≤s.ans∧s.ans≤4294967295
  flags:0≤s.flags∧s.flags≤31
  win:0≤s.win∧s.win≤65535
  most:s.most=0∨(4≤s.most∧s.most≤65535∧s.flags/2 % 2=1)
  data:(∀z∈s.data,0≤z∧z≤255)∧s.data.length≤16
section
variable {s:Seg} {θ:Sto}
@[simp] theorem d0:ixM s.d (.int 0) θ=.ok (.int s.src) θ:=nr rfl
@[simp] theorem d1:ixM s.d (.int 1) θ=.ok (.int s.goal) θ:=nr rfl
@[simp] theorem d2:ixM s.d (.int 2) θ=.ok (.int s.num) θ:=nr rfl
@[simp] theorem d3:ixM s.d (.int 3) θ=.ok (.int s.ans) θ:=nr rfl
@[simp] theorem d4:ixM s.d (.int 4) θ=.ok (.int s.flags) θ:=nr rfl
@[simp] theorem d5:ixM s.d (.int 5) θ=.ok (.int s.win) θ:=nr rfl
@[simp] theorem d6:ixM s.d (.int 6) θ=.ok (.int s.most) θ:=nr rfl
@[simp] theorem d7:ixM s.d (.int 7) θ=.ok (itp s.data) θ:=nr rfl
end
def two (k:Int):List Int:=[k/256 % 256,k % 256]
def Zk5 (k:Int):List Int:=two (k/65536)++two k
def hd (s:Seg):Int:=if s.most=0 then 80 else 96
def ZaS (s:Seg):List Int:=two s.src++two s.goal++(Zk5 s.num++Zk5 s.ans)++[hd s,s.flags]++two s.win
def ZcD (m:Int):List Int:=if m=0 then [] else [2,4]++two m
def behind (s:Seg):List Int:=[0,0]++ZcD s.most++s.data
def putL (s:Seg):List Int:=ZaS s++two (65535-ZaP (zv (ZaS s++[0,0]++behind s)))++behind s
@[simp] theorem Zr9 (k:Int) (θ:Sto):zj [.int k] θ=.ok (il (two k)) θ:=by
  simp [zj,Ze3,two]
@[simp] theorem two_len (k:Int):(two k).length=2:=rfl
@[simp] theorem ZvF (k:Int):(Zk5 k).length=4:=rfl
@[simp] theorem Zut (s:Seg):(ZaS s).length=16:=rfl
@[simp] theorem ZqT (k:Int) (θ:Sto):Zbg [.int k] θ=.ok (il (Zk5 k)) θ:=by
  simp [Zbg,ZeF,Zk5]
@[simp] theorem Zo0 (k:Int) (θ:Sto):zR [.int k] θ=.ok (.int (16*(k/4))) θ:=by
  simp [zR,ZdA,ZeL]
@[simp] theorem Znq (k:Int) (θ:Sto):ZaX [.int k] θ=.ok (il (ZcD k)) θ:=by
  by_cases h:k=0<;>simp [ZaX,Zdc,ZcD,h,Zbl]
@[simp] theorem Zv5 (s:Seg) (θ:Sto):zQ [s.d] θ=.ok (il (ZaS s)) θ:=by
  by_cases h:s.most=0<;>simp [zQ,Zb2,ZaS,hd,h]
theorem Zim (m:Int):(ZcD m).length≤4:=by unfold ZcD; split<;>simp
theorem ZdT (k:Int):∀z∈two k,0≤z∧z≤255:=by
  intro z hz
  simp [two] at hz
  rcases hz with rfl | rfl<;>omega
theorem Zlg (k:Int):∀z∈Zk5 k,0≤z∧z≤255:=by
  intro z hz
  rcases List.mem_append.mp hz with h | h
  · exact ZdT _ z h
  · exact ZdT _ z h
theorem Zbw {a b:List Int} (h1:∀z∈a,0≤z∧z≤255) (h2:∀z∈b,0≤z∧z≤255):∀z∈a++b,0≤z∧z≤255:=fun z hz=>(List.mem_append.mp hz).elim (h1 z) (h2 z)
theorem Ziu {s:Seg} (h:0≤s.flags∧s.flags≤255):∀z∈ZaS s,0≤z∧z≤255:=by
  refine Zbw (Zbw (Zbw (Zbw (ZdT _) (ZdT _)) (Zbw (Zlg _) (Zlg _))) ?_) (ZdT _)
  intro z hz
  simp at hz
  rcases hz with rfl | rfl
  · unfold hd; split<;>omega
  · exact h
theorem Zqq (m:Int):∀z∈ZcD m,0≤z∧z≤255:=by
  unfold ZcD
  split
  · intro z hz; simp at hz
  · refine Zbw ?_ (ZdT _)
    intro z hz
    simp at hz
    omega
theorem Zhz {s:Seg} (h:∀z∈s.data,0≤z∧z≤255):∀z∈behind s,0≤z∧z≤255:=by
  refine Zbw (Zbw ?_ (Zqq _)) h
  intro z hz
  simp at hz
  omega
theorem ZdU (s:Seg):(behind s).length≤6+s.data.length:=by
  have:=Zim s.most
  simp [behind]
  omega
structure Seg.Put (s:Seg):Prop where
  flags:0≤s.flags∧s.flags≤255
  data:(∀z∈s.data,0≤z∧z≤255)∧s.data.length≤100
theorem Seg.Ok.put {s:Seg} (h:s.Ok):s.Put:=⟨⟨h.flags.1,by have:=h.flags.2; omega⟩,h.data.1,by have:=h.data.2; omega⟩
theorem Seg.Put.byt {s:Seg} (h:s.Put):Byt (ZaS s++[0,0]++behind s):=by
  refine ⟨Zbw (Zbw (Ziu h.flags) ?_) (Zhz h.data.1),?_⟩
  · intro z hz
    simp at hz
    omega
  · have:=ZdU s
    have:=h.data.2
    simp
    omega
theorem ZuJ {s:Seg} (h:s.Put) (θ:Sto):ZkJ [s.d] θ=.ok (il (putL s)) θ:=by
  have b:=h.byt
  have l1:=Zim s.most
  have l2:=h.data.2
  have l3:=ZdU s
  have e1:0::0::(ZcD s.most++s.data)=behind s:=rfl
  have e2:=ZoV b θ
  simp only [List.append_assoc,List.cons_append,List.nil_append] at e2
  simp (disch:=first | done | (simp; done) | omega | (simp; omega)) [ZkJ,ZmE,ZiW,-ZpZ,e1,e2]
  simp [putL,show 18+(behind s).length≤100000 by omega]
theorem Zg3 {a b c:List Int} (ha:a.length % 2=0) (hb:b.length % 2=0):zv (a++b++c)=zv a+zv b+zv c:=by
  rw [Zg4 (by rw [List.length_append]; omega),Zg4 ha]
theorem Zo7 {s:Seg} (h:s.Put):ZaP (zv (putL s))=65535:=by
  have b:=h.byt
  have w0:=b.sum
  have e1:zv (putL s)=zv (ZaS s)+zv (two (65535-ZaP (zv (ZaS s++[0,0]++behind s))))+zv (behind s):=Zg3 (by simp) (by simp)
  have e2:zv (ZaS s++[0,0]++behind s)=zv (ZaS s)+zv [0,0]+zv (behind s):=Zg3 (by simp) (by simp)
  have e3:zv [0,0]=0:=by simp [zv]
  have f:=Zmy w0.1
  have e4:zv (two (65535-ZaP (zv (ZaS s++[0,0]++behind s))))=256*((65535-ZaP (zv (ZaS s++[0,0]++behind s)))/256)+(65535-ZaP (zv (ZaS s++[0,0]++behind s))) % 256:=by
    have:=f.2.1
    have:=f.1
    simp only [zv,two]
    omega
  have c:=ZlK w0.1
  rw [e1,e4]
  rw [e3] at e2
  have:zv (ZaS s)+(256*((65535-ZaP (zv (ZaS s++[0,0]++behind s)))/256)+(65535-ZaP (zv (ZaS s++[0,0]++behind s))) % 256)+zv (behind s)=zv (ZaS s++[0,0]++behind s)+(256*((65535-ZaP (zv (ZaS s++[0,0]++behind s)))/256)+(65535-ZaP (zv (ZaS s++[0,0]++behind s))) % 256):=by omega
  rw [this]
  exact c
theorem Zl8 {s:Seg} (h:s.Put):Byt (putL s):=by
  refine ⟨Zbw (Zbw (Ziu h.flags) (ZdT _)) (Zhz h.data.1),?_⟩
  have:=ZdU s
  have:=h.data.2
  simp [putL]
  omega
theorem Zl7 {s:Seg}:(putL s).length=(if s.most=0 then 20 else 24)+s.data.length:=by
  unfold putL behind ZcD
  by_cases h:s.most=0<;>simp [h]<;>omega
theorem Zlx (s:Seg):∃x y,putL s=[s.src/256 % 256,s.src % 256,s.goal/256 % 256,s.goal % 256,s.num/65536/256 % 256,s.num/65536 % 256,s.num/256 % 256,s.num % 256,
    s.ans/65536/256 % 256,s.ans/65536 % 256,s.ans/256 % 256,s.ans % 256,hd s,s.flags,s.win/256 % 256,s.win % 256,x,y,0,0]++(ZcD s.most++s.data):=⟨_,_,rfl⟩
@[simp] theorem Zck {a:List Int} {i:Int} (h0:0≤i) (h:i+1<a.length) (θ:Sto):Zab [il a,.int i] θ=.ok (.int (256*gt a i.toNat+gt a (i+1).toNat)) θ:=by
  simp [Zab,ZhB,ZbW (θ:=θ) h0 (show i<a.length by omega),ZbW (θ:=θ) (show 0≤i+1 by omega) h,ZeL]
@[simp] theorem Zh6 {a:List Int} {i:Int} (h0:0≤i) (h:i+3<a.length) (θ:Sto):ZcM [il a,.int i] θ=.ok (.int (65536*(256*gt a i.toNat+gt a (i+1).toNat)+(256*gt a (i+2).toNat+gt a (i+2+1).toNat))) θ:=by
  simp [ZcM,Zgz,Zck (θ:=θ) h0 (show i+1<a.length by omega),Zck (θ:=θ) (show 0≤i+2 by omega) (show i+2+1<a.length by omega),ZeL]
@[simp] theorem Zh4 {a:List Int} (h:12<a.length) (θ:Sto):Zbf [il a] θ=.ok (.int (gt a 12/16*4)) θ:=by
  have:=ZbW (a:=a) (θ:=θ) (i:=12) (by decide) (by omega)
  simp [Zbf,Zgy,this,ZeL]
def bit (f k:Int):Int:=if Builtin.bitAnd f k=0 then 0 else 1
@[simp] theorem ZzK (f k:Int) (θ:Sto):ZeY [.int f,.int k] θ=.ok (.int (bit f k)) θ:=by
  by_cases h:Builtin.bitAnd f k=0<;>simp [ZeY,ZmG,bit,h]
theorem ZrX:∀n:Fin 32,bit (n.val:Int) 1=(n.val:Int) % 2∧bit (n.val:Int) 2=(n.val:Int)/2 % 2∧bit (n.val:Int) 4=(n.val:Int)/4 % 2∧bit (n.val:Int) 8=(n.val:Int)/8 % 2∧bit (n.val:Int) 16=(n.val:Int)/16 % 2:=by decide
theorem Zqu {f:Int} (h:0≤f∧f≤31):bit f 1=f % 2∧bit f 2=f/2 % 2∧bit f 4=f/4 % 2∧bit f 8=f/8 % 2∧bit f 16=f/16 % 2:=by
  have:=ZrX ⟨f.toNat,by omega⟩
  simp only at this
  rw [show ((f.toNat:Nat):Int)=f by omega] at this
  exact this
theorem ZoY (s:Seg) (θ:Sto):Zcn [s.d] θ=.ok (.int (s.data.length+bit s.flags 2+bit s.flags 1)) θ:=by
  simp [Zcn,ZhG]
def at2 (a:List Int) (i:Nat):Int:=256*gt a i+gt a (i+1)
def at4 (a:List Int) (i:Nat):Int:=65536*at2 a i+at2 a (i+2)
def longOk (a:List Int):Bool:=decide (bit (gt a 13) 2=1) && (decide (gt a 20=2) && (decide (gt a 21=4) && decide (4≤at2 a 22)))
def Zbc (a:List Int):Int:=gt a 12/16*4
def Zan (a:List Int):Bool:=decide (20≤a.length) && (decide (gt a 12=80∨gt a 12=96) && (decide (gt a 13≤31) && (decide (0≤(a.length:Int)-Zbc a∧(a.length:Int)-Zbc a≤16) &&
  (decide (at2 a 18=0) && ((decide (Zbc a=20) || longOk a) && decide (ZaP (zv a)=65535))))))
theorem ZsR {a:List Int} (h:24≤a.length) (θ:Sto):zP [il a] θ=.ok (.bl (longOk a)) θ:=by
  have g:=fun (i:Int) (h0:0≤i) (h1:i<a.length)=>ZbW (a:=a) (θ:=θ) (i:=i) h0 h1
  have g13:=g 13 (by decide) (by omega)
  have g20:=g 20 (by decide) (by omega)
  have g21:=g 21 (by decide) (by omega)
  have g22:=Zck (a:=a) (i:=22) (by decide) (by omega) θ
  simp only [show (13:Int).toNat=13 from rfl,show (20:Int).toNat=20 from rfl,show (21:Int).toNat=21 from rfl,show (22:Int).toNat=22 from rfl,show (22+1:Int).toNat=23 from rfl] at g13 g20 g21 g22
  unfold longOk at2
  simp [zP,ZbZ,g13,g20,g21,g22]
theorem ZrF (x y z:Int) (θ:Sto):inM (.int x) (.tup [.int y,.int z]) θ=.ok (.bl (decide (x=y∨x=z))) θ:=by
  have e:inD θ (.int x) (.tup [.int y,.int z])=some (decide (y=x) || (decide (z=x) || false)):=rfl
  have e2:(decide (y=x) || (decide (z=x) || false))=decide (x=y∨x=z):=by
    rw [Bool.eq_iff_iff]
    simp only [Bool.or_eq_true,decide_eq_true_eq,Bool.false_eq_true,or_false]
    constructor
    · rintro (h | h)
      · exact .inl h.symm
      · exact .inr h.symm
    · rintro (h | h)
      · exact .inl h.symm
      · exact .inr h.symm
  unfold inM
  rw [e,e2]
theorem ZcO {a:List Int} (h:Byt a) (θ:Sto):Zad [il a] θ=.ok (.bl (Zan a)) θ:=by
  by_cases c1:20≤a.length
  · have g:=fun (i:Int) (h0:0≤i) (h1:i<a.length)=>ZbW (a:=a) (θ:=θ) (i:=i) h0 h1
    have g12:=g 12 (by decide) (by omega)
    have g13:=g 13 (by decide) (by omega)
    have g18:=Zck (a:=a) (i:=18) (by decide) (by omega) θ
    have gh:=Zh4 (a:=a) (by omega) θ
    have gf:=Zky h θ
    have c1':(20:Int)≤a.length:=by omega
    simp only [show (12:Int).toNat=12 from rfl,show (13:Int).toNat=13 from rfl,show (18:Int).toNat=18 from rfl,show (18+1:Int).toNat=19 from rfl] at g12 g13 g18
    by_cases c2:gt a 12=80
    · rw [c2] at g12 gh
      simp [Zad,Zbj,Zan,Zbc,at2,c1,c1',g12,g13,g18,gh,gf,ZrF,c2]<;>rfl
    · by_cases c3:gt a 12=96
      · rw [c3] at g12 gh
        by_cases c4:24≤a.length
        · have gl:=ZsR c4 θ
          simp [Zad,Zbj,Zan,Zbc,at2,c1,c1',g12,g13,g18,gh,gf,ZrF,c3,gl]<;>rfl
        · have c5:¬(24:Int)≤(a.length:Int):=by omega
          simp [Zad,Zbj,Zan,Zbc,at2,c1,c1',g12,g13,g18,gh,gf,ZrF,c3,c5]<;>rfl
      · simp [Zad,Zbj,Zan,Zbc,at2,c1,c1',g12,g13,g18,gh,gf,ZrF,c2,c3]
  · have c1':¬(20:Int)≤a.length:=by omega
    simp [Zad,Zbj,Zan,c1,c1']
def Zbm (a:List Int):Seg:=⟨at2 a 0,at2 a 2,at4 a 4,at4 a 8,gt a 13,at2 a 14,if Zbc a=24 then at2 a 22 else 0,a.drop (Zbc a).toNat⟩
theorem Zgt {a:List Int} (h:Zan a=true):20≤a.length∧((Zbc a=20)∨(Zbc a=24∧24≤a.length∧longOk a=true))∧(a.length:Int)-Zbc a≤16∧gt a 13≤31:=by
  unfold Zan at h
  simp only [Bool.and_eq_true,decide_eq_true_eq,Bool.or_eq_true] at h
  obtain ⟨h1,h2,h3,h4,h5,h6,h7⟩:=h
  refine ⟨h1,?_,h4.2,h3⟩
  rcases h2 with h2 | h2
  · left; unfold Zbc; rw [h2]; rfl
  · right
    have e:Zbc a=24:=by unfold Zbc; rw [h2]; rfl
    refine ⟨e,by have:=h4.1; rw [e] at this; omega,?_⟩
    rcases h6 with h6 | h6
    · rw [e] at h6; cases h6
    · exact h6
theorem ZlY {a:List Int} (h:Byt a) (hr:Zan a=true) (θ:Sto):Zif [il a] θ=.ok (Zbm a).d θ:=by
  obtain ⟨l1,l2,l3,l4⟩:=Zgt hr
  have ir:=ZcO h θ
  rw [hr] at ir
  have gh:=Zh4 (a:=a) (by omega) θ
  have g13:=ZbW (a:=a) (θ:=θ) (i:=13) (by decide) (by omega)
  have q0:=Zck (a:=a) (i:=0) (by decide) (by omega) θ
  have q2:=Zck (a:=a) (i:=2) (by decide) (by omega) θ
  have q14:=Zck (a:=a) (i:=14) (by decide) (by omega) θ
  have q4:=Zh6 (a:=a) (i:=4) (by decide) (by omega) θ
  have q8:=Zh6 (a:=a) (i:=8) (by decide) (by omega) θ
  simp only [show (13:Int).toNat=13 from rfl,show (0:Int).toNat=0 from rfl,show (0+1:Int).toNat=1 from rfl,show (2:Int).toNat=2 from rfl,show (2+1:Int).toNat=3 from rfl,show (14:Int).toNat=14 from rfl,show (14+1:Int).toNat=15 from rfl,
    show (4:Int).toNat=4 from rfl,show (4+1:Int).toNat=5 from rfl,show (4+2:Int).toNat=6 from rfl,show (4+2+1:Int).toNat=7 from rfl,show (8:Int).toNat=8 from rfl,show (8+1:Int).toNat=9 from rfl,show (8+2:Int).toNat=10 from rfl,show (8+2+1:Int).toNat=11 from rfl] at g13 q0 q2 q14 q4 q8
  have gh':Zbf [il a] θ=.ok (.int (Zbc a)) θ:=gh
  have ps:∀x:Int,0≤x→ZbM a (some x) none=a.drop x.toNat:=fun x hx=>Zdv a hx
  rcases l2 with e | ⟨e,l5,_⟩
  · simp [Zif,Zi5,Zgf,ir,gh',e,g13,q0,q2,q4,q8,q14,ps,Zbm,Seg.d,at2,at4]
  · have q22:=Zck (a:=a) (i:=22) (by decide) (by omega) θ
    simp only [show (22:Int).toNat=22 from rfl,show (22+1:Int).toNat=23 from rfl] at q22
    simp [Zif,Zi5,Zgf,ir,gh',e,g13,q0,q2,q4,q8,q14,q22,ps,Zbm,Seg.d,at2,at4]
end
end My
namespace My
open PySem L2 L2.MM
noncomputable section
theorem Zo6 (s:Seg):gt (putL s) 12=hd s∧gt (putL s) 13=s.flags∧at2 (putL s) 18=0∧at2 (putL s) 0=256*(s.src/256 % 256)+s.src % 256∧at2 (putL s) 2=256*(s.goal/256 % 256)+s.goal % 256∧
    at4 (putL s) 4=65536*(256*(s.num/65536/256 % 256)+s.num/65536 % 256)+(256*(s.num/256 % 256)+s.num % 256)∧at4 (putL s) 8=65536*(256*(s.ans/65536/256 % 256)+s.ans/65536 % 256)+(256*(s.ans/256 % 256)+s.ans % 256)∧
    at2 (putL s) 14=256*(s.win/256 % 256)+s.win % 256:=by
  obtain ⟨x,y,e⟩:=Zlx s
  rw [e]
  unfold at4 at2
  refine ⟨rfl,rfl,?_,rfl,rfl,rfl,rfl,rfl⟩
  show 256*(0:Int)+0=0
  rfl
theorem ZkG (s:Seg) (h:s.most≠0):gt (putL s) 20=2∧gt (putL s) 21=4∧at2 (putL s) 22=256*(s.most/256 % 256)+s.most % 256:=by
  obtain ⟨x,y,e⟩:=Zlx s
  have e2:ZcD s.most=[2,4,s.most/256 % 256,s.most % 256]:=by unfold ZcD; rw [if_neg h]; rfl
  rw [e,e2]
  unfold at2
  exact ⟨rfl,rfl,rfl⟩
theorem Zic {s:Seg} (h:s.Ok):Zan (putL s)=true:=by
  obtain ⟨g12,g13,g18,_⟩:=Zo6 s
  have hl:=Zl7 (s:=s)
  have hd':=h.data.2
  have hf:=Zo7 h.put
  have hw:=h.flags
  unfold Zan longOk Zbc
  simp only [Bool.and_eq_true,decide_eq_true_eq,Bool.or_eq_true]
  rw [g12,g13,g18,hf,hl]
  by_cases m:s.most=0
  · have e:hd s=80:=if_pos m
    rw [e,if_pos m]
    simp
    omega
  · have e:hd s=96:=if_neg m
    obtain ⟨p1,p2,p3⟩:=ZkG s m
    have hm:4≤s.most∧s.most≤65535∧s.flags/2 % 2=1:=h.most.resolve_left m
    have hb:=(Zqu h.flags).2.1
    rw [e,if_neg m,p1,p2,p3,hb]
    simp
    omega
theorem Zqb (s:Seg):(putL s).drop (if s.most=0 then 20 else 24)=s.data:=by
  obtain ⟨x,y,e⟩:=Zlx s
  rw [e]
  by_cases m:s.most=0
  · rw [if_pos m]
    simp [ZcD,m]
  · rw [if_neg m]
    simp [ZcD,m,two]
theorem Zmx {s:Seg} (h:s.Ok):Zbm (putL s)=s:=by
  obtain ⟨g12,g13,g18,g0,g2,g4,g8,g14⟩:=Zo6 s
  have e0:=Zqb s
  obtain ⟨⟨a1,a2⟩,⟨b1,b2⟩,⟨c1,c2⟩,⟨d1,d2⟩,_,⟨f1,f2⟩,hm,_⟩:=h
  unfold Zbm Zbc
  rw [g12,g13,g0,g2,g4,g8,g14]
  obtain ⟨src,goal,num,ans,flags,win,most,data⟩:=s
  simp only at *
  by_cases m:most=0
  · subst m
    have e:hd ⟨src,goal,num,ans,flags,win,0,data⟩=80:=rfl
    rw [e]
    simp only [if_true] at e0
    simp [e0]
    omega
  · have e:hd ⟨src,goal,num,ans,flags,win,most,data⟩=96:=if_neg m
    obtain ⟨_,_,p3⟩:=ZkG ⟨src,goal,num,ans,flags,win,most,data⟩ m
    simp only at p3
    rw [e,p3]
    rw [if_neg m] at e0
    simp [e0]
    have:=hm.resolve_left m
    omega
@[simp] theorem Zzj {s:Seg} {θ:Sto}:Ze8 θ s.d (some 2) (some 4)=some (.tup [.int s.num,.int s.ans]):=nr rfl
theorem two_small {k:Int} (h0:0≤k) (h:k≤65535):[k/256,k % 256]=two k:=by
  unfold two
  rw [show k/256 % 256=k/256 by omega]
theorem Zhv {k:Int} (h0:0≤k) (h:k≤4294967295):[k/65536/256,k/65536 % 256,k % 65536/256,k % 256]=Zk5 k:=by
  unfold Zk5 two
  rw [show k/65536/256 % 256=k/65536/256 by omega,show k % 65536/256=k/256 % 256 by omega]
  rfl
def Zcm (s:Seg):List Int:=[s.src/256,s.src % 256,s.goal/256,s.goal % 256,s.num/65536/256,s.num/65536 % 256,s.num % 65536/256,s.num % 256,s.ans/65536/256,s.ans/65536 % 256,s.ans % 65536/256,s.ans % 256,
  hd s,s.flags,s.win/256,s.win % 256,0,0,0,0]++((if s.most=0 then [] else [2,4,s.most/256,s.most % 256])++s.data)
theorem Zpe {s:Seg} (h:s.Ok):Zcm s=ZaS s++[0,0]++behind s:=by
  obtain ⟨⟨a1,a2⟩,⟨b1,b2⟩,⟨c1,c2⟩,⟨d1,d2⟩,⟨f1,f2⟩,⟨w1,w2⟩,hm,hd1,hd2⟩:=id h
  have e1:=two_small a1 a2
  have e2:=two_small b1 b2
  have e3:=Zhv c1 c2
  have e4:=Zhv d1 d2
  have e5:=two_small w1 w2
  have e6:(if s.most=0 then [] else [2,4,s.most/256,s.most % 256])=ZcD s.most:=by
    unfold ZcD
    by_cases m:s.most=0
    · rw [if_pos m,if_pos m]
    · rw [if_neg m,if_neg m]
      have:=hm.resolve_left m
      rw [←two_small (k:=s.most) (by omega) (by omega)]
      rfl
  unfold Zcm ZaS behind
  rw [e6,←e1,←e2,←e3,←e4,←e5]
  rfl
theorem Zrf {s:Seg} (h:s.Ok):(Zcm s).take 16++two (65535-ZaP (zv (Zcm s)))++(Zcm s).drop 18=putL s:=by
  rw [Zpe h]
  have e1:(ZaS s++[0,0]++behind s).take 16=ZaS s:=by
    rw [List.append_assoc,List.take_append_of_le_length (by simp),List.take_of_length_le (by simp)]
  have e2:(ZaS s++[0,0]++behind s).drop 18=behind s:=by
    have:(ZaS s++[0,0]).length=18:=by simp
    rw [←this,List.drop_left]
  rw [e1,e2]
  rfl
theorem ZhU {s:Seg} (h:s.Ok) (θ:Sto) (x y:Sl):ZJ (mOp ZV (mOp ZV (mSl (Zd 1) ZaV (Zbt (mC (.int 16)))) (mCB Zd4 (Zc (mOp ZfW (mC (.int 65535)) (mCB Zcq (Zc (Zd 1) Zk))) Zk))) (mSl (Zd 1) (Zbt (mC (.int 18))) ZaV)) [x,.val (il (Zcm s)),y] θ
    = .ok (.rt (il (putL s)),[x,.val (il (Zcm s)),y]) θ:=by
  have pe:=Zpe h
  have bp:=h.put.byt
  rw [←pe] at bp
  have lf:=Zh3 bp θ
  have hs:=Zmy bp.sum.1
  have hl:(Zcm s).length≤100:=by
    have:=ZdU s
    have:=h.data.2
    rw [pe]
    simp
    omega
  have fin:=Zrf h
  have tw:[(65535-ZaP (zv (Zcm s)))/256,(65535-ZaP (zv (Zcm s))) % 256]=two (65535-ZaP (zv (Zcm s))):=two_small (by omega) (by omega)
  have k1:ZbM (Zcm s) none (some 16)=(Zcm s).take 16:=Zgd _ (by decide)
  have k2:ZbM (Zcm s) (some 18) none=(Zcm s).drop 18:=Zdv _ (by decide)
  have fs:ZV (il ((Zcm s).take 16)) (il (two (65535-ZaP (zv (Zcm s))))) θ=.ok (il ((Zcm s).take 16++two (65535-ZaP (zv (Zcm s))))) θ:=ZiW (by simp; omega)
  have fs2:ZV (il ((Zcm s).take 16++two (65535-ZaP (zv (Zcm s))))) (il ((Zcm s).drop 18)) θ=.ok (il (putL s)) θ:=by
    rw [ZiW (by simp; omega),fin]
  simp only [ZoO,Zux,Zyf,Zr6,Zyr,ZoR,Zr7,ZoP,ZsE,x_c,R.bind_ok,List.getElem?_cons_succ,List.getElem?_cons_zero,Zmw,k1,k2,lf,Zme,if_true,ZuI,tw,fs,fs2]
theorem Zhb {s:Seg} (h:s.Ok) (θ:Sto):ZcH [s.d] θ=.ok (il (putL s)) θ:=by
  have tail:=ZhU h θ
  have dl:=h.data.2
  by_cases m:s.most=0
  · have g:ixM (il [80,96]) (.int 0) θ=.ok (.int 80) θ:=rfl
    have e0:hd s=80:=if_pos m
    have pl:[s.src/256,s.src % 256,s.goal/256,s.goal % 256,s.num/65536/256,s.num/65536 % 256,s.num % 65536/256,s.num % 256,s.ans/65536/256,s.ans/65536 % 256,s.ans % 65536/256,s.ans % 256,
      80,s.flags,s.win/256,s.win % 256,0,0,0,0]++s.data=Zcm s:=by unfold Zcm; rw [if_pos m,e0]; rfl
    simp only [List.cons_append,List.nil_append] at pl
    simp [ZcH,Zgk,ZeJ,ZeI,Zf4,Zdu,m,g,pl,-ZoO,tail,show s.data.length+20≤100000 by omega,show 20+s.data.length≤100000 by omega]
  · have g:ixM (il [80,96]) (.int 1) θ=.ok (.int 96) θ:=rfl
    have e0:hd s=96:=if_neg m
    have mg:(0:Int)<s.most:=by have:=h.most.resolve_left m; omega
    have pl:[s.src/256,s.src % 256,s.goal/256,s.goal % 256,s.num/65536/256,s.num/65536 % 256,s.num % 65536/256,s.num % 256,s.ans/65536/256,s.ans/65536 % 256,s.ans % 65536/256,s.ans % 256,
      96,s.flags,s.win/256,s.win % 256,0,0,0,0,2,4,s.most/256,s.most % 256]++s.data=Zcm s:=by unfold Zcm; rw [if_neg m,e0]; rfl
    simp only [List.cons_append,List.nil_append] at pl
    simp [ZcH,Zgk,ZeJ,ZeI,Zf4,Zdu,mg,g,pl,-ZoO,tail,show s.data.length+24≤100000 by omega,show 24+s.data.length≤100000 by omega]
end
end My
namespace My
open PySem L2 L2.MM
noncomputable section
def Ze4:SM:=(ZD ["Pile"] "row" (Zd 0) (ZaC Zk))
def ZbG:GM:=ZN 1 1 Ze4
def Zlh:SM:=(ZJ (mOp ZfW (mC (.int 64)) (mCB ZdR (Zc (ZF ["Pile"] "row" (Zd 0)) Zk))))
def Zfa:GM:=ZN 1 1 Zlh
def Zli:SM:=(ZJ (mOp Zba (mOp ZV (Zd 0) (Zd 1)) (mC (.int 4294967296))))
def zC:GM:=ZN 2 2 Zli
def ZhF:SM:=(ZJ (mOp ZfW (mOp Zba (mOp ZV (mOp ZfW (Zd 0) (Zd 1)) (mC (.int 2147483648))) (mC (.int 4294967296))) (mC (.int 2147483648))))
def zD:GM:=ZN 2 2 ZhF
def Zd0:SM:=(Zr (ZD ["End"] "ours" (Zd 0) (Zd 1))
  (Zr (ZD ["End"] "theirs" (Zd 0) (Zd 2))
  (Zr (ZD ["End"] "state" (Zd 0) (ZfB (zX (Zd 4)) (mC (.str "syn sent")) (mC (.str "listen"))))
  (Zr (ZD ["End"] "error" (Zd 0) (mC (.str "")))
  (Zr (ZD ["End"] "first" (Zd 0) (Zd 3))
  (Zr (ZD ["End"] "una" (Zd 0) (Zd 3))
  (Zr (ZD ["End"] "nxt" (Zd 0) (Zd 3))
  (Zr (ZD ["End"] "rcv" (Zd 0) (mC (.int 0)))
  (Zr (ZD ["End"] "wnd" (Zd 0) (mC (.int 0)))
  (Zr (ZD ["End"] "told" (Zd 0) (mC (.int 0)))
  (Zr (ZD ["End"] "told_by" (Zd 0) (mC (.int 0)))
  (Zr (ZD ["End"] "most" (Zd 0) (mC (.int 12)))
  (Zr (ZD ["End"] "written" (Zd 0) (mCB (mkG "Pile" ZbG) Zk))
  (Zr (ZD ["End"] "come" (Zd 0) (mCB (mkG "Pile" ZbG) Zk))
  (Zr (ZD ["End"] "early" (Zd 0) ZlF)
  (Zr (ZD ["End"] "early_fin" (Zd 0) (mC .non))
  (Zr (ZD ["End"] "has_closed" (Zd 0) (mC (.bl false)))
  (Zr (ZD ["End"] "behind" (Zd 0) (mCB zC (Zc (Zd 3) (Zc (mC (.int 1)) Zk))))
  (Zr (ZD ["End"] "owed_reset" (Zd 0) (mC .non))
  (Zr (ZD ["End"] "owes_syn" (Zd 0) (mC (.bl false)))
  (Zr (ZD ["End"] "owes_answer" (Zd 0) (mC (.bl false)))
  (Zr (ZD ["End"] "probes" (Zd 0) (mC (.bl false)))
  (Zr (ZD ["End"] "since" (Zd 0) (mC (.int 0)))
  (Zr (ZD ["End"] "wait" (Zd 0) (mC (.int 1000)))
  (ZD ["End"] "tries" (Zd 0) (mC (.int 0)))))))))))))))))))))))))))
def Zcc:GM:=ZN 5 5 Zd0
def Zd9:SM:=(Zr (ZD ["End"] "since" (Zd 0) (Zd 1))
  (Zr (ZD ["End"] "wait" (Zd 0) (mC (.int 1000)))
  (ZD ["End"] "tries" (Zd 0) (mC (.int 0)))))
def Z6:GM:=ZN 2 2 Zd9
def Ziz:SM:=(ZJ (ZF ["End"] "state" (Zd 0)))
def ZcE:GM:=ZN 1 1 Ziz
def ZiA:SM:=(ZJ (ZF ["End"] "error" (Zd 0)))
def Zft:GM:=ZN 1 1 ZiA
def Zez:SM:=(ZJ (mCB Zfa (Zc (ZF ["End"] "come" (Zd 0)) Zk)))
def ZaT:GM:=ZN 1 1 Zez
def Zdw:SM:=(ZJ (mCB ZkT (Zc (ZF ["End"] "most" (Zd 0)) (Zc (mC (.int 16)) Zk))))
def Zac:GM:=ZN 1 1 Zdw
def Zex:SM:=(mIf (ZG (mOp eqM (ZF ["End"] "state" (Zd 0)) (mC (.str "syn sent")))) (ZJ (Zaa (Zc (ZF ["End"] "ours" (Zd 0)) (Zc (ZF ["End"] "theirs" (Zd 0)) (Zc (ZF ["End"] "first" (Zd 0)) (Zc (mC (.int 0)) (Zc (mC (.int 2)) (Zc (mC (.int 64)) (Zc (mC (.int 16)) (Zc (Zaa Zk) Zk)))))))))) ZK)
def ZfK:SM:=(Zr (ZD ["End"] "owes_syn" (Zd 0) (mC (.bl false)))
  (Zr Zex
  (ZJ (Zaa (Zc (ZF ["End"] "ours" (Zd 0)) (Zc (ZF ["End"] "theirs" (Zd 0)) (Zc (ZF ["End"] "first" (Zd 0)) (Zc (ZF ["End"] "rcv" (Zd 0)) (Zc (mOp ZV (mC (.int 2)) (mC (.int 16))) (Zc (mC (.int 64)) (Zc (mC (.int 16)) (Zc (Zaa Zk) Zk))))))))))))
def Zbz:GM:=ZN 1 1 ZfK
def Zew:SM:=(ZJ (Zaa (Zc (ZF ["End"] "ours" (Zd 0)) (Zc (ZF ["End"] "theirs" (Zd 0)) (Zc (Zd 1) (Zc (ZF ["End"] "rcv" (Zd 0)) (Zc (mOp ZV (Zd 2) (mC (.int 16))) (Zc (mCB ZaT (Zc (Zd 0) Zk)) (Zc (mC (.int 0)) (Zc (mCB Ze6 (Zc (Zd 3) Zk)) Zk))))))))))
def zB:GM:=ZN 4 4 Zew
def Zct:SM:=(mIf (ZG (mOp eqM (ZF ["End"] "tries" (Zd 0)) (mC (.int 6)))) (Zr (ZD ["End"] "state" (Zd 0) (mC (.str "closed")))
    (Zr (ZD ["End"] "error" (Zd 0) (mC (.str "time")))
    (ZJ (mC .non)))) ZK)
def Zdd:SM:=(mIf (ZG (mOp inM (ZF ["End"] "state" (Zd 0)) (Zaa (Zc (mC (.str "syn sent")) (Zc (mC (.str "syn come")) Zk))))) (ZJ (mCB Zbz (Zc (Zd 0) Zk))) ZK)
def ZdB:SM:=(Zr Zct
  (Zr (ZD ["End"] "tries" (Zd 0) (mOp ZV (ZF ["End"] "tries" (Zd 0)) (mC (.int 1))))
  (Zr (ZD ["End"] "wait" (Zd 0) (mCB ZkT (Zc (mOp ZcW (mC (.int 2)) (ZF ["End"] "wait" (Zd 0))) (Zc (mC (.int 16000)) Zk))))
  (Zr (ZD ["End"] "since" (Zd 0) (Zd 1))
  (Zr Zdd
  (Zr (Z9 2 (mSl (ZF ["Pile"] "row" (ZF ["End"] "written" (Zd 0))) ZaV (Zbt (mCB ZkT (Zc (mCB zD (Zc (ZF ["End"] "nxt" (Zd 0)) (Zc (ZF ["End"] "una" (Zd 0)) Zk))) (Zc (mCB Zac (Zc (Zd 0) Zk)) Zk))))))
  (ZJ (mCB zB (Zc (Zd 0) (Zc (ZF ["End"] "una" (Zd 0)) (Zc (ZfB (ZG (mOp gtM (mCB ZdR (Zc (Zd 2) Zk)) (mC (.int 0)))) (mC (.int 0)) (mC (.int 1))) (Zc (Zd 2) Zk))))))))))))
def Zc6:GM:=ZN 2 3 ZdB
def Za0:SM:=(mIf (ZdN (zX (ZF ["End"] "owes_answer" (Zd 0)))) (ZJ (mC .non)) ZK)
def Zbo:SM:=(Zr Za0
  (Zr (ZD ["End"] "owes_answer" (Zd 0) (mC (.bl false)))
  (ZJ (mCB zB (Zc (Zd 0) (Zc (ZF ["End"] "nxt" (Zd 0)) (Zc (mC (.int 0)) (Zc (ZaC Zk) Zk))))))))
def zV:GM:=ZN 1 1 Zbo
def ZhA:SM:=(ZJ (mCB zD (Zc (ZF ["End"] "behind" (Zd 0)) (Zc (ZF ["End"] "nxt" (Zd 0)) Zk))))
def Zbq:GM:=ZN 1 1 ZhA
def Zdz:SM:=(ZJ (Zbu (mOp inM (ZF ["End"] "state" (Zd 0)) (Zaa (Zc (mC (.str "open")) (Zc (mC (.str "wait one")) (Zc (mC (.str "close wait")) (Zc (mC (.str "closing")) (Zc (mC (.str "last ack")) Zk))))))) (mOp gtM (mCB Zbq (Zc (Zd 0) Zk)) (mC (.int 0)))))
def Zae:GM:=ZN 1 1 Zdz
def Zea:SM:=(ZJ (Zbu (mOp inM (ZF ["End"] "state" (Zd 0)) (Zaa (Zc (mC (.str "wait one")) (Zc (mC (.str "closing")) (Zc (mC (.str "last ack")) Zk))))) (mOp eqM (mCB Zbq (Zc (Zd 0) Zk)) (mC (.int 0)))))
def Zbr:GM:=ZN 1 1 Zea
def ZfN:SM:=(ZJ (Zm5 (mCB Zae (Zc (Zd 0) Zk)) (mCB Zbr (Zc (Zd 0) Zk))))
def ZbB:GM:=ZN 1 1 ZfN
def ZdW:SM:=(Zr (Z9 2 (ZF ["End"] "nxt" (Zd 0)))
  (Zr (Z9 3 (mCB ZkT (Zc (mCB Zac (Zc (Zd 0) Zk)) (Zc (mCB Zbq (Zc (Zd 0) Zk)) (Zc (Zd 1) Zk)))))
  (Zr (Z9 4 (mCB zD (Zc (Zd 2) (Zc (ZF ["End"] "una" (Zd 0)) Zk))))
  (Zr (ZD ["End"] "nxt" (Zd 0) (mCB zC (Zc (Zd 2) (Zc (Zd 3) Zk))))
  (ZJ (mCB zB (Zc (Zd 0) (Zc (Zd 2) (Zc (ZfB (ZG (mOp eqM (mCB Zbq (Zc (Zd 0) Zk)) (mC (.int 0)))) (mC (.int 8)) (mC (.int 0))) (Zc (mSl (ZF ["Pile"] "row" (ZF ["End"] "written" (Zd 0))) (Zbt (Zd 4)) (Zbt (mOp ZV (Zd 4) (Zd 3)))) Zk))))))))))
def Zb9:GM:=ZN 2 5 ZdW
def Zgx:SM:=(Zr (Z9 1 (ZF ["End"] "nxt" (Zd 0)))
  (Zr (ZD ["End"] "nxt" (Zd 0) (mCB zC (Zc (Zd 1) (Zc (mC (.int 1)) Zk))))
  (ZJ (mCB zB (Zc (Zd 0) (Zc (Zd 1) (Zc (mC (.int 1)) (Zc (ZaC Zk) Zk))))))))
def Zdp:GM:=ZN 1 2 Zgx
def Zdi:SM:=(Zr (ZD ["End"] "probes" (Zd 0) (mC (.bl false)))
  (ZJ (ZfB (zX (mCB Zae (Zc (Zd 0) Zk))) (mCB Zb9 (Zc (Zd 0) (Zc (Zd 1) Zk))) (mCB Zdp (Zc (Zd 0) Zk)))))
def ZaQ:GM:=ZN 2 2 Zdi
def Zdh:SM:=(mIf (ZG (mOp eqM (ZF ["End"] "nxt" (Zd 0)) (ZF ["End"] "una" (Zd 0)))) (zh (mCB Z6 (Zc (Zd 0) (Zc (Zd 1) Zk)))) ZK)
def ZeA:SM:=(Zr Zdh
  (Zr (ZD ["End"] "nxt" (Zd 0) (mCB zC (Zc (ZF ["End"] "first" (Zd 0)) (Zc (mC (.int 1)) Zk))))
  (ZJ (mCB Zbz (Zc (Zd 0) Zk)))))
def ZcL:GM:=ZN 2 2 ZeA
def zt:SM:=(mIf (ZG (mOp inM (ZF ["End"] "state" (Zd 0)) (Zaa (Zc (mC (.str "syn sent")) (Zc (mC (.str "syn come")) Zk))))) (ZJ (ZfB (mOr (ZG (mOp eqM (ZF ["End"] "nxt" (Zd 0)) (ZF ["End"] "first" (Zd 0)))) (zX (ZF ["End"] "owes_syn" (Zd 0)))) (mCB ZcL (Zc (Zd 0) (Zc (Zd 1) Zk))) (mC .non))) ZK)
def Zah:SM:=(mIf (mOr (ZG (mOp leM (Zd 2) (mC (.int 0)))) (ZdN (zX (mCB ZbB (Zc (Zd 0) Zk))))) (ZJ (mC .non)) ZK)
def ZbD:SM:=(mIf (ZG (mOp eqM (ZF ["End"] "nxt" (Zd 0)) (ZF ["End"] "una" (Zd 0)))) (zh (mCB Z6 (Zc (Zd 0) (Zc (Zd 1) Zk)))) ZK)
def zM:SM:=(Zr zt
  (Zr (Z9 2 (mOp ZfW (ZF ["End"] "wnd" (Zd 0)) (mCB zD (Zc (ZF ["End"] "nxt" (Zd 0)) (Zc (ZF ["End"] "una" (Zd 0)) Zk)))))
  (Zr Zah
  (Zr ZbD
  (Zr (ZD ["End"] "owes_answer" (Zd 0) (mC (.bl false)))
  (ZJ (mCB ZaQ (Zc (Zd 0) (Zc (Zd 2) Zk)))))))))
def Z4:GM:=ZN 2 3 zM
def ZhI:SM:=(ZJ (mOp geM (mOp ZfW (Zd 1) (ZF ["End"] "since" (Zd 0))) (ZF ["End"] "wait" (Zd 0))))
def ZcT:GM:=ZN 2 2 ZhI
def zc:SM:=(mIf (mOr (ZG (mOp neM (ZF ["End"] "nxt" (Zd 0)) (ZF ["End"] "una" (Zd 0)))) (mOr (ZG (mOp neM (ZF ["End"] "wnd" (Zd 0)) (mC (.int 0)))) (ZdN (zX (mCB ZbB (Zc (Zd 0) Zk)))))) (Zr (ZD ["End"] "probes" (Zd 0) (mC (.bl false)))
    (ZJ (mC .non))) ZK)
def Zav:SM:=(mIf (ZdN (zX (ZF ["End"] "probes" (Zd 0)))) (Zr (ZD ["End"] "probes" (Zd 0) (mC (.bl true)))
    (zh (mCB Z6 (Zc (Zd 0) (Zc (Zd 1) Zk))))) ZK)
def Zau:SM:=(mIf (ZdN (zX (mCB ZcT (Zc (Zd 0) (Zc (Zd 1) Zk))))) (ZJ (mC .non)) ZK)
def zr:SM:=(Zr zc
  (Zr Zav
  (Zr Zau
  (Zr (ZD ["End"] "since" (Zd 0) (Zd 1))
  (ZJ (mCB ZaQ (Zc (Zd 0) (Zc (mC (.int 1)) Zk))))))))
def Z7:GM:=ZN 2 2 zr
def Zey:SM:=(Zr (Z9 1 (ZF ["End"] "owed_reset" (Zd 0)))
  (Zr (ZD ["End"] "owed_reset" (Zd 0) (mC .non))
  (ZJ (Zd 1))))
def ZcF:GM:=ZN 1 2 Zey
def Zda:SM:=(mIf (ZG (mOp Zga (ZF ["End"] "owed_reset" (Zd 0)) (mC .non))) (ZJ (mCB ZcF (Zc (Zd 0) Zk))) ZK)
def ZeE:SM:=(mIf (Zho (ZG (mOp eqM (ZF ["End"] "state" (Zd 0)) (mC (.str "time wait")))) (ZG (mOp geM (mOp ZfW (Zd 1) (ZF ["End"] "since" (Zd 0))) (mC (.int 120000))))) (ZD ["End"] "state" (Zd 0) (mC (.str "closed"))) ZK)
def ZbK:SM:=(mIf (ZG (mOp inM (ZF ["End"] "state" (Zd 0)) (Zaa (Zc (mC (.str "closed")) (Zc (mC (.str "listen")) Zk))))) (ZJ (mC .non)) ZK)
def Zcs:SM:=(mIf (Zho (ZG (mOp neM (ZF ["End"] "nxt" (Zd 0)) (ZF ["End"] "una" (Zd 0)))) (zX (mCB ZcT (Zc (Zd 0) (Zc (Zd 1) Zk))))) (ZJ (mCB Zc6 (Zc (Zd 0) (Zc (Zd 1) Zk)))) ZK)
def ZbJ:SM:=(mIf (ZG (mOp isM (Zd 2) (mC .non))) (Z9 2 (mCB Z7 (Zc (Zd 0) (Zc (Zd 1) Zk)))) ZK)
def ZbI:SM:=(mIf (ZG (mOp isM (Zd 2) (mC .non))) (Z9 2 (mCB zV (Zc (Zd 0) Zk))) ZK)
def ZeV:SM:=(Zr Zda
  (Zr ZeE
  (Zr ZbK
  (Zr Zcs
  (Zr (Z9 2 (mCB Z4 (Zc (Zd 0) (Zc (Zd 1) Zk))))
  (Zr ZbJ
  (Zr ZbI
  (ZJ (Zd 2)))))))))
def ZdK:GM:=ZN 2 3 ZeV
def ZhD:SM:=(Zr (Z9 2 (mCB ZdK (Zc (Zd 0) (Zc (Zd 1) Zk))))
  (ZJ (ZfB (ZG (mOp isM (Zd 2) (mC .non))) (ZaC Zk) (mCB ZkJ (Zc (Zd 2) Zk)))))
def ZbR:GM:=ZN 2 3 ZhD
def ZhE:SM:=(ZJ (mCB (mkG "End" Zcc) (Zc (Zd 0) (Zc (Zd 1) (Zc (Zd 2) (Zc (Zd 3) Zk))))))
def Zek:GM:=ZN 4 4 ZhE
end
end My
namespace My
open PySem L2 L2.MM
noncomputable section
inductive State where
  | closed | listen | synSent | synCome | opn | waitOne | waitTwo | closeWait | closing | lastAck | timeWait
  deriving DecidableEq
def State.s:State→Str
  | .closed=>"closed" | .listen=>"listen" | .synSent=>"syn sent" | .synCome=>"syn come" | .opn=>"open" | .waitOne=>"wait one" | .waitTwo=>"wait two" | .closeWait=>"close wait" | .closing=>"closing" | .lastAck=>"last ack" | .timeWait=>"time wait"
inductive Err where
  | none | refused | reset | time
  deriving DecidableEq
def Err.s:Err→Str
  | .none=>"" | .refused=>"refused" | .reset=>"reset" | .time=>"time"
structure Zt where
  ours:Int
  theirs:Int
  state:State
  error:Err
  first:Int
  una:Int
  nxt:Int
  rcv:Int
  wnd:Int
  told:Int
  told_by:Int
  most:Int
  written:List Int
  come:List Int
  early:List (Int×Int)
  early_fin:Option Int
  has_closed:Bool
  behind:Int
  owed_reset:Option Seg
  owes_syn:Bool
  owes_answer:Bool
  probes:Bool
  since:Int
  wait:Int
  tries:Int
def ZgQ:Option Int→D
  | none=>.non
  | some i=>.int i
def Zbk:Option Seg→D
  | none=>.non
  | some s=>s.d
def fields (l:Nat) (e:Zt):List (Str×D):=[("ours",.int e.ours),("theirs",.int e.theirs),("state",.str e.state.s),("error",.str e.error.s),("first",.int e.first),("una",.int e.una),("nxt",.int e.nxt),("rcv",.int e.rcv),("wnd",.int e.wnd),("told",.int e.told),("told_by",.int e.told_by),("most",.int e.most),("written",.ref (l+1)),("come",.ref (l+2)),("early",.ref (l+3)),("early_fin",ZgQ e.early_fin),("has_closed",.bl e.has_closed),("behind",.int e.behind),("owed_reset",Zbk e.owed_reset),("owes_syn",.bl e.owes_syn),("owes_answer",.bl e.owes_answer),("probes",.bl e.probes),("since",.int e.since),("wait",.int e.wait),("tries",.int e.tries)]
def c0 (l:Nat) (e:Zt):Cell:=.ins "End" (fields l e)
def c1 (e:Zt):Cell:=.ins "Pile" [("row",il e.written)]
def c2 (e:Zt):Cell:=.ins "Pile" [("row",il e.come)]
def c3 (e:Zt):Cell:=.dK (e.early.map fun p=>(Sum.inl p.1,D.int p.2))
def upE (θ:Sto) (l:Nat) (e:Zt):Sto:=(((θ.set l (c0 l e)).set (l+1) (c1 e)).set (l+2) (c2 e)).set (l+3) (c3 e)
theorem at0 {θ:Sto} {l:Nat} (h:l+3 < θ.length) (e:Zt):(upE θ l e)[l]?=some (c0 l e):=by
  unfold upE
  rw [List.getElem?_set_ne (by omega),List.getElem?_set_ne (by omega),List.getElem?_set_ne (by omega),List.getElem?_set_self (by omega)]
theorem at1 {θ:Sto} {l:Nat} (h:l+3 < θ.length) (e:Zt):(upE θ l e)[l+1]?=some (c1 e):=by
  unfold upE
  rw [List.getElem?_set_ne (by omega),List.getElem?_set_ne (by omega),List.getElem?_set_self (by simp; omega)]
theorem ZvQ {θ:Sto} {l:Nat} (h:l+3 < θ.length) (e:Zt):(upE θ l e)[l+2]?=some (c2 e):=by
  unfold upE
  rw [List.getElem?_set_ne (by omega),List.getElem?_set_self (by simp; omega)]
theorem ZdI {θ:Sto} {l:Nat} (h:l+3 < θ.length) (e e':Zt) (h1:e'.written=e.written) (h2:e'.come=e.come) (h3:e'.early=e.early):(upE θ l e).set l (c0 l e')=upE θ l e':=by
  unfold upE
  rw [show c1 e'=c1 e by unfold c1; rw [h1],show c2 e'=c2 e by unfold c2; rw [h2],show c3 e'=c3 e by unfold c3; rw [h3]]
  apply List.ext_getElem?
  intro i
  simp only [List.getElem?_set,List.length_set]
  by_cases h3:l=i
  · subst h3; simp
  · simp [h3]
theorem Zao {θ:Sto} {l:Nat} (h:l+3 < θ.length) (e:Zt):Zes (upE θ l e) (.ref l)=some (l,("End":Str),fields l e):=by
  show (match (upE θ l e)[l]? with | some (Cell.ins C fs)=>some (l,C,fs) | _=>none)=_
  rw [at0 h]
  rfl
theorem ce:(["End"]:List Str).contains "End"=true:=by decide +kernel
theorem cp:(["Pile"]:List Str).contains "Pile"=true:=by decide +kernel
@[simp] theorem Zzb {θ:Sto} {l:Nat} (h:l+3 < θ.length) (e:Zt):zG ["End"] "ours" (.ref l) (upE θ l e)=.ok (.int e.ours) (upE θ l e):=by
  unfold zG
  rw [Zao h]
  simp only [ce,if_true]
  rw [show (fields l e).lookup ("ours":Str)=some (.int e.ours) by with_unfolding_all rfl]
@[simp] theorem ZvB {θ:Sto} {l:Nat} (h:l+3 < θ.length) (e:Zt):zG ["End"] "theirs" (.ref l) (upE θ l e)=.ok (.int e.theirs) (upE θ l e):=by
  unfold zG
  rw [Zao h]
  simp only [ce,if_true]
  rw [show (fields l e).lookup ("theirs":Str)=some (.int e.theirs) by with_unfolding_all rfl]
@[simp] theorem Zwf {θ:Sto} {l:Nat} (h:l+3 < θ.length) (e:Zt):zG ["End"] "state" (.ref l) (upE θ l e)=.ok (.str e.state.s) (upE θ l e):=by
  unfold zG
  rw [Zao h]
  simp only [ce,if_true]
  rw [show (fields l e).lookup ("state":Str)=some (.str e.state.s) by with_unfolding_all rfl]
@[simp] theorem Zwi {θ:Sto} {l:Nat} (h:l+3 < θ.length) (e:Zt):zG ["End"] "error" (.ref l) (upE θ l e)=.ok (.str e.error.s) (upE θ l e):=by
  unfold zG
  rw [Zao h]
  simp only [ce,if_true]
  rw [show (fields l e).lookup ("error":Str)=some (.str e.error.s) by with_unfolding_all rfl]
@[simp] theorem Zwh {θ:Sto} {l:Nat} (h:l+3 < θ.length) (e:Zt):zG ["End"] "first" (.ref l) (upE θ l e)=.ok (.int e.first) (upE θ l e):=by
  unfold zG
  rw [Zao h]
  simp only [ce,if_true]
  rw [show (fields l e).lookup ("first":Str)=some (.int e.first) by with_unfolding_all rfl]
@[simp] theorem ZzW {θ:Sto} {l:Nat} (h:l+3 < θ.length) (e:Zt):zG ["End"] "una" (.ref l) (upE θ l e)=.ok (.int e.una) (upE θ l e):=by
  unfold zG
  rw [Zao h]
  simp only [ce,if_true]
  rw [show (fields l e).lookup ("una":Str)=some (.int e.una) by with_unfolding_all rfl]
@[simp] theorem ZzY {θ:Sto} {l:Nat} (h:l+3 < θ.length) (e:Zt):zG ["End"] "nxt" (.ref l) (upE θ l e)=.ok (.int e.nxt) (upE θ l e):=by
  unfold zG
  rw [Zao h]
  simp only [ce,if_true]
  rw [show (fields l e).lookup ("nxt":Str)=some (.int e.nxt) by with_unfolding_all rfl]
@[simp] theorem ZzX {θ:Sto} {l:Nat} (h:l+3 < θ.length) (e:Zt):zG ["End"] "rcv" (.ref l) (upE θ l e)=.ok (.int e.rcv) (upE θ l e):=by
  unfold zG
  rw [Zao h]
  simp only [ce,if_true]
  rw [show (fields l e).lookup ("rcv":Str)=some (.int e.rcv) by with_unfolding_all rfl]
@[simp] theorem ZzV {θ:Sto} {l:Nat} (h:l+3 < θ.length) (e:Zt):zG ["End"] "wnd" (.ref l) (upE θ l e)=.ok (.int e.wnd) (upE θ l e):=by
  unfold zG
  rw [Zao h]
  simp only [ce,if_true]
  rw [show (fields l e).lookup ("wnd":Str)=some (.int e.wnd) by with_unfolding_all rfl]
@[simp] theorem Zy8 {θ:Sto} {l:Nat} (h:l+3 < θ.length) (e:Zt):zG ["End"] "told" (.ref l) (upE θ l e)=.ok (.int e.told) (upE θ l e):=by
  unfold zG
  rw [Zao h]
  simp only [ce,if_true]
  rw [show (fields l e).lookup ("told":Str)=some (.int e.told) by with_unfolding_all rfl]
@[simp] theorem Zur {θ:Sto} {l:Nat} (h:l+3 < θ.length) (e:Zt):zG ["End"] "told_by" (.ref l) (upE θ l e)=.ok (.int e.told_by) (upE θ l e):=by
  unfold zG
  rw [Zao h]
  simp only [ce,if_true]
  rw [show (fields l e).lookup ("told_by":Str)=some (.int e.told_by) by with_unfolding_all rfl]
@[simp] theorem Zzc {θ:Sto} {l:Nat} (h:l+3 < θ.length) (e:Zt):zG ["End"] "most" (.ref l) (upE θ l e)=.ok (.int e.most) (upE θ l e):=by
  unfold zG
  rw [Zao h]
  simp only [ce,if_true]
  rw [show (fields l e).lookup ("most":Str)=some (.int e.most) by with_unfolding_all rfl]
@[simp] theorem Zuq {θ:Sto} {l:Nat} (h:l+3 < θ.length) (e:Zt):zG ["End"] "written" (.ref l) (upE θ l e)=.ok (.ref (l+1)) (upE θ l e):=by
  unfold zG
  rw [Zao h]
  simp only [ce,if_true]
  rw [show (fields l e).lookup ("written":Str)=some (.ref (l+1)) by with_unfolding_all rfl]
@[simp] theorem Zzd {θ:Sto} {l:Nat} (h:l+3 < θ.length) (e:Zt):zG ["End"] "come" (.ref l) (upE θ l e)=.ok (.ref (l+2)) (upE θ l e):=by
  unfold zG
  rw [Zao h]
  simp only [ce,if_true]
  rw [show (fields l e).lookup ("come":Str)=some (.ref (l+2)) by with_unfolding_all rfl]
@[simp] theorem Zwj {θ:Sto} {l:Nat} (h:l+3 < θ.length) (e:Zt):zG ["End"] "early" (.ref l) (upE θ l e)=.ok (.ref (l+3)) (upE θ l e):=by
  unfold zG
  rw [Zao h]
  simp only [ce,if_true]
  rw [show (fields l e).lookup ("early":Str)=some (.ref (l+3)) by with_unfolding_all rfl]
@[simp] theorem Zsw {θ:Sto} {l:Nat} (h:l+3 < θ.length) (e:Zt):zG ["End"] "early_fin" (.ref l) (upE θ l e)=.ok (ZgQ e.early_fin) (upE θ l e):=by
  unfold zG
  rw [Zao h]
  simp only [ce,if_true]
  rw [show (fields l e).lookup ("early_fin":Str)=some (ZgQ e.early_fin) by with_unfolding_all rfl]
@[simp] theorem ZrI {θ:Sto} {l:Nat} (h:l+3 < θ.length) (e:Zt):zG ["End"] "has_closed" (.ref l) (upE θ l e)=.ok (.bl e.has_closed) (upE θ l e):=by
  unfold zG
  rw [Zao h]
  simp only [ce,if_true]
  rw [show (fields l e).lookup ("has_closed":Str)=some (.bl e.has_closed) by with_unfolding_all rfl]
@[simp] theorem ZvD {θ:Sto} {l:Nat} (h:l+3 < θ.length) (e:Zt):zG ["End"] "behind" (.ref l) (upE θ l e)=.ok (.int e.behind) (upE θ l e):=by
  unfold zG
  rw [Zao h]
  simp only [ce,if_true]
  rw [show (fields l e).lookup ("behind":Str)=some (.int e.behind) by with_unfolding_all rfl]
@[simp] theorem ZrH {θ:Sto} {l:Nat} (h:l+3 < θ.length) (e:Zt):zG ["End"] "owed_reset" (.ref l) (upE θ l e)=.ok (Zbk e.owed_reset) (upE θ l e):=by
  unfold zG
  rw [Zao h]
  simp only [ce,if_true]
  rw [show (fields l e).lookup ("owed_reset":Str)=some (Zbk e.owed_reset) by with_unfolding_all rfl]
@[simp] theorem ZtU {θ:Sto} {l:Nat} (h:l+3 < θ.length) (e:Zt):zG ["End"] "owes_syn" (.ref l) (upE θ l e)=.ok (.bl e.owes_syn) (upE θ l e):=by
  unfold zG
  rw [Zao h]
  simp only [ce,if_true]
  rw [show (fields l e).lookup ("owes_syn":Str)=some (.bl e.owes_syn) by with_unfolding_all rfl]
@[simp] theorem ZqK {θ:Sto} {l:Nat} (h:l+3 < θ.length) (e:Zt):zG ["End"] "owes_answer" (.ref l) (upE θ l e)=.ok (.bl e.owes_answer) (upE θ l e):=by
  unfold zG
  rw [Zao h]
  simp only [ce,if_true]
  rw [show (fields l e).lookup ("owes_answer":Str)=some (.bl e.owes_answer) by with_unfolding_all rfl]
@[simp] theorem ZvC {θ:Sto} {l:Nat} (h:l+3 < θ.length) (e:Zt):zG ["End"] "probes" (.ref l) (upE θ l e)=.ok (.bl e.probes) (upE θ l e):=by
  unfold zG
  rw [Zao h]
  simp only [ce,if_true]
  rw [show (fields l e).lookup ("probes":Str)=some (.bl e.probes) by with_unfolding_all rfl]
@[simp] theorem Zwg {θ:Sto} {l:Nat} (h:l+3 < θ.length) (e:Zt):zG ["End"] "since" (.ref l) (upE θ l e)=.ok (.int e.since) (upE θ l e):=by
  unfold zG
  rw [Zao h]
  simp only [ce,if_true]
  rw [show (fields l e).lookup ("since":Str)=some (.int e.since) by with_unfolding_all rfl]
@[simp] theorem Zy7 {θ:Sto} {l:Nat} (h:l+3 < θ.length) (e:Zt):zG ["End"] "wait" (.ref l) (upE θ l e)=.ok (.int e.wait) (upE θ l e):=by
  unfold zG
  rw [Zao h]
  simp only [ce,if_true]
  rw [show (fields l e).lookup ("wait":Str)=some (.int e.wait) by with_unfolding_all rfl]
@[simp] theorem Zwe {θ:Sto} {l:Nat} (h:l+3 < θ.length) (e:Zt):zG ["End"] "tries" (.ref l) (upE θ l e)=.ok (.int e.tries) (upE θ l e):=by
  unfold zG
  rw [Zao h]
  simp only [ce,if_true]
  rw [show (fields l e).lookup ("tries":Str)=some (.int e.tries) by with_unfolding_all rfl]
@[simp] theorem ZuW {θ:Sto} {l:Nat} (h:l+3 < θ.length) (e:Zt) (v:Int):za ["End"] "theirs" (.int v) (.ref l) (upE θ l e)=some (upE θ l { e with theirs:=v }):=by
  unfold za
  rw [Zao h]
  simp only [ce]
  rw [if_pos ⟨trivial,show 25<1000 by decide⟩,show ZaD ("theirs":Str) (.int v) (fields l e)=fields l { e with theirs:=v } by with_unfolding_all rfl]
  exact congrArg some (ZdI h e { e with theirs:=v } rfl rfl rfl)
@[simp] theorem Zv7 {θ:Sto} {l:Nat} (h:l+3 < θ.length) (e:Zt) (v:State):za ["End"] "state" (.str v.s) (.ref l) (upE θ l e)=some (upE θ l { e with state:=v }):=by
  unfold za
  rw [Zao h]
  simp only [ce]
  rw [if_pos ⟨trivial,show 25<1000 by decide⟩,show ZaD ("state":Str) (.str v.s) (fields l e)=fields l { e with state:=v } by with_unfolding_all rfl]
  exact congrArg some (ZdI h e { e with state:=v } rfl rfl rfl)
@[simp] theorem Zv9 {θ:Sto} {l:Nat} (h:l+3 < θ.length) (e:Zt) (v:Err):za ["End"] "error" (.str v.s) (.ref l) (upE θ l e)=some (upE θ l { e with error:=v }):=by
  unfold za
  rw [Zao h]
  simp only [ce]
  rw [if_pos ⟨trivial,show 25<1000 by decide⟩,show ZaD ("error":Str) (.str v.s) (fields l e)=fields l { e with error:=v } by with_unfolding_all rfl]
  exact congrArg some (ZdI h e { e with error:=v } rfl rfl rfl)
@[simp] theorem ZzM {θ:Sto} {l:Nat} (h:l+3 < θ.length) (e:Zt) (v:Int):za ["End"] "una" (.int v) (.ref l) (upE θ l e)=some (upE θ l { e with una:=v }):=by
  unfold za
  rw [Zao h]
  simp only [ce]
  rw [if_pos ⟨trivial,show 25<1000 by decide⟩,show ZaD ("una":Str) (.int v) (fields l e)=fields l { e with una:=v } by with_unfolding_all rfl]
  exact congrArg some (ZdI h e { e with una:=v } rfl rfl rfl)
@[simp] theorem ZzO {θ:Sto} {l:Nat} (h:l+3 < θ.length) (e:Zt) (v:Int):za ["End"] "nxt" (.int v) (.ref l) (upE θ l e)=some (upE θ l { e with nxt:=v }):=by
  unfold za
  rw [Zao h]
  simp only [ce]
  rw [if_pos ⟨trivial,show 25<1000 by decide⟩,show ZaD ("nxt":Str) (.int v) (fields l e)=fields l { e with nxt:=v } by with_unfolding_all rfl]
  exact congrArg some (ZdI h e { e with nxt:=v } rfl rfl rfl)
@[simp] theorem ZzN {θ:Sto} {l:Nat} (h:l+3 < θ.length) (e:Zt) (v:Int):za ["End"] "rcv" (.int v) (.ref l) (upE θ l e)=some (upE θ l { e with rcv:=v }):=by
  unfold za
  rw [Zao h]
  simp only [ce]
  rw [if_pos ⟨trivial,show 25<1000 by decide⟩,show ZaD ("rcv":Str) (.int v) (fields l e)=fields l { e with rcv:=v } by with_unfolding_all rfl]
  exact congrArg some (ZdI h e { e with rcv:=v } rfl rfl rfl)
@[simp] theorem ZzL {θ:Sto} {l:Nat} (h:l+3 < θ.length) (e:Zt) (v:Int):za ["End"] "wnd" (.int v) (.ref l) (upE θ l e)=some (upE θ l { e with wnd:=v }):=by
  unfold za
  rw [Zao h]
  simp only [ce]
  rw [if_pos ⟨trivial,show 25<1000 by decide⟩,show ZaD ("wnd":Str) (.int v) (fields l e)=fields l { e with wnd:=v } by with_unfolding_all rfl]
  exact congrArg some (ZdI h e { e with wnd:=v } rfl rfl rfl)
@[simp] theorem ZyO {θ:Sto} {l:Nat} (h:l+3 < θ.length) (e:Zt) (v:Int):za ["End"] "told" (.int v) (.ref l) (upE θ l e)=some (upE θ l { e with told:=v }):=by
  unfold za
  rw [Zao h]
  simp only [ce]
  rw [if_pos ⟨trivial,show 25<1000 by decide⟩,show ZaD ("told":Str) (.int v) (fields l e)=fields l { e with told:=v } by with_unfolding_all rfl]
  exact congrArg some (ZdI h e { e with told:=v } rfl rfl rfl)
@[simp] theorem Zuh {θ:Sto} {l:Nat} (h:l+3 < θ.length) (e:Zt) (v:Int):za ["End"] "told_by" (.int v) (.ref l) (upE θ l e)=some (upE θ l { e with told_by:=v }):=by
  unfold za
  rw [Zao h]
  simp only [ce]
  rw [if_pos ⟨trivial,show 25<1000 by decide⟩,show ZaD ("told_by":Str) (.int v) (fields l e)=fields l { e with told_by:=v } by with_unfolding_all rfl]
  exact congrArg some (ZdI h e { e with told_by:=v } rfl rfl rfl)
@[simp] theorem ZyR {θ:Sto} {l:Nat} (h:l+3 < θ.length) (e:Zt) (v:Int):za ["End"] "most" (.int v) (.ref l) (upE θ l e)=some (upE θ l { e with most:=v }):=by
  unfold za
  rw [Zao h]
  simp only [ce]
  rw [if_pos ⟨trivial,show 25<1000 by decide⟩,show ZaD ("most":Str) (.int v) (fields l e)=fields l { e with most:=v } by with_unfolding_all rfl]
  exact congrArg some (ZdI h e { e with most:=v } rfl rfl rfl)
@[simp] theorem ZkE {θ:Sto} {l:Nat} (h:l+3 < θ.length) (e:Zt) (v:Option Int):za ["End"] "early_fin" (ZgQ v) (.ref l) (upE θ l e)=some (upE θ l { e with early_fin:=v }):=by
  unfold za
  rw [Zao h]
  simp only [ce]
  rw [if_pos ⟨trivial,show 25<1000 by decide⟩,show ZaD ("early_fin":Str) (ZgQ v) (fields l e)=fields l { e with early_fin:=v } by with_unfolding_all rfl]
  exact congrArg some (ZdI h e { e with early_fin:=v } rfl rfl rfl)
@[simp] theorem Zq4 {θ:Sto} {l:Nat} (h:l+3 < θ.length) (e:Zt) (v:Bool):za ["End"] "has_closed" (.bl v) (.ref l) (upE θ l e)=some (upE θ l { e with has_closed:=v }):=by
  unfold za
  rw [Zao h]
  simp only [ce]
  rw [if_pos ⟨trivial,show 25<1000 by decide⟩,show ZaD ("has_closed":Str) (.bl v) (fields l e)=fields l { e with has_closed:=v } by with_unfolding_all rfl]
  exact congrArg some (ZdI h e { e with has_closed:=v } rfl rfl rfl)
@[simp] theorem Zfn {θ:Sto} {l:Nat} (h:l+3 < θ.length) (e:Zt) (v:Option Seg):za ["End"] "owed_reset" (Zbk v) (.ref l) (upE θ l e)=some (upE θ l { e with owed_reset:=v }):=by
  unfold za
  rw [Zao h]
  simp only [ce]
  rw [if_pos ⟨trivial,show 25<1000 by decide⟩,show ZaD ("owed_reset":Str) (Zbk v) (fields l e)=fields l { e with owed_reset:=v } by with_unfolding_all rfl]
  exact congrArg some (ZdI h e { e with owed_reset:=v } rfl rfl rfl)
@[simp] theorem Zs7 {θ:Sto} {l:Nat} (h:l+3 < θ.length) (e:Zt) (v:Bool):za ["End"] "owes_syn" (.bl v) (.ref l) (upE θ l e)=some (upE θ l { e with owes_syn:=v }):=by
  unfold za
  rw [Zao h]
  simp only [ce]
  rw [if_pos ⟨trivial,show 25<1000 by decide⟩,show ZaD ("owes_syn":Str) (.bl v) (fields l e)=fields l { e with owes_syn:=v } by with_unfolding_all rfl]
  exact congrArg some (ZdI h e { e with owes_syn:=v } rfl rfl rfl)
@[simp] theorem ZqJ {θ:Sto} {l:Nat} (h:l+3 < θ.length) (e:Zt) (v:Bool):za ["End"] "owes_answer" (.bl v) (.ref l) (upE θ l e)=some (upE θ l { e with owes_answer:=v }):=by
  unfold za
  rw [Zao h]
  simp only [ce]
  rw [if_pos ⟨trivial,show 25<1000 by decide⟩,show ZaD ("owes_answer":Str) (.bl v) (fields l e)=fields l { e with owes_answer:=v } by with_unfolding_all rfl]
  exact congrArg some (ZdI h e { e with owes_answer:=v } rfl rfl rfl)
@[simp] theorem ZuX {θ:Sto} {l:Nat} (h:l+3 < θ.length) (e:Zt) (v:Bool):za ["End"] "probes" (.bl v) (.ref l) (upE θ l e)=some (upE θ l { e with probes:=v }):=by
  unfold za
  rw [Zao h]
  simp only [ce]
  rw [if_pos ⟨trivial,show 25<1000 by decide⟩,show ZaD ("probes":Str) (.bl v) (fields l e)=fields l { e with probes:=v } by with_unfolding_all rfl]
  exact congrArg some (ZdI h e { e with probes:=v } rfl rfl rfl)
@[simp] theorem Zv8 {θ:Sto} {l:Nat} (h:l+3 < θ.length) (e:Zt) (v:Int):za ["End"] "since" (.int v) (.ref l) (upE θ l e)=some (upE θ l { e with since:=v }):=by
  unfold za
  rw [Zao h]
  simp only [ce]
  rw [if_pos ⟨trivial,show 25<1000 by decide⟩,show ZaD ("since":Str) (.int v) (fields l e)=fields l { e with since:=v } by with_unfolding_all rfl]
  exact congrArg some (ZdI h e { e with since:=v } rfl rfl rfl)
@[simp] theorem ZyN {θ:Sto} {l:Nat} (h:l+3 < θ.length) (e:Zt) (v:Int):za ["End"] "wait" (.int v) (.ref l) (upE θ l e)=some (upE θ l { e with wait:=v }):=by
  unfold za
  rw [Zao h]
  simp only [ce]
  rw [if_pos ⟨trivial,show 25<1000 by decide⟩,show ZaD ("wait":Str) (.int v) (fields l e)=fields l { e with wait:=v } by with_unfolding_all rfl]
  exact congrArg some (ZdI h e { e with wait:=v } rfl rfl rfl)
@[simp] theorem Zv6 {θ:Sto} {l:Nat} (h:l+3 < θ.length) (e:Zt) (v:Int):za ["End"] "tries" (.int v) (.ref l) (upE θ l e)=some (upE θ l { e with tries:=v }):=by
  unfold za
  rw [Zao h]
  simp only [ce]
  rw [if_pos ⟨trivial,show 25<1000 by decide⟩,show ZaD ("tries":Str) (.int v) (fields l e)=fields l { e with tries:=v } by with_unfolding_all rfl]
  exact congrArg some (ZdI h e { e with tries:=v } rfl rfl rfl)
section
variable {θ:Sto} {l:Nat}
@[simp] theorem Zy9 (h:l+3 < θ.length) (e:Zt):zG ["Pile"] "row" (.ref (l+1)) (upE θ l e)=.ok (il e.written) (upE θ l e):=by
  have:Zes (upE θ l e) (.ref (l+1))=some (l+1,("Pile":Str),[(("row":Str),il e.written)]):=by
    show (match (upE θ l e)[l+1]? with | some (Cell.ins C fs)=>some (l+1,C,fs) | _=>none)=_
    rw [at1 h]
    rfl
  unfold zG
  rw [this]
  simp only [cp,if_true]
  rw [show ([("row",il e.written)]:List (Str×D)).lookup ("row":Str)=some (il e.written) by with_unfolding_all rfl]
@[simp] theorem Zza (h:l+3 < θ.length) (e:Zt):zG ["Pile"] "row" (.ref (l+2)) (upE θ l e)=.ok (il e.come) (upE θ l e):=by
  have:Zes (upE θ l e) (.ref (l+2))=some (l+2,("Pile":Str),[(("row":Str),il e.come)]):=by
    show (match (upE θ l e)[l+2]? with | some (Cell.ins C fs)=>some (l+2,C,fs) | _=>none)=_
    rw [ZvQ h]
    rfl
  unfold zG
  rw [this]
  simp only [cp,if_true]
  rw [show ([("row",il e.come)]:List (Str×D)).lookup ("row":Str)=some (il e.come) by with_unfolding_all rfl]
@[simp] theorem ZyP (h:l+3 < θ.length) (e:Zt) (r:List Int):za ["Pile"] "row" (il r) (.ref (l+1)) (upE θ l e)=some (upE θ l { e with written:=r }):=by
  have:Zes (upE θ l e) (.ref (l+1))=some (l+1,("Pile":Str),[(("row":Str),il e.written)]):=by
    show (match (upE θ l e)[l+1]? with | some (Cell.ins C fs)=>some (l+1,C,fs) | _=>none)=_
    rw [at1 h]
    rfl
  unfold za
  rw [this]
  simp only [cp]
  rw [if_pos ⟨trivial,show 1<1000 by decide⟩,show ZaD ("row":Str) (il r) [("row",il e.written)]=[(("row":Str),il r)] by with_unfolding_all rfl]
  congr 1
  unfold upE
  apply List.ext_getElem?
  intro i
  simp only [List.getElem?_set,List.length_set]
  by_cases q:l+1=i
  · subst q; simp [c1]
  · simp [q,c0,c2,c3,fields]
@[simp] theorem ZyQ (h:l+3 < θ.length) (e:Zt) (r:List Int):za ["Pile"] "row" (il r) (.ref (l+2)) (upE θ l e)=some (upE θ l { e with come:=r }):=by
  have:Zes (upE θ l e) (.ref (l+2))=some (l+2,("Pile":Str),[(("row":Str),il e.come)]):=by
    show (match (upE θ l e)[l+2]? with | some (Cell.ins C fs)=>some (l+2,C,fs) | _=>none)=_
    rw [ZvQ h]
    rfl
  unfold za
  rw [this]
  simp only [cp]
  rw [if_pos ⟨trivial,show 1<1000 by decide⟩,show ZaD ("row":Str) (il r) [("row",il e.come)]=[(("row":Str),il r)] by with_unfolding_all rfl]
  congr 1
  unfold upE
  apply List.ext_getElem?
  intro i
  simp only [List.getElem?_set,List.length_set]
  by_cases q:l+2=i
  · subst q; simp [c2]
  · simp [q,c0,c1,c3,fields]
end
@[simp] theorem ZuG:("closed":Str)=State.closed.s:=nr rfl
@[simp] theorem ZuF:("listen":Str)=State.listen.s:=nr rfl
@[simp] theorem Zt9:("syn sent":Str)=State.synSent.s:=nr rfl
@[simp] theorem Zua:("syn come":Str)=State.synCome.s:=nr rfl
@[simp] theorem Zyu:("open":Str)=State.opn.s:=nr rfl
@[simp] theorem Zt8:("wait one":Str)=State.waitOne.s:=nr rfl
@[simp] theorem Zt7:("wait two":Str)=State.waitTwo.s:=nr rfl
@[simp] theorem Zr8:("close wait":Str)=State.closeWait.s:=nr rfl
@[simp] theorem Zud:("closing":Str)=State.closing.s:=nr rfl
@[simp] theorem Zuc:("last ack":Str)=State.lastAck.s:=nr rfl
@[simp] theorem ZsI:("time wait":Str)=State.timeWait.s:=nr rfl
@[simp] theorem Zyv:("":Str)=Err.none.s:=nr rfl
@[simp] theorem Zub:("refused":Str)=Err.refused.s:=nr rfl
@[simp] theorem ZvZ:("reset":Str)=Err.reset.s:=nr rfl
@[simp] theorem Zyt:("time":Str)=Err.time.s:=nr rfl
theorem State.inj:∀a b:State,a.s=b.s↔a=b:=by
  intro a b
  constructor
  · intro h
    cases a<;>cases b<;>first | rfl | (exact absurd h (by decide +kernel))
  · intro h; rw [h]
theorem Err.inj:∀a b:Err,a.s=b.s↔a=b:=by
  intro a b
  constructor
  · intro h
    cases a<;>cases b<;>first | rfl | (exact absurd h (by decide +kernel))
  · intro h; rw [h]
theorem Zpf (k:Nat) (x:Str):pl k (.str x)=PyData.strOk x:=by cases k<;>simp [pl]
theorem State.ok (a:State) (k:Nat):pl k (.str a.s)=true:=by
  rw [Zpf]
  cases a<;>decide +kernel
theorem Err.ok (a:Err) (k:Nat):pl k (.str a.s)=true:=by
  rw [Zpf]
  cases a<;>decide +kernel
section
variable {θ:Sto}
@[simp] theorem ZvI (a b:State):eqM (.str a.s) (.str b.s) θ=.ok (.bl (decide (a=b))) θ:=by
  rw [Zhx (x:=.str a.s) (y:=.str b.s) (Zdf (State.ok a 9) (State.ok b 9) rfl rfl)]
  simp [State.inj]
@[simp] theorem Zvq (a b:State):neM (.str a.s) (.str b.s) θ=.ok (.bl (!decide (a=b))) θ:=by
  rw [Zhl (x:=.str a.s) (y:=.str b.s) (Zdf (State.ok a 9) (State.ok b 9) rfl rfl)]
  simp [State.inj]
@[simp] theorem Zzi (a b:Err):eqM (.str a.s) (.str b.s) θ=.ok (.bl (decide (a=b))) θ:=by
  rw [Zhx (x:=.str a.s) (y:=.str b.s) (Zdf (Err.ok a 9) (Err.ok b 9) rfl rfl)]
  simp [Err.inj]
theorem Zfc (a:State):∀bs:List State,ZhP (bs.map fun b=>D.str b.s)=true∧memS a.s (bs.map fun b=>D.str b.s)=decide (a∈bs)
  | []=>⟨rfl,by simp [memS]⟩
  | b::bs=>by
    obtain ⟨h1,h2⟩:=Zfc a bs
    refine ⟨h1,?_⟩
    rw [List.map_cons]
    show (decide (b.s=a.s) || memS a.s (bs.map fun b=>D.str b.s))=_
    rw [h2,Bool.eq_iff_iff]
    simp only [Bool.or_eq_true,decide_eq_true_eq,List.mem_cons,State.inj]
    constructor
    · rintro (h | h)
      · exact .inl h.symm
      · exact .inr h
    · rintro (h | h)
      · exact .inl h.symm
      · exact .inr h
theorem Zgb (a:State) (bs:List State):inM (.str a.s) (.tup (bs.map fun b=>.str b.s)) θ=.ok (.bl (decide (a∈bs))) θ:=by
  obtain ⟨h1,h2⟩:=Zfc a bs
  have e:inD θ (.str a.s) (.tup (bs.map fun b=>D.str b.s))=some (decide (a∈bs)):=by
    unfold inD
    simp only [Zgn]
    rw [if_pos h1,h2]
  unfold inM
  rw [e]
theorem ZiP (a:State) (bs:List State):ZcV (.str a.s) (.tup (bs.map fun b=>.str b.s)) θ=.ok (.bl (!decide (a∈bs))) θ:=by
  obtain ⟨h1,h2⟩:=Zfc a bs
  have e:inD θ (.str a.s) (.tup (bs.map fun b=>D.str b.s))=some (decide (a∈bs)):=by
    unfold inD
    simp only [Zgn]
    rw [if_pos h1,h2]
  unfold ZcV
  rw [e]
@[simp] theorem ZzR (a b c:State):inM (.str a.s) (.tup [.str b.s,.str c.s]) θ=.ok (.bl (decide (a∈[b,c]))) θ:=Zgb a [b,c]
@[simp] theorem ZzQ (a b c d:State):inM (.str a.s) (.tup [.str b.s,.str c.s,.str d.s]) θ=.ok (.bl (decide (a∈[b,c,d]))) θ:=Zgb a [b,c,d]
@[simp] theorem ZzP (a b c d e f:State):inM (.str a.s) (.tup [.str b.s,.str c.s,.str d.s,.str e.s,.str f.s]) θ=.ok (.bl (decide (a∈[b,c,d,e,f]))) θ:=Zgb a [b,c,d,e,f]
@[simp] theorem Zvp (a b c d:State):ZcV (.str a.s) (.tup [.str b.s,.str c.s,.str d.s]) θ=.ok (.bl (!decide (a∈[b,c,d]))) θ:=ZiP a [b,c,d]
end
end
end My
namespace My
open PySem L2 L2.MM
noncomputable section
def Zy (n k:Int):Int:=(n+k) % 4294967296
def ZW (n b:Int):Int:=(n-b+2147483648) % 4294967296-2147483648
def startTimer (e:Zt) (now:Int):Zt:={ e with since:=now,wait:=1000,tries:=0 }
def ZS (e:Zt):Int:=64-(e.come.length:Int)
def zK (e:Zt):Int:=if 16<e.most then 16 else e.most
def Zdt (e:Zt) (now:Int):Bool:=decide (e.wait≤now-e.since)
def ZcB (e:Zt) (n f:Int) (data:List Int):Seg:=⟨e.ours,e.theirs,n,e.rcv,f+16,ZS e,0,data⟩
def Zfs (e:Zt):Seg:=if e.state=.synSent then ⟨e.ours,e.theirs,e.first,0,2,64,16,[]⟩ else ⟨e.ours,e.theirs,e.first,e.rcv,18,64,16,[]⟩
def mn (i j:Int):Int:=if j<i then j else i
def Zch (e:Zt):List Int:=ZbM e.written none (some (mn (ZW e.nxt e.una) (zK e)))
def again (e:Zt) (now:Int):Option Seg×Zt:=
  if e.tries=6 then (none,{ e with state:=.closed,error:=.time })
  else
    let e1:={ e with tries:=e.tries+1,wait:=mn (2*e.wait) 16000,since:=now }
    if e.state=.synSent∨e.state=.synCome then (some (Zfs e1),{ e1 with owes_syn:=false })
    else (some (ZcB e1 e.una (if 0<(Zch e).length then 0 else 1) (Zch e)),e1)
def Zb7 (e:Zt):Int:=ZW e.behind e.nxt
def zL (e:Zt):Bool:=decide (e.state∈[State.opn,.waitOne,.closeWait,.closing,.lastAck]) && decide (0<Zb7 e)
def hasNewFin (e:Zt):Bool:=decide (e.state∈[State.waitOne,.closing,.lastAck]) && decide (Zb7 e=0)
def Zbh (e:Zt):Bool:=zL e || hasNewFin e
section
variable {θ:Sto} {l:Nat} {e:Zt} {now n k:Int}
@[simp] theorem Zyw:zC [.int n,.int k] θ=.ok (.int (Zy n k)) θ:=by simp [zC,Zli,Zy]
@[simp] theorem ZuK:zD [.int n,.int k] θ=.ok (.int (ZW n k)) θ:=by simp [zD,ZhF,ZW]
@[simp] theorem ZqE (h:l+3 < θ.length):Z6 [.ref l,.int now] (upE θ l e)=.ok .non (upE θ l (startTimer e now)):=by
  simp [Z6,Zd9,h,startTimer]
@[simp] theorem Zv0 (h:l+3 < θ.length):ZcE [.ref l] (upE θ l e)=.ok (.str e.state.s) (upE θ l e):=by
  simp [ZcE,Ziz,h]
@[simp] theorem Zv3 (h:l+3 < θ.length):Zft [.ref l] (upE θ l e)=.ok (.str e.error.s) (upE θ l e):=by
  simp [Zft,ZiA,h]
@[simp] theorem Zv1 (h:l+3 < θ.length):Zfa [.ref (l+2)] (upE θ l e)=.ok (.int (ZS e)) (upE θ l e):=by
  simp [Zfa,Zlh,h,ZS]
@[simp] theorem ZqO (h:l+3 < θ.length):ZaT [.ref l] (upE θ l e)=.ok (.int (ZS e)) (upE θ l e):=by
  simp [ZaT,Zez,h]
@[simp] theorem ZoX (h:l+3 < θ.length):Zac [.ref l] (upE θ l e)=.ok (.int (zK e)) (upE θ l e):=by
  simp [Zac,Zdw,h,zK]
@[simp] theorem ZuN (h:l+3 < θ.length):ZcT [.ref l,.int now] (upE θ l e)=.ok (.bl (Zdt e now)) (upE θ l e):=by
  simp [ZcT,ZhI,h,Zdt]
theorem Zsl (a b c d f g i:Int) (x:List Int):D.tup [.int a,.int b,.int c,.int d,.int f,.int g,.int i,itp x]=(Seg.mk a b c d f g i x).d:=rfl
theorem Zhg (a b c d f g i:Int):D.tup [.int a,.int b,.int c,.int d,.int f,.int g,.int i,.tup []]=(Seg.mk a b c d f g i []).d:=rfl
@[simp] theorem ZsP (h:l+3 < θ.length):Zbz [.ref l] (upE θ l e)=.ok (Zfs e).d (upE θ l { e with owes_syn:=false }):=by
  by_cases c:e.state=.synSent<;>simp [Zbz,ZfK,Zex,h,Zfs,c,Zhg]
@[simp] theorem ZqN {f:Int} {data:List Int} (h:l+3 < θ.length):zB [.ref l,.int n,.int f,il data] (upE θ l e)=.ok (ZcB e n f data).d (upE θ l e):=by
  simp [zB,Zew,h,ZcB,Zsl]
theorem ZqX (h:l+3 < θ.length):Zc6 [.ref l,.int now] (upE θ l e)=.ok (Zbk (again e now).1) (upE θ l (again e now).2):=by
  by_cases c:e.tries=6
  · simp [Zc6,ZdB,Zct,h,again,c,Zbk]
  · by_cases c2:e.state=.synSent∨e.state=.synCome
    · simp [Zc6,ZdB,Zct,Zdd,h,again,c,c2,Zbk,ZeL,mn]
    · have am:∀e':Zt,e'.most=e.most→zK e'=zK e:=fun e' h=>by unfold zK; rw [h]
      have ad:Zch e=ZbM e.written none (some (mn (ZW e.nxt e.una) (zK e))):=rfl
      have sl:∀e':Zt,e'.written=e.written→Ze8 (upE θ l e') (il e'.written) none (some (if zK e<ZW e.nxt e.una then zK e else ZW e.nxt e.una))=some (il (Zch e)):=fun e' h'=>by
        rw [Zmw,h']; rfl
      unfold again
      rw [if_neg c,if_neg c2]
      have c2':¬(e.state=State.synSent∨e.state=State.synCome):=c2
      by_cases c3:0<(Zch e).length
      · rw [if_pos c3]
        have c3':(0:Int)<(Zch e).length:=by omega
        simp [Zc6,ZdB,Zct,Zdd,h,c,c2',ZeL,mn,am,sl,c3,c3',Zbk,-Zmw,ZcB,ZS]
      · rw [if_neg c3]
        have c3':¬(0:Int)<(Zch e).length:=by omega
        simp [Zc6,ZdB,Zct,Zdd,h,c,c2',ZeL,mn,am,sl,c3,c3',Zbk,-Zmw,ZcB,ZS]
@[simp] theorem ZuH (h:l+3 < θ.length):Zbq [.ref l] (upE θ l e)=.ok (.int (Zb7 e)) (upE θ l e):=by
  simp [Zbq,ZhA,h,Zb7]
@[simp] theorem ZoZ (h:l+3 < θ.length):Zae [.ref l] (upE θ l e)=.ok (.bl (zL e)) (upE θ l e):=by
  simp [Zae,Zdz,h,zL]
@[simp] theorem ZqG (h:l+3 < θ.length):Zbr [.ref l] (upE θ l e)=.ok (.bl (hasNewFin e)) (upE θ l e):=by
  simp [Zbr,Zea,h,hasNewFin]
@[simp] theorem ZsX (h:l+3 < θ.length):ZbB [.ref l] (upE θ l e)=.ok (.bl (Zbh e)) (upE θ l e):=by
  simp [ZbB,ZfN,h,Zbh]
end
def mn3 (i j k:Int):Int:=if j<i then (if k<j then k else j) else (if k<i then k else i)
def ZgU (e:Zt) (room:Int):Int:=mn3 (zK e) (Zb7 e) room
def Zfy (e:Zt) (room:Int):Seg×Zt:=
  let e1:={ e with nxt:=Zy e.nxt (ZgU e room) }
  (ZcB e1 e.nxt (if Zb7 e1=0 then 8 else 0) (ZbM e.written (some (ZW e.nxt e.una)) (some (ZW e.nxt e.una+ZgU e room))),e1)
def ZiQ (e:Zt):Seg×Zt:=(ZcB e e.nxt 1 [],{ e with nxt:=Zy e.nxt 1 })
def ZaH (e:Zt) (room:Int):Seg×Zt:=if zL e=true then Zfy { e with probes:=false } room else ZiQ { e with probes:=false }
def Zfb (e:Zt) (now:Int):Seg×Zt:=
  let e1:=if e.nxt=e.una then startTimer e now else e
  (Zfs { e1 with nxt:=Zy e.first 1 },{ e1 with nxt:=Zy e.first 1,owes_syn:=false })
def zq (e:Zt) (now:Int):Option Seg×Zt:=
  if e.state=.synSent∨e.state=.synCome then
    if e.nxt=e.first∨e.owes_syn=true then (some (Zfb e now).1,(Zfb e now).2) else (none,e)
  else
    if e.wnd-ZW e.nxt e.una≤0∨Zbh e=false then (none,e)
    else
      let e1:=if e.nxt=e.una then startTimer e now else e
      (some (ZaH { e1 with owes_answer:=false } (e.wnd-ZW e.nxt e.una)).1,(ZaH { e1 with owes_answer:=false } (e.wnd-ZW e.nxt e.una)).2)
def zl (e:Zt) (now:Int):Option Seg×Zt:=
  if ¬e.nxt=e.una∨¬e.wnd=0∨Zbh e=false then (none,{ e with probes:=false })
  else
    let e1:=if e.probes=true then e else startTimer { e with probes:=true } now
    if Zdt e1 now=true then (some (ZaH { e1 with since:=now } 1).1,(ZaH { e1 with since:=now } 1).2) else (none,e1)
def z7 (e:Zt):Option Seg×Zt:=if e.owes_answer=true then (some (ZcB e e.nxt 0 []),{ e with owes_answer:=false }) else (none,e)
def ZbX (e:Zt) (now:Int):Option Seg×Zt:=
  match zq e now with
  | (some s,e1)=>(some s,e1)
  | (none,e1)=>match zl e1 now with
    | (some s,e2)=>(some s,e2)
    | (none,e2)=>z7 e2
def z8 (e:Zt) (now:Int):Option Seg×Zt:=
  match e.owed_reset with
  | some s=>(some s,{ e with owed_reset:=none })
  | none=>
    let e1:=if e.state=.timeWait∧120000≤now-e.since then { e with state:=.closed } else e
    if e1.state=.closed∨e1.state=.listen then (none,e1)
    else if ¬e1.nxt=e1.una∧Zdt e1 now=true then again e1 now
    else ZbX e1 now
section
variable {θ:Sto} {l:Nat} {e:Zt} {now n k:Int}
@[simp] theorem ZsQ {r:Int} (h:l+3 < θ.length):Zb9 [.ref l,.int r] (upE θ l e)=.ok (Zfy e r).1.d (upE θ l (Zfy e r).2):=by
  have em:(if Zb7 e<zK e then (if r<Zb7 e then r else Zb7 e) else (if r<zK e then r else zK e))=ZgU e r:=rfl
  by_cases c:Zb7 { e with nxt:=Zy e.nxt (ZgU e r) }=0
  · simp [Zb9,ZdW,h,em]
    simp [Zfy,c,ZcB,ZS,h]
  · simp [Zb9,ZdW,h,em]
    simp [Zfy,c,ZcB,ZS,h]
@[simp] theorem Zuf (h:l+3 < θ.length):Zdp [.ref l] (upE θ l e)=.ok (ZiQ e).1.d (upE θ l (ZiQ e).2):=by
  simp [Zdp,Zgx,h,ZiQ,ZcB,ZS,Zbl]
@[simp] theorem Zsd {r:Int} (h:l+3 < θ.length):ZaQ [.ref l,.int r] (upE θ l e)=.ok (ZaH e r).1.d (upE θ l (ZaH e r).2):=by
  have hp:zL { e with probes:=false }=zL e:=rfl
  by_cases c:zL e=true
  · simp [ZaQ,Zdi,h,ZaH,c,hp]
  · simp [ZaQ,Zdi,h,ZaH,c,hp]
@[simp] theorem Zue (h:l+3 < θ.length):ZcL [.ref l,.int now] (upE θ l e)=.ok (Zfb e now).1.d (upE θ l (Zfb e now).2):=by
  by_cases c:e.nxt=e.una
  · simp [ZcL,ZeA,Zdh,h,Zfb,c,startTimer]
  · simp [ZcL,ZeA,Zdh,h,Zfb,c]
theorem ZcP (h:l+3 < θ.length):Z4 [.ref l,.int now] (upE θ l e)=.ok (Zbk (zq e now).1) (upE θ l (zq e now).2):=by
  by_cases c1:e.state=.synSent∨e.state=.synCome
  · by_cases c2:e.nxt=e.first∨e.owes_syn=true
    · simp [Z4,zM,zt,h,zq,c1,c2,Zbk]
    · simp [Z4,zM,zt,h,zq,c1,c2,Zbk]
  · by_cases c3:e.wnd-ZW e.nxt e.una≤0
    · simp [Z4,zM,zt,Zah,h,zq,c1,c3,Zbk]
    · by_cases c4:Zbh e=true
      · by_cases c5:e.nxt=e.una
        · have c3':=c3
          rw [c5] at c3'
          simp [Z4,zM,zt,Zah,ZbD,h,zq,c1,c3',c4,c5,Zbk,startTimer]
        · simp [Z4,zM,zt,Zah,ZbD,h,zq,c1,c3,c4,c5,Zbk]
      · simp [Z4,zM,zt,Zah,h,zq,c1,c3,c4,Zbk]
theorem Zdk (h:l+3 < θ.length):Z7 [.ref l,.int now] (upE θ l e)=.ok (Zbk (zl e now).1) (upE θ l (zl e now).2):=by
  by_cases c1:e.nxt=e.una
  · by_cases c2:e.wnd=0
    · by_cases c3:Zbh e=true
      · by_cases c4:e.probes=true
        · by_cases c5:Zdt e now=true
          · simp [Z7,zr,zc,Zav,Zau,h,zl,c1,c2,c3,c4,c5,Zbk]
          · simp [Z7,zr,zc,Zav,Zau,h,zl,c1,c2,c3,c4,c5,Zbk]
        · have c5:Zdt (startTimer { e with probes:=true } now) now=false:=by simp [Zdt,startTimer]
          simp [Z7,zr,zc,Zav,Zau,h,zl,c1,c2,c3,c4,Zbk] at c5 ⊢
          simp [c5,Zdt,startTimer]
      · simp [Z7,zr,zc,h,zl,c1,c2,c3,Zbk]
    · simp [Z7,zr,zc,h,zl,c1,c2,Zbk]
  · simp [Z7,zr,zc,h,zl,c1,Zbk]
theorem Zfm (h:l+3 < θ.length):zV [.ref l] (upE θ l e)=.ok (Zbk (z7 e).1) (upE θ l (z7 e).2):=by
  by_cases c:e.owes_answer=true
  · simp [zV,Zbo,Za0,h,z7,c,Zbk,Zbl,ZcB,ZS]
  · simp [zV,Zbo,Za0,h,z7,c,Zbk]
@[simp] theorem Zuj:Zbk none=.non:=rfl
@[simp] theorem Zui (s:Seg):Zbk (some s)=s.d:=rfl
@[simp] theorem Zwd (s:Seg):Zcr s.d=false:=rfl
@[simp] theorem Zuo:Zcr .non=true:=nr rfl
@[simp] theorem Zsn (h:l+3 < θ.length) (e:Zt):za ["End"] "owed_reset" .non (.ref l) (upE θ l e)=some (upE θ l { e with owed_reset:=none }):=Zfn h e none
@[simp] theorem Zsm (h:l+3 < θ.length) (e:Zt) (s:Seg):za ["End"] "owed_reset" s.d (.ref l) (upE θ l e)=some (upE θ l { e with owed_reset:=some s }):=Zfn h e (some s)
theorem Zh5 (h:l+3 < θ.length) (x:Sl):Zha (Z9 2 (mCB Z4 (Zc (Zd 0) (Zc (Zd 1) Zk))) [.val (.ref l),.val (.int now),x] (upE θ l e)) (Zr ZbJ (Zr ZbI (ZJ (Zd 2)))) =
    .ok (.rt (Zbk (ZbX e now).1),[.val (.ref l),.val (.int now),.val (Zbk (ZbX e now).1)]) (upE θ l (ZbX e now).2):=by
  unfold ZbX
  cases c1:zq e now with
  | mk r1 e1=>
    cases r1 with
    | some s=>simp [h,ZcP,c1,ZbJ,ZbI]
    | none=>
      cases c2:zl e1 now with
      | mk r2 e2=>
        cases r2 with
        | some s=>simp [h,ZcP,c1,ZbJ,ZbI,Zdk,c2]
        | none=>simp [h,ZcP,c1,ZbJ,ZbI,Zdk,c2,Zfm]
theorem ZlX (h:l+3 < θ.length):ZdK [.ref l,.int now] (upE θ l e)=.ok (Zbk (z8 e now).1) (upE θ l (z8 e now).2):=by
  cases c0:e.owed_reset with
  | some s=>simp [ZdK,ZeV,Zda,h,z8,c0,ZcF,Zey]
  | none=>
    have key:∀e1:Zt,(Zha (ZbK [.val (.ref l),.val (.int now),.no] (upE θ l e1)) (Zr Zcs (Zr (Z9 2 (mCB Z4 (Zc (Zd 0) (Zc (Zd 1) Zk)))) (Zr ZbJ (Zr ZbI (ZJ (Zd 2))))))).bind (fun p θ=>match p.1 with | .nx=>.ok .non θ | .rt d=>.ok d θ | _=>.bad) =
        .ok (Zbk (if e1.state=.closed∨e1.state=.listen then (none,e1) else if ¬e1.nxt=e1.una∧Zdt e1 now=true then again e1 now else ZbX e1 now).1) (upE θ l (if e1.state=.closed∨e1.state=.listen then (none,e1) else if ¬e1.nxt=e1.una∧Zdt e1 now=true then again e1 now else ZbX e1 now).2):=fun e1=>by
      by_cases c1:e1.state=.closed∨e1.state=.listen
      · simp [ZbK,h,c1]
      · by_cases c2:e1.nxt=e1.una
        · have g:=Zh5 (e:=e1) (now:=now) h .no
          simp at g
          simp [ZbK,Zcs,h,c1,c2]
          rw [g]
          simp
        · by_cases c3:Zdt e1 now=true
          · simp [ZbK,Zcs,h,c1,c2,c3,ZqX]
          · have g:=Zh5 (e:=e1) (now:=now) h .no
            simp at g
            simp [ZbK,Zcs,h,c1,c2,c3]
            rw [g]
            simp
    by_cases c1:e.state=.timeWait∧120000≤now-e.since
    · have:=key { e with state:=.closed }
      simp [ZdK,ZeV,Zda,ZeE,h,z8,c0,c1] at this ⊢
      exact this
    · have:=key e
      simp [ZdK,ZeV,Zda,ZeE,h,z8,c0,c1] at this ⊢
      exact this
def ZiJ (e:Zt) (now:Int):List Int:=match (z8 e now).1 with
  | none=>[]
  | some s=>putL s
theorem ZsO (h:l+3 < θ.length) (hp:∀s,(z8 e now).1=some s→s.Put):ZbR [.ref l,.int now] (upE θ l e)=.ok (il (ZiJ e now)) (upE θ l (z8 e now).2):=by
  unfold ZiJ
  cases c:(z8 e now).1 with
  | none=>simp [ZbR,ZhD,ZlX,h,c,Zbl]
  | some s=>simp [ZbR,ZhD,ZlX,h,c,ZuJ (hp s c)]
def newEnd (ours theirs first:Int) (active:Bool):Zt:=⟨ours,theirs,if active then .synSent else .listen,.none,first,first,first,0,0,0,0,12,[],[],[],none,false,Zy first 1,none,false,false,false,0,1000,0⟩
def cells (l:Nat) (e:Zt):Sto:=[c0 l e,c1 e,c2 e,c3 e]
theorem Znd (θ r:Sto) (C:Str) (fs:List (Str×D)):Zes (θ++.ins C fs::r) (.ref θ.length)=some (θ.length,C,fs):=by
  show (match (θ++.ins C fs::r)[θ.length]? with | some (Cell.ins C fs)=>some (θ.length,C,fs) | _=>none)=_
  rw [List.getElem?_append_right (Nat.le_refl _),Nat.sub_self]
  rfl
theorem Zid {f:Str} {y:D}:∀{fs:List (Str×D)},(fs.map Prod.fst).contains f=false→ZaD f y fs=fs++[(f,y)]
  | [],_=>rfl
  | (g,x)::r,h=>by
    rw [List.map_cons,List.contains_cons,Bool.or_eq_false_iff] at h
    have hn:¬g=f:=fun e=>by rw [e,beq_self_eq_true] at h; cases h.1
    unfold ZaD
    rw [if_neg hn,Zid h.2]
    rfl
theorem Z0 {C f:Str} {y:D} (θ r:Sto) {fs:List (Str×D)} (h0:[C].contains C=true) (h1:(fs.map Prod.fst).contains f=false) (h2:fs.length<1000):za [C] f y (.ref θ.length) (θ++.ins C fs::r)=some (θ++.ins C (fs++[(f,y)])::r):=by
  unfold za
  rw [Znd]
  simp only [h0]
  rw [if_pos ⟨trivial,h2⟩,Zid h1]
  congr 1
  rw [List.set_append,if_neg (Nat.lt_irrefl _),Nat.sub_self]
  rfl
theorem Zmp (S:Sto):mkG "Pile" ZbG [] S=.ok (.ref S.length) (S++[.ins "Pile" [("row",il [])]]):=by
  have:=Z0 (C:="Pile") (f:="row") (y:=il []) S [] (fs:=[]) (by decide +kernel) rfl (by decide)
  simp [mkG,ZbG,Ze4,Zbl,this]
theorem Zpy (θ r:Sto) (y:D):za ["End"] "ours" y (.ref θ.length) (θ++.ins "End" []::r)=some (θ++.ins "End" [("ours",y)]::r):=Z0 θ r ce (by simp only [List.map_cons,List.map_nil]; decide +kernel) (by simp only [List.length_cons,List.length_nil]; decide)
theorem ZkM (θ r:Sto) (x0 y:D):za ["End"] "theirs" y (.ref θ.length) (θ++.ins "End" [("ours",x0)]::r)=some (θ++.ins "End" [("ours",x0),("theirs",y)]::r):=Z0 θ r ce (by simp only [List.map_cons,List.map_nil]; decide +kernel) (by simp only [List.length_cons,List.length_nil]; decide)
theorem Zmh (θ r:Sto) (x0 x1 y:D):za ["End"] "state" y (.ref θ.length) (θ++.ins "End" [("ours",x0),("theirs",x1)]::r)=some (θ++.ins "End" [("ours",x0),("theirs",x1),("state",y)]::r):=Z0 θ r ce (by simp only [List.map_cons,List.map_nil]; decide +kernel) (by simp only [List.length_cons,List.length_nil]; decide)
theorem Zml (θ r:Sto) (x0 x1 x2 y:D):za ["End"] "error" y (.ref θ.length) (θ++.ins "End" [("ours",x0),("theirs",x1),("state",x2)]::r)=some (θ++.ins "End" [("ours",x0),("theirs",x1),("state",x2),("error",y)]::r):=Z0 θ r ce (by simp only [List.map_cons,List.map_nil]; decide +kernel) (by simp only [List.length_cons,List.length_nil]; decide)
theorem Zmk (θ r:Sto) (x0 x1 x2 x3 y:D):za ["End"] "first" y (.ref θ.length) (θ++.ins "End" [("ours",x0),("theirs",x1),("state",x2),("error",x3)]::r)=some (θ++.ins "End" [("ours",x0),("theirs",x1),("state",x2),("error",x3),("first",y)]::r):=Z0 θ r ce (by simp only [List.map_cons,List.map_nil]; decide +kernel) (by simp only [List.length_cons,List.length_nil]; decide)
theorem Zss (θ r:Sto) (x0 x1 x2 x3 x4 y:D):za ["End"] "una" y (.ref θ.length) (θ++.ins "End" [("ours",x0),("theirs",x1),("state",x2),("error",x3),("first",x4)]::r)=some (θ++.ins "End" [("ours",x0),("theirs",x1),("state",x2),("error",x3),("first",x4),("una",y)]::r):=Z0 θ r ce (by simp only [List.map_cons,List.map_nil]; decide +kernel) (by simp only [List.length_cons,List.length_nil]; decide)
theorem Zsu (θ r:Sto) (x0 x1 x2 x3 x4 x5 y:D):za ["End"] "nxt" y (.ref θ.length) (θ++.ins "End" [("ours",x0),("theirs",x1),("state",x2),("error",x3),("first",x4),("una",x5)]::r)=some (θ++.ins "End" [("ours",x0),("theirs",x1),("state",x2),("error",x3),("first",x4),("una",x5),("nxt",y)]::r):=Z0 θ r ce (by simp only [List.map_cons,List.map_nil]; decide +kernel) (by simp only [List.length_cons,List.length_nil]; decide)
theorem Zst (θ r:Sto) (x0 x1 x2 x3 x4 x5 x6 y:D):za ["End"] "rcv" y (.ref θ.length) (θ++.ins "End" [("ours",x0),("theirs",x1),("state",x2),("error",x3),("first",x4),("una",x5),("nxt",x6)]::r)=some (θ++.ins "End" [("ours",x0),("theirs",x1),("state",x2),("error",x3),("first",x4),("una",x5),("nxt",x6),("rcv",y)]::r):=Z0 θ r ce (by simp only [List.map_cons,List.map_nil]; decide +kernel) (by simp only [List.length_cons,List.length_nil]; decide)
theorem Zsr (θ r:Sto) (x0 x1 x2 x3 x4 x5 x6 x7 y:D):za ["End"] "wnd" y (.ref θ.length) (θ++.ins "End" [("ours",x0),("theirs",x1),("state",x2),("error",x3),("first",x4),("una",x5),("nxt",x6),("rcv",x7)]::r)=some (θ++.ins "End" [("ours",x0),("theirs",x1),("state",x2),("error",x3),("first",x4),("una",x5),("nxt",x6),("rcv",x7),("wnd",y)]::r):=Z0 θ r ce (by simp only [List.map_cons,List.map_nil]; decide +kernel) (by simp only [List.length_cons,List.length_nil]; decide)
theorem Zpx (θ r:Sto) (x0 x1 x2 x3 x4 x5 x6 x7 x8 y:D):za ["End"] "told" y (.ref θ.length) (θ++.ins "End" [("ours",x0),("theirs",x1),("state",x2),("error",x3),("first",x4),("una",x5),("nxt",x6),("rcv",x7),("wnd",x8)]::r)=some (θ++.ins "End" [("ours",x0),("theirs",x1),("state",x2),("error",x3),("first",x4),("una",x5),("nxt",x6),("rcv",x7),("wnd",x8),("told",y)]::r):=Z0 θ r ce (by simp only [List.map_cons,List.map_nil]; decide +kernel) (by simp only [List.length_cons,List.length_nil]; decide)
theorem Zih (θ r:Sto) (x0 x1 x2 x3 x4 x5 x6 x7 x8 x9 y:D):za ["End"] "told_by" y (.ref θ.length) (θ++.ins "End" [("ours",x0),("theirs",x1),("state",x2),("error",x3),("first",x4),("una",x5),("nxt",x6),("rcv",x7),("wnd",x8),("told",x9)]::r)=some (θ++.ins "End" [("ours",x0),("theirs",x1),("state",x2),("error",x3),("first",x4),("una",x5),("nxt",x6),("rcv",x7),("wnd",x8),("told",x9),("told_by",y)]::r):=Z0 θ r ce (by simp only [List.map_cons,List.map_nil]; decide +kernel) (by simp only [List.length_cons,List.length_nil]; decide)
theorem Zpz (θ r:Sto) (x0 x1 x2 x3 x4 x5 x6 x7 x8 x9 x10 y:D):za ["End"] "most" y (.ref θ.length) (θ++.ins "End" [("ours",x0),("theirs",x1),("state",x2),("error",x3),("first",x4),("una",x5),("nxt",x6),("rcv",x7),("wnd",x8),("told",x9),("told_by",x10)]::r)=some (θ++.ins "End" [("ours",x0),("theirs",x1),("state",x2),("error",x3),("first",x4),("una",x5),("nxt",x6),("rcv",x7),("wnd",x8),("told",x9),("told_by",x10),("most",y)]::r):=Z0 θ r ce (by simp only [List.map_cons,List.map_nil]; decide +kernel) (by simp only [List.length_cons,List.length_nil]; decide)
theorem Zig (θ r:Sto) (x0 x1 x2 x3 x4 x5 x6 x7 x8 x9 x10 x11 y:D):za ["End"] "written" y (.ref θ.length) (θ++.ins "End" [("ours",x0),("theirs",x1),("state",x2),("error",x3),("first",x4),("una",x5),("nxt",x6),("rcv",x7),("wnd",x8),("told",x9),("told_by",x10),("most",x11)]::r)=some (θ++.ins "End" [("ours",x0),("theirs",x1),("state",x2),("error",x3),("first",x4),("una",x5),("nxt",x6),("rcv",x7),("wnd",x8),("told",x9),("told_by",x10),("most",x11),("written",y)]::r):=Z0 θ r ce (by simp only [List.map_cons,List.map_nil]; decide +kernel) (by simp only [List.length_cons,List.length_nil]; decide)
theorem ZpB (θ r:Sto) (x0 x1 x2 x3 x4 x5 x6 x7 x8 x9 x10 x11 x12 y:D):za ["End"] "come" y (.ref θ.length) (θ++.ins "End" [("ours",x0),("theirs",x1),("state",x2),("error",x3),("first",x4),("una",x5),("nxt",x6),("rcv",x7),("wnd",x8),("told",x9),("told_by",x10),("most",x11),("written",x12)]::r)=some (θ++.ins "End" [("ours",x0),("theirs",x1),("state",x2),("error",x3),("first",x4),("una",x5),("nxt",x6),("rcv",x7),("wnd",x8),("told",x9),("told_by",x10),("most",x11),("written",x12),("come",y)]::r):=Z0 θ r ce (by simp only [List.map_cons,List.map_nil]; decide +kernel) (by simp only [List.length_cons,List.length_nil]; decide)
theorem Zmm (θ r:Sto) (x0 x1 x2 x3 x4 x5 x6 x7 x8 x9 x10 x11 x12 x13 y:D):za ["End"] "early" y (.ref θ.length) (θ++.ins "End" [("ours",x0),("theirs",x1),("state",x2),("error",x3),("first",x4),("una",x5),("nxt",x6),("rcv",x7),("wnd",x8),("told",x9),("told_by",x10),("most",x11),("written",x12),("come",x13)]::r)=some (θ++.ins "End" [("ours",x0),("theirs",x1),("state",x2),("error",x3),("first",x4),("una",x5),("nxt",x6),("rcv",x7),("wnd",x8),("told",x9),("told_by",x10),("most",x11),("written",x12),("come",x13),("early",y)]::r):=Z0 θ r ce (by simp only [List.map_cons,List.map_nil]; decide +kernel) (by simp only [List.length_cons,List.length_nil]; decide)
theorem Zgo (θ r:Sto) (x0 x1 x2 x3 x4 x5 x6 x7 x8 x9 x10 x11 x12 x13 x14 y:D):za ["End"] "early_fin" y (.ref θ.length) (θ++.ins "End" [("ours",x0),("theirs",x1),("state",x2),("error",x3),("first",x4),("una",x5),("nxt",x6),("rcv",x7),("wnd",x8),("told",x9),("told_by",x10),("most",x11),("written",x12),("come",x13),("early",x14)]::r)=some (θ++.ins "End" [("ours",x0),("theirs",x1),("state",x2),("error",x3),("first",x4),("una",x5),("nxt",x6),("rcv",x7),("wnd",x8),("told",x9),("told_by",x10),("most",x11),("written",x12),("come",x13),("early",x14),("early_fin",y)]::r):=Z0 θ r ce (by simp only [List.map_cons,List.map_nil]; decide +kernel) (by simp only [List.length_cons,List.length_nil]; decide)
theorem Zfw (θ r:Sto) (x0 x1 x2 x3 x4 x5 x6 x7 x8 x9 x10 x11 x12 x13 x14 x15 y:D):za ["End"] "has_closed" y (.ref θ.length) (θ++.ins "End" [("ours",x0),("theirs",x1),("state",x2),("error",x3),("first",x4),("una",x5),("nxt",x6),("rcv",x7),("wnd",x8),("told",x9),("told_by",x10),("most",x11),("written",x12),("come",x13),("early",x14),("early_fin",x15)]::r)=some (θ++.ins "End" [("ours",x0),("theirs",x1),("state",x2),("error",x3),("first",x4),("una",x5),("nxt",x6),("rcv",x7),("wnd",x8),("told",x9),("told_by",x10),("most",x11),("written",x12),("come",x13),("early",x14),("early_fin",x15),("has_closed",y)]::r):=Z0 θ r ce (by simp only [List.map_cons,List.map_nil]; decide +kernel) (by simp only [List.length_cons,List.length_nil]; decide)
theorem ZkP (θ r:Sto) (x0 x1 x2 x3 x4 x5 x6 x7 x8 x9 x10 x11 x12 x13 x14 x15 x16 y:D):za ["End"] "behind" y (.ref θ.length) (θ++.ins "End" [("ours",x0),("theirs",x1),("state",x2),("error",x3),("first",x4),("una",x5),("nxt",x6),("rcv",x7),("wnd",x8),("told",x9),("told_by",x10),("most",x11),("written",x12),("come",x13),("early",x14),("early_fin",x15),("has_closed",x16)]::r)=some (θ++.ins "End" [("ours",x0),("theirs",x1),("state",x2),("error",x3),("first",x4),("una",x5),("nxt",x6),("rcv",x7),("wnd",x8),("told",x9),("told_by",x10),("most",x11),("written",x12),("come",x13),("early",x14),("early_fin",x15),("has_closed",x16),("behind",y)]::r):=Z0 θ r ce (by simp only [List.map_cons,List.map_nil]; decide +kernel) (by simp only [List.length_cons,List.length_nil]; decide)
theorem Zfv (θ r:Sto) (x0 x1 x2 x3 x4 x5 x6 x7 x8 x9 x10 x11 x12 x13 x14 x15 x16 x17 y:D):za ["End"] "owed_reset" y (.ref θ.length) (θ++.ins "End" [("ours",x0),("theirs",x1),("state",x2),("error",x3),("first",x4),("una",x5),("nxt",x6),("rcv",x7),("wnd",x8),("told",x9),("told_by",x10),("most",x11),("written",x12),("come",x13),("early",x14),("early_fin",x15),("has_closed",x16),("behind",x17)]::r)=some (θ++.ins "End" [("ours",x0),("theirs",x1),("state",x2),("error",x3),("first",x4),("una",x5),("nxt",x6),("rcv",x7),("wnd",x8),("told",x9),("told_by",x10),("most",x11),("written",x12),("come",x13),("early",x14),("early_fin",x15),("has_closed",x16),("behind",x17),("owed_reset",y)]::r):=Z0 θ r ce (by simp only [List.map_cons,List.map_nil]; decide +kernel) (by simp only [List.length_cons,List.length_nil]; decide)
theorem Zhi (θ r:Sto) (x0 x1 x2 x3 x4 x5 x6 x7 x8 x9 x10 x11 x12 x13 x14 x15 x16 x17 x18 y:D):za ["End"] "owes_syn" y (.ref θ.length) (θ++.ins "End" [("ours",x0),("theirs",x1),("state",x2),("error",x3),("first",x4),("una",x5),("nxt",x6),("rcv",x7),("wnd",x8),("told",x9),("told_by",x10),("most",x11),("written",x12),("come",x13),("early",x14),("early_fin",x15),("has_closed",x16),("behind",x17),("owed_reset",x18)]::r)=some (θ++.ins "End" [("ours",x0),("theirs",x1),("state",x2),("error",x3),("first",x4),("una",x5),("nxt",x6),("rcv",x7),("wnd",x8),("told",x9),("told_by",x10),("most",x11),("written",x12),("come",x13),("early",x14),("early_fin",x15),("has_closed",x16),("behind",x17),("owed_reset",x18),("owes_syn",y)]::r):=Z0 θ r ce (by simp only [List.map_cons,List.map_nil]; decide +kernel) (by simp only [List.length_cons,List.length_nil]; decide)
theorem ZeZ (θ r:Sto) (x0 x1 x2 x3 x4 x5 x6 x7 x8 x9 x10 x11 x12 x13 x14 x15 x16 x17 x18 x19 y:D):za ["End"] "owes_answer" y (.ref θ.length) (θ++.ins "End" [("ours",x0),("theirs",x1),("state",x2),("error",x3),("first",x4),("una",x5),("nxt",x6),("rcv",x7),("wnd",x8),("told",x9),("told_by",x10),("most",x11),("written",x12),("come",x13),("early",x14),("early_fin",x15),("has_closed",x16),("behind",x17),("owed_reset",x18),("owes_syn",x19)]::r)=some (θ++.ins "End" [("ours",x0),("theirs",x1),("state",x2),("error",x3),("first",x4),("una",x5),("nxt",x6),("rcv",x7),("wnd",x8),("told",x9),("told_by",x10),("most",x11),("written",x12),("come",x13),("early",x14),("early_fin",x15),("has_closed",x16),("behind",x17),("owed_reset",x18),("owes_syn",x19),("owes_answer",y)]::r):=Z0 θ r ce (by simp only [List.map_cons,List.map_nil]; decide +kernel) (by simp only [List.length_cons,List.length_nil]; decide)
theorem ZkN (θ r:Sto) (x0 x1 x2 x3 x4 x5 x6 x7 x8 x9 x10 x11 x12 x13 x14 x15 x16 x17 x18 x19 x20 y:D):za ["End"] "probes" y (.ref θ.length) (θ++.ins "End" [("ours",x0),("theirs",x1),("state",x2),("error",x3),("first",x4),("una",x5),("nxt",x6),("rcv",x7),("wnd",x8),("told",x9),("told_by",x10),("most",x11),("written",x12),("come",x13),("early",x14),("early_fin",x15),("has_closed",x16),("behind",x17),("owed_reset",x18),("owes_syn",x19),("owes_answer",x20)]::r)=some (θ++.ins "End" [("ours",x0),("theirs",x1),("state",x2),("error",x3),("first",x4),("una",x5),("nxt",x6),("rcv",x7),("wnd",x8),("told",x9),("told_by",x10),("most",x11),("written",x12),("come",x13),("early",x14),("early_fin",x15),("has_closed",x16),("behind",x17),("owed_reset",x18),("owes_syn",x19),("owes_answer",x20),("probes",y)]::r):=Z0 θ r ce (by simp only [List.map_cons,List.map_nil]; decide +kernel) (by simp only [List.length_cons,List.length_nil]; decide)
theorem Zmi (θ r:Sto) (x0 x1 x2 x3 x4 x5 x6 x7 x8 x9 x10 x11 x12 x13 x14 x15 x16 x17 x18 x19 x20 x21 y:D):za ["End"] "since" y (.ref θ.length) (θ++.ins "End" [("ours",x0),("theirs",x1),("state",x2),("error",x3),("first",x4),("una",x5),("nxt",x6),("rcv",x7),("wnd",x8),("told",x9),("told_by",x10),("most",x11),("written",x12),("come",x13),("early",x14),("early_fin",x15),("has_closed",x16),("behind",x17),("owed_reset",x18),("owes_syn",x19),("owes_answer",x20),("probes",x21)]::r)=some (θ++.ins "End" [("ours",x0),("theirs",x1),("state",x2),("error",x3),("first",x4),("una",x5),("nxt",x6),("rcv",x7),("wnd",x8),("told",x9),("told_by",x10),("most",x11),("written",x12),("come",x13),("early",x14),("early_fin",x15),("has_closed",x16),("behind",x17),("owed_reset",x18),("owes_syn",x19),("owes_answer",x20),("probes",x21),("since",y)]::r):=Z0 θ r ce (by simp only [List.map_cons,List.map_nil]; decide +kernel) (by simp only [List.length_cons,List.length_nil]; decide)
theorem Zpw (θ r:Sto) (x0 x1 x2 x3 x4 x5 x6 x7 x8 x9 x10 x11 x12 x13 x14 x15 x16 x17 x18 x19 x20 x21 x22 y:D):za ["End"] "wait" y (.ref θ.length) (θ++.ins "End" [("ours",x0),("theirs",x1),("state",x2),("error",x3),("first",x4),("una",x5),("nxt",x6),("rcv",x7),("wnd",x8),("told",x9),("told_by",x10),("most",x11),("written",x12),("come",x13),("early",x14),("early_fin",x15),("has_closed",x16),("behind",x17),("owed_reset",x18),("owes_syn",x19),("owes_answer",x20),("probes",x21),("since",x22)]::r)=some (θ++.ins "End" [("ours",x0),("theirs",x1),("state",x2),("error",x3),("first",x4),("una",x5),("nxt",x6),("rcv",x7),("wnd",x8),("told",x9),("told_by",x10),("most",x11),("written",x12),("come",x13),("early",x14),("early_fin",x15),("has_closed",x16),("behind",x17),("owed_reset",x18),("owes_syn",x19),("owes_answer",x20),("probes",x21),("since",x22),("wait",y)]::r):=Z0 θ r ce (by simp only [List.map_cons,List.map_nil]; decide +kernel) (by simp only [List.length_cons,List.length_nil]; decide)
theorem Zmg (θ r:Sto) (x0 x1 x2 x3 x4 x5 x6 x7 x8 x9 x10 x11 x12 x13 x14 x15 x16 x17 x18 x19 x20 x21 x22 x23 y:D):za ["End"] "tries" y (.ref θ.length) (θ++.ins "End" [("ours",x0),("theirs",x1),("state",x2),("error",x3),("first",x4),("una",x5),("nxt",x6),("rcv",x7),("wnd",x8),("told",x9),("told_by",x10),("most",x11),("written",x12),("come",x13),("early",x14),("early_fin",x15),("has_closed",x16),("behind",x17),("owed_reset",x18),("owes_syn",x19),("owes_answer",x20),("probes",x21),("since",x22),("wait",x23)]::r)=some (θ++.ins "End" [("ours",x0),("theirs",x1),("state",x2),("error",x3),("first",x4),("una",x5),("nxt",x6),("rcv",x7),("wnd",x8),("told",x9),("told_by",x10),("most",x11),("written",x12),("come",x13),("early",x14),("early_fin",x15),("has_closed",x16),("behind",x17),("owed_reset",x18),("owes_syn",x19),("owes_answer",x20),("probes",x21),("since",x22),("wait",x23),("tries",y)]::r):=Z0 θ r ce (by simp only [List.map_cons,List.map_nil]; decide +kernel) (by simp only [List.length_cons,List.length_nil]; decide)
theorem ZsU {a b c:Int} {act:Bool} (θ:Sto):Zcc [.ref θ.length,.int a,.int b,.int c,.bl act] (θ++[.ins "End" []])=.ok .non (θ++cells θ.length (newEnd a b c act)):=by
  cases act with
  | true=>
    simp [Zcc,Zd0,Zmp,Zpy,ZkM,Zmh,Zml,Zmk,Zss,Zsu,Zst,Zsr,Zpx,Zih,Zpz,Zig,ZpB,Zmm,Zgo,Zfw,ZkP,Zfv,Zhi,ZeZ,ZkN,Zmi,Zpw,Zmg]
    rfl
  | false=>
    simp [Zcc,Zd0,Zmp,Zpy,ZkM,Zmh,Zml,Zmk,Zss,Zsu,Zst,Zsr,Zpx,Zih,Zpz,Zig,ZpB,Zmm,Zgo,Zfw,ZkP,Zfv,Zhi,ZeZ,ZkN,Zmi,Zpw,Zmg]
    rfl
theorem ZoW {a b c:Int} {act:Bool} (θ:Sto):Zek [.int a,.int b,.int c,.bl act] θ=.ok (.ref θ.length) (θ++cells θ.length (newEnd a b c act)):=by
  simp [Zek,ZhE,mkG,ZsU]
theorem Zql (e:Zt):cells 0 e=upE (cells 0 e) 0 e:=by
  simp [cells,upE]
end
end
end My
namespace L2
open PySem PySem.Spec PyProof.Rows
open AutoSeq1 (wpAny_loadPart')
theorem ZrM (tp:Addr) (its:Array Value) (k:Nat) (dct:Option Addr) (sl:Array (Option Value)) :
    Meets (Builtin.«enumerate.__new__» ⟨[.type "enumerate",.ref tp],[]⟩) (fun _ R s=>s.heap.get? tp=some { cls:=.type "tuple",dict:=dct,data:=.seq its k,slots:=sl }∧
      R (.ok (.ret (.ref (s.heap.push { cls:=.type "tuple_iterator",data:=.fields #[.ref tp,.int 0 0] }).objs.size)))
        { s with heap:=(s.heap.push { cls:=.type "tuple_iterator",data:=.fields #[.ref tp,.int 0 0] }).push { cls:=.type "enumerate",data:=.fields #[.none,.bool false,.ref s.heap.objs.size,rawInt 0,.none,.none] } }):=by
  refine .of_wp fun prog w A R s h=>?_
  obtain ⟨hp,g,d,tk,os⟩:=s
  obtain ⟨ht,h⟩:=h
  have hsub:=sub_enumerate
  have hT:Heap.IsTuple (Shared.heap ⟨hp,g,d,tk,os⟩) tp its:=⟨_,ht,rfl,k,rfl⟩
  wp_walk using wpAny_loadPart' ht
  refine wpAny_stack_any fun st=>?_
  refine wpAny_pure ?_
  split
  · rename_i c _ _ _ _ _
    cases (c == Value.type "enumerate")<;>(wp_walk using wpAny_loadPart' ht,wpAny_pyIter_tuple hT; exact ⟨_,rfl,h⟩)
  · wp_walk using wpAny_loadPart' ht,wpAny_pyIter_tuple hT; exact ⟨_,rfl,h⟩
section
variable {prog:Program} {w:World} {A:Around} {E:Value→Shared→Prop} {s:Shared}
theorem Zqn {tp:Addr} {its:Array Value} {Q:Value→Shared→Prop} (hT:s.heap.IsTuple tp its)
    (h:∀h',IsEnum h' (s.heap.objs.size+1) s.heap.objs.size 0 .none→h'.IsTupleIter s.heap.objs.size tp 0→h'.objs.size=s.heap.objs.size+2→(∀b o,s.heap.get? b=some o→h'.get? b=some o)→Q (.ref (s.heap.objs.size+1)) { s with heap:=h' }) :
    wpAny (model prog w) A (call (.type "enumerate") [.ref tp]) Q E s:=by
  obtain ⟨⟨c,dct,dt,sl⟩,ht,hc,k,hd⟩:=hT
  cases (show c=.type "tuple" from hc)
  cases (show dt=.seq its k from hd)
  refine callType_new F.called_enumerate (by decide) (F.typeCall_enumerate_1 _) (F.newCall_enumerate_1 _) (fun obj=>F.args_object_init_2 obj _) F.entry_enumerate_new (ZrM tp its k dct sl) ⟨ht,?_⟩
  have hz:(s.heap.push { cls:=.type "tuple_iterator",data:=.fields #[.ref tp,.int 0 0] }).objs.size=s.heap.objs.size+1:=Heap.size_push ..
  show _∧_
  rw [hz]
  have he:IsEnum ((s.heap.push { cls:=.type "tuple_iterator",data:=.fields #[.ref tp,.int 0 0] }).push { cls:=.type "enumerate",data:=.fields #[.none,.bool false,.ref s.heap.objs.size,rawInt 0,.none,.none] }) (s.heap.objs.size+1) s.heap.objs.size 0 .none:=by
    have q:=Heap.get?_push_size (s.heap.push { cls:=.type "tuple_iterator",data:=.fields #[.ref tp,.int 0 0] }) (o:={ cls:=.type "enumerate",data:=.fields #[.none,.bool false,.ref s.heap.objs.size,rawInt 0,.none,.none] }) rfl
    rw [hz] at q
    exact q
  exact ⟨⟨_,he,rfl⟩,h _ he ⟨_,Heap.get?_push_of_some _ (Heap.get?_push_size _ rfl),rfl,rfl⟩ (by rw [Heap.size_push,hz]) fun b o x=>Heap.get?_push_of_some _ (Heap.get?_push_of_some _ x)⟩
theorem ZlB {it tp:Addr} {i:Nat} {its} {x:Value} {Q:Value→Shared→Prop} (hit:s.heap.IsTupleIter it tp i) (ht:s.heap.IsTuple tp its) (hx:its[i]?=some x)
    (hQ:∀h',h'.IsTupleIter it tp (i+1)→Heap.SameBut it s.heap h'→Q x { s with heap:=h' }):wpAny (model prog w) A (Builtin.SmallTypes.nextOf (.ref it)) Q E s:=by
  obtain ⟨o,ho,hc,hd⟩:=id hit
  obtain ⟨ol,hol,_,nl,hdl⟩:=ht
  unfold Builtin.SmallTypes.nextOf
  refine wpAny_bind (wpAny_callSpecial?_slot (name:=Str.ofString "__next__") hit.typeIs F.slot_tuple_iterator_next (wpAny_call_entry F.slot_tuple_iterator_next hit.typeIs F.entry_tuple_iterator_next ?_ (F.args_tuple_iterator_next_1 _)))
  show wpAny _ _ (field (.ref it) 0 >>= _) _ _ s
  refine wpAny_bind (wpAny_field ho hd (x:=.ref tp) rfl ?_)
  rw [if_neg (show ¬((Value.ref tp == Value.none)=true) from Bool.false_ne_true)]
  refine wpAny_bind (wpAny_field ho hd (x:=.int i 0) rfl (wpAny_bind (wpAny_seqItems hol hdl ?_)))
  simp only [Int.toNat_natCast,hx]
  refine wpAny_bind (wpAny_setField ho hd (by simp) (wpAny_pure ⟨x,rfl,wpAny_pure (hQ _ ⟨_,Heap.get?_update_self _ ho (Obj.isFreed_of_fields (Obj.data_mapFields hd _)),(Obj.cls_mapFields ..).trans hc,?_⟩ (Heap.SameBut.update ..))⟩))
  rw [Obj.data_mapFields hd]
  simp [rawInt]
theorem Zm3 {it tp:Addr} {i:Nat} {its} {Q:Value→Shared→Prop} (hh:A.handled=none) (hit:s.heap.IsTupleIter it tp i) (ht:s.heap.IsTuple tp its) (hx:its[i]?=none)
    (hE:∀h' e,Heap.ExtBut it s.heap h'→(∃o,h'.get? e=some o∧o.cls=.type "StopIteration")→E (.ref e) { s with heap:=h' }):wpAny (model prog w) A (Builtin.SmallTypes.nextOf (.ref it)) Q E s:=by
  obtain ⟨o,ho,hc,hd⟩:=id hit
  obtain ⟨ol,hol,_,nl,hdl⟩:=ht
  unfold Builtin.SmallTypes.nextOf
  refine wpAny_bind (wpAny_callSpecial?_slot (name:=Str.ofString "__next__") hit.typeIs F.slot_tuple_iterator_next (wpAny_call_entry F.slot_tuple_iterator_next hit.typeIs F.entry_tuple_iterator_next ?_ (F.args_tuple_iterator_next_1 _)))
  show wpAny _ _ (field (.ref it) 0 >>= _) _ _ s
  refine wpAny_bind (wpAny_field ho hd (x:=.ref tp) rfl ?_)
  rw [if_neg (show ¬((Value.ref tp == Value.none)=true) from Bool.false_ne_true)]
  refine wpAny_bind (wpAny_field ho hd (x:=.int i 0) rfl (wpAny_bind (wpAny_seqItems hol hdl ?_)))
  simp only [Int.toNat_natCast,hx]
  refine wpAny_bind (wpAny_rule (wpAny_bind (wpAny_setField ho hd (by simp) ?_)))
  refine wpAny_bind (m:=newExc (.type "StopIteration") []) ?_
  simp only [newExc,newTuple]
  refine wpAny_bind (wpAny_newObj_type (wpAny_bind (m:=firstArgMember _ _) (wpAny_of_eq (a:=Value.none) (by first | rfl | (simp only [firstArgMember]; rfl)) (wpAny_newObj_type ?_ (by size_fits)))) (by size_fits))
  simp only [raiseNew]
  refine wpAny_bind (wpAny_handled ?_)
  rw [show A.in1.handled=none from hh]
  exact wpAny_bind (wpAny_pure (wpAny_throw (hE _ _ (((Heap.SameBut.update ..).extBut.push _).push _) ⟨_,Heap.get?_push_size _ rfl,rfl⟩)))
theorem Zp9 {e it tp:Addr} {i:Nat} {its:Array Value} {x old:Value} {Q:Value→Shared→Prop} (he:IsEnum s.heap e it i old) (hit:s.heap.IsTupleIter it tp i) (ht:s.heap.IsTuple tp its) (hx:its[i]?=some x) (hne:e≠it)
    (hQ:∀h',IsEnumOut h' e it ((i:Int)+1) x s.heap.objs.size→h'.IsTupleIter it tp (i+1)→h'.get? s.heap.objs.size=some { cls:=.type "tuple",data:=.seq #[.int i s.toks,x] }→h'.objs.size=s.heap.objs.size+1→(∀b o,b≠e→b≠it→s.heap.get? b=some o→h'.get? b=some o)→Q (.ref s.heap.objs.size) { s with heap:=h',toks:=s.toks+1 }) :
    wpAny (model prog w) A (Builtin.«enumerate.__next__» ⟨[.ref e],[]⟩) (fun fin s'=>∃v,fin=.done (.ret v)∧Q v s') E s:=by
  obtain ⟨hp,g,d,tk,os⟩:=s
  show wpAny _ _ (field (.ref e) 2 >>= _) _ _ _
  refine wpAny_bind (wpAny_field he rfl (x:=.ref it) rfl (wpAny_bind (ZlB hit ht hx fun h1 hit1 hs1=>?_)))
  replace hs1:Heap.SameBut it hp h1:=hs1
  have he1:IsEnum h1 e it i old:=(hs1.2 e hne).trans he
  refine wpAny_bind (wpAny_field (s:=⟨h1,g,d,tk,os⟩) he1 rfl (x:=rawInt i) rfl ?_)
  refine wpAny_bind (wpAny_field (s:=⟨h1,g,d,tk,os⟩) he1 rfl (x:=.none) rfl ?_)
  show wpAny _ _ (mkInt i >>= _) _ _ ⟨h1,g,d,tk,os⟩
  refine wpAny_bind (wpAny_mkInt ?_)
  show wpAny _ _ (setField (.ref e) 3 (rawInt ((i:Int)+1)) >>= _) _ _ ⟨h1,g,d,tk+1,os⟩
  refine wpAny_bind (wpAny_setField_rec he1 (by simp) fun h2 he2 hs2=>?_)
  replace hs2:Heap.SameBut e h1 h2:=hs2
  replace he2:IsEnum h2 e it ((i:Int)+1) old:=he2
  show wpAny _ _ (setField (.ref e) 4 .none >>= _) _ _ ⟨h2,g,d,tk+1,os⟩
  refine wpAny_bind (wpAny_setField_rec he2 (by simp) fun h3 he3 hs3=>?_)
  replace hs3:Heap.SameBut e h2 h3:=hs3
  replace he3:IsEnum h3 e it ((i:Int)+1) old:=he3
  show wpAny _ _ (newTuple [.int i tk,x] >>= _) _ _ ⟨h3,g,d,tk+1,os⟩
  refine wpAny_bind (wpAny_newTuple ?_)
  have he4:IsEnum (h3.push { cls:=.type "tuple",data:=.seq #[.int i tk,x] }) e it ((i:Int)+1) old:=Heap.get?_push_of_some _ he3
  obtain ⟨h4,hh4⟩:∃z,z=h3.push { cls:=.type "tuple",data:=.seq #[.int i tk,x] }:=⟨_,rfl⟩
  rw [←hh4] at he4
  have hsz:h3.objs.size=hp.objs.size:=by rw [hs3.1,hs2.1,hs1.1]
  have hel:hp.objs.size≠e:=Nat.ne_of_gt (Heap.lt_size he)
  have ht4:h4.get? hp.objs.size=some { cls:=.type "tuple",data:=.seq #[.int i tk,x] }:=by rw [hh4,←hsz]; exact Heap.get?_push_size _ rfl
  have hz4:h4.objs.size=hp.objs.size+1:=by rw [hh4,Heap.size_push,hsz]
  have hk4:∀b o,b≠e→b≠it→hp.get? b=some o→h4.get? b=some o:=fun b o q1 q2 q3=>by
    rw [hh4]
    exact Heap.get?_push_of_some _ (hs3.extBut b o q1 (hs2.extBut b o q1 (hs1.extBut b o q2 q3)))
  have hit4:h4.IsTupleIter it tp (i+1):=by
    obtain ⟨o,ho,r⟩:=(hit1.extBut hs2.extBut (Ne.symm hne)).extBut hs3.extBut (Ne.symm hne)
    exact ⟨o,by rw [hh4]; exact Heap.get?_push_of_some _ ho,r⟩
  show wpAny _ _ (Builtin.SmallTypes.ownedTupleIsFree (.ref e) >>= _) _ _ ⟨h3.push { cls:=.type "tuple",data:=.seq #[.int i tk,x] },g,d,tk+1,os⟩
  rw [←hh4,hsz]
  refine wpAny_bind ?_
  unfold Builtin.SmallTypes.ownedTupleIsFree
  refine wpAny_bind (wpAny_field he4 rfl (x:=.none) rfl (wpAny_pure ?_))
  simp only [if_true]
  refine wpAny_bind (wpAny_rule (wpAny_bind (wpAny_field he4 rfl (x:=old) rfl (wpAny_bind (wpAny_setField_rec he4 (by simp) fun h5 he5 hs5=>?_)))))
  replace hs5:Heap.SameBut e h4 h5:=hs5
  replace he5:IsEnum h5 e it ((i:Int)+1) x:=he5
  refine wpAny_bind (m:=Builtin.SmallTypes.ownedTupleHandOut (.ref e) (.ref hp.objs.size)) ?_
  unfold Builtin.SmallTypes.ownedTupleHandOut
  refine wpAny_bind (wpAny_setField_rec he5 (by simp) fun h6 he6 hs6=>?_)
  replace hs6:Heap.SameBut e h5 h6:=hs6
  replace he6:IsEnumOut h6 e it ((i:Int)+1) x hp.objs.size:=he6
  refine wpAny_setField_rec he6 (by simp) fun h7 he7 hs7=>?_
  replace hs7:Heap.SameBut e h6 h7:=hs7
  replace he7:IsEnumOut h7 e it ((i:Int)+1) x hp.objs.size:=he7
  have up:∀b o,b≠e→h4.get? b=some o→h7.get? b=some o:=fun b o q1 q2=>hs7.extBut b o q1 (hs6.extBut b o q1 (hs5.extBut b o q1 q2))
  refine wpAny_bind (wpAny_letGo (wpAny_pure ⟨_,rfl,hQ h7 he7 ?_ (up _ _ hel ht4) (by rw [hs7.1,hs6.1,hs5.1,hz4]) fun b o q1 q2 q3=>up b o q1 (hk4 b o q1 q2 q3)⟩))
  obtain ⟨o,ho,r⟩:=hit4
  exact ⟨o,up _ _ (Ne.symm hne) ho,r⟩
theorem Zqa {e it tp:Addr} {i:Nat} {its:Array Value} {x old:Value} {Q:Option Value→Shared→Prop} (he:IsEnum s.heap e it i old) (hit:s.heap.IsTupleIter it tp i) (ht:s.heap.IsTuple tp its) (hx:its[i]?=some x) (hne:e≠it)
    (hQ:∀h',IsEnumOut h' e it ((i:Int)+1) x s.heap.objs.size→h'.IsTupleIter it tp (i+1)→h'.get? s.heap.objs.size=some { cls:=.type "tuple",data:=.seq #[.int i s.toks,x] }→h'.objs.size=s.heap.objs.size+1→(∀b o,b≠e→b≠it→s.heap.get? b=some o→h'.get? b=some o)→Q (some (.ref s.heap.objs.size)) { s with heap:=h',toks:=s.toks+1 }) :
    wpAny (model prog w) A (pyNext (.ref e)) Q E s:=by
  have hT:s.TypeIs (.ref e) "enumerate":=⟨_,he,rfl⟩
  unfold pyNext
  exact wpAny_bind (wpAny_attempt (wpAny_callSpecial?_slot (name:=Str.ofString "__next__") hT F.slot_enumerate_next (wpAny_call_entry F.slot_enumerate_next hT F.entry_enumerate_next (Zp9 he hit ht hx hne fun h' a b c d k=>wpAny_pure (hQ h' a b c d k)) (F.args_enumerate_next_1 _))))
theorem ZrN {e it tp:Addr} {i:Nat} {its:Array Value} {old:Value} {Q:Option Value→Shared→Prop} (hh:A.handled=none) (he:IsEnum s.heap e it i old) (hit:s.heap.IsTupleIter it tp i) (ht:s.heap.IsTuple tp its) (hx:its[i]?=none)
    (hQ:∀h',Heap.ExtBut it s.heap h'→Q none { s with heap:=h' }):wpAny (model prog w) A (pyNext (.ref e)) Q E s:=by
  have hT:s.TypeIs (.ref e) "enumerate":=⟨_,he,rfl⟩
  unfold pyNext
  refine wpAny_bind (wpAny_attempt (wpAny_callSpecial?_slot (name:=Str.ofString "__next__") hT F.slot_enumerate_next (wpAny_call_entry F.slot_enumerate_next hT F.entry_enumerate_next ?_ (F.args_enumerate_next_1 _))))
  show wpAny _ _ (field (.ref e) 2 >>= _) _ _ _
  refine wpAny_bind (wpAny_field he rfl (x:=.ref it) rfl (wpAny_bind (Zm3 hh hit ht hx fun h' x he' hx'=>?_)))
  obtain ⟨o,ho,hc⟩:=hx'
  exact wpAny_bind (wpAny_isInstance (T:="StopIteration") (b:=true) ⟨o,ho,hc⟩ isSubtype_stop (wpAny_pure (hQ _ he')))
def Ite (K:PySem.W.Frag) (a:Addr):It:=
  ⟨fun i H=>∃xs x,SqT K H a xs∧xs[i]?=some x,fun i H x H'=>∃p v,x=.ref p∧H p=none∧H'=upd H p (.tup [.int i,v])∧∀xs,SqT K H a xs→xs[i]?=some v,fun i H=>∃xs,SqT K H a xs∧xs.length≤i⟩
theorem ZoT {P:Program} {w:World} {K:PySem.W.Frag} {es:List Expr} {x1} {pos:Pos} (a e it:Addr) (hne:e≠it) (ha:a≠e) (hb:a≠it):Znp P w K (.Tuple es x1 pos) (Ite K a) [e,it] e (fun i h=>(∃old,IsEnum h e it i old)∧h.IsTupleIter it a i) where
  mem:=by simp
  obj:=fun i h st b hb=>by
    obtain ⟨⟨old,st1⟩,o,e1,c,d⟩:=st
    have q:b=e∨b=it:=by simpa using hb
    rcases q with rfl | rfl
    · exact ⟨_,st1,fun v z=>by
        have z':Data.fields _=Data.cell v:=z
        cases z'⟩
    · exact ⟨o,e1,fun v z=>by rw [d] at z; cases z⟩
  keep:=fun i h h' st k=>by
    obtain ⟨⟨old,st1⟩,o,e1,r⟩:=st
    exact ⟨⟨old,k e (by simp) _ st1⟩,o,k it (by simp) o e1,r⟩
  item:=by
    intro X hP hw hK hc i pins s σ H E I hf st hg
    subst hP hw hK
    obtain ⟨⟨old,st1⟩,st2⟩:=st
    obtain ⟨xs,x,hq,hx⟩:=hg
    obtain ⟨its,rv,p,hz⟩:=I.tuple hq
    obtain ⟨u,hu,ru⟩:=rv.get hx
    obtain ⟨f0,f1,f2,f3,f4,f5⟩:=hf e (by simp)
    obtain ⟨g0,g1,g2,g3,g4,g5⟩:=hf it (by simp)
    refine Zqa st1 st2 (show s.heap.IsTuple a its.toArray from p) (x:=u) (by simpa using hu) hne fun h' out it' tp' sz' kk=>?_
    have hes:e<s.heap.objs.size:=Heap.lt_size st1
    have his:it<s.heap.objs.size:=by obtain ⟨o,q,_⟩:=st2; exact Heap.lt_size q
    refine ⟨_,rfl,wpAny_letOwnedTupleGo_enum out fun h2 e2 s2=>?_⟩
    replace s2:Heap.SameBut e h' h2:=s2
    have tp2:h2.get? s.heap.objs.size=some { cls:=.type "tuple",data:=.seq #[.int i s.toks,u] }:=s2.extBut _ _ (Nat.ne_of_gt hes) tp'
    have k2:∀b o,b≠e→b≠it→s.heap.get? b=some o→h2.get? b=some o:=fun b o q1 q2 q3=>s2.extBut b o q1 (kk b o q1 q2 q3)
    have hn:H s.heap.objs.size=none:=I.hok.fresh (Nat.le_refl _)
    have nn:∀{b:Addr} {o:HO},H b=some o→b≠s.heap.objs.size:=fun q=>zi q hn
    have nch:∀{b:Addr},b∉[e,it]→b≠e∧b≠it:=fun hb=>⟨fun z=>hb (by simp [z]),fun z=>hb (by simp [z])⟩
    have new:ObjOk X.prog X.w (upd H s.heap.objs.size (.tup [.int i,x])) h2 s.heap.objs.size (.tup [.int i,x]):=⟨by show 2≤sizeLine; decide,[.int i s.toks,u],.cons ⟨_,rfl⟩ (.cons ru .nil),⟨_,tp2,rfl,_,rfl⟩⟩
    have I1:Inv X pins σ (upd H s.heap.objs.size (.tup [.int i,x])) { s with heap:=h2,toks:=s.toks+1 }:=by
      refine I.step (g':=s.gens) (d':=s.drawn) (ch:=[e,it]) (fun b hb=>?_) (fun b o _ _ hc e' _=>k2 b o (nch hc).1 (nch hc).2 e') (fun b o _ _ hc e' _=>⟨o.slots,k2 b o (nch hc).1 (nch hc).2 e'⟩) (fun b o _ e' n=>by rw [ZP (Nat.ne_of_lt (Heap.lt_size e'))]; exact n)
        (fun b o hc e'=>⟨o,k2 b o (nch hc).1 (nch hc).2 e'⟩) (fun b _ q=>by rw [ZP (nn q)]; exact q) (fun b _ _ q=>by rw [ZP (nn q)]; exact q) (fun b ps q=>⟨#[],by rw [ZP (nn q),q]; simp⟩) (fun m hm=>?_) (fun b v q=>?_) I.bare
      · have z:b=e∨b=it:=by simpa using hb
        rcases z with rfl | rfl
        · exact ⟨f3,f1,f4,f5⟩
        · exact ⟨g3,g1,g4,g5⟩
      · obtain ⟨o,es,ep,ho,r⟩:=hm
        exact ⟨o,es,ep,k2 _ o (Ne.symm f1) (Ne.symm g1) ho,r⟩
      · by_cases hb:b=s.heap.objs.size
        · subst hb; rw [zI] at q; cases q; exact new
        · rw [ZP hb] at q
          refine (I.hok b v q).stay (fun c o hc z=>k2 c o ?_ ?_ z) (fun c z=>by rw [ZP (nn z)]; exact z) fun c _ z=>by rw [ZP (nn z)]; exact z
          · rcases hc with z | z
            · rw [z]; exact fun y=>by rw [y,f0] at q; cases q
            · exact fun y=>by rw [y,f0] at z; cases z
          · rcases hc with z | z
            · rw [z]; exact fun y=>by rw [y,g0] at q; cases q
            · exact fun y=>by rw [y,g0] at z; cases z
    refine ⟨.ref s.heap.objs.size,_,I1,rfl,⟨_,x,rfl,hn,rfl,fun ys hy=>by rw [I.tuple_inj hy hq]; exact hx⟩,⟨⟨_,by simpa using e2⟩,?_⟩,fun b hb=>?_⟩
    · obtain ⟨o,q,r⟩:=it'
      exact ⟨o,s2.extBut _ _ (Ne.symm hne) q,r⟩
    · have z:b=e∨b=it:=by simpa using hb
      rcases z with rfl | rfl
      · rw [ZP (Nat.ne_of_lt hes)]; exact f0
      · rw [ZP (Nat.ne_of_lt his)]; exact g0
  done:=by
    intro X hP hw hK hc i pins s σ H E I hf st hg
    subst hP hw hK
    obtain ⟨⟨old,st1⟩,st2⟩:=st
    obtain ⟨xs,hq,hx⟩:=hg
    obtain ⟨its,rv,p,hz⟩:=I.tuple hq
    obtain ⟨f0,f1,f2,f3,f4,f5⟩:=hf it (by simp)
    have hl:=rv.length
    exact ZrN (I.ok.hd hc) st1 st2 (show s.heap.IsTuple a its.toArray from p) (by simp; omega) fun h' eb=>⟨rfl,I.turned (t':=s.toks) (fun b o hb e=>eb b o hb e) f0 f1 f3 f4 f5⟩
  self:=fun _ _ _ _ _ st h=>by
    obtain ⟨⟨old,st1⟩,_⟩:=st
    exact wpAny_pyIter_enum st1 h
end
end L2
namespace L2
open PySem PySem.Spec PyProof.Rows
section
variable {X:Cx}
def Zy6 (K:PySem.W.Frag) (ta:TA):TI:=fun σ H R=>ta σ H fun vs H1=>∃a,vs=[.ref a]∧(∃xs,SqT K H1 a xs)∧R (Ite K a) H1
theorem Ztn {l:Expr} {ta:TA} {es:List Expr} {x1} {p pos tp:Pos} (hg:Gl X "enumerate") (hm:X.mg "enumerate"=none) (ha:PA X [l] ta) (hs:starEach [l] X.env=[(false,eval l X.env)]:=by rfl):PI X (.Tuple es x1 tp) (.Call (.Name "enumerate" p) [l] [] pos) (Zy6 X.K ta):=by
  intro pins s σ H R I h
  refine Call_ (Zhq I hg hm boot_enumerate (PyProof.Rows.callWith_type1 (thn (ha pos pins s σ H _ I h) fun us s1 ⟨vs,H1,I1,r1,q1⟩=>?_) hs rfl))
  obtain ⟨a,e,⟨xs,hq⟩,q⟩:=q1
  subst e
  obtain ⟨u,rfl,ru⟩:=Zfk r1
  cases ru
  obtain ⟨its,rv,t1,hz⟩:=I1.tuple hq
  have T1:s1.heap.IsTuple a its.toArray:=t1
  have al:a<s1.heap.objs.size:=by obtain ⟨o,z,_⟩:=T1; exact Heap.lt_size z
  refine Zqn T1 fun h' e' i' z' k'=>wpAny_pyIter_enum (s:={ s1 with heap:=h' }) e' ?_
  have I2:Inv X pins σ H1 { s1 with heap:=h' }:=I1.kept (t':=s1.toks) k'
  refine ⟨s1.heap.objs.size+1,[s1.heap.objs.size+1,s1.heap.objs.size],_,_,H1,rfl,I2,ZoT a _ _ (Nat.succ_ne_self _) (Nat.ne_of_lt (Nat.lt_succ_of_lt al)) (Nat.ne_of_lt al),⟨⟨_,e'⟩,i'⟩,fun b hb=>?_,q⟩
  have z:b=s1.heap.objs.size+1∨b=s1.heap.objs.size:=by simpa using hb
  have hb':s1.heap.objs.size≤b:=z.elim (fun y=>by rw [y]; exact Nat.le_succ _) fun y=>by rw [y]; exact Nat.le_refl _
  exact I1.fpOk hb' (I1.hok.fresh hb')
end
end L2
namespace L2.MM
open PySem PySem.Spec PyProof.Rows
section
variable {X:Cx}
def forE (i j:Nat) (body:SM):Nat→List D→SM
  | _,[]=>fun ρ θ=>.ok (.nx,ρ) θ
  | k,x::r=>fun ρ θ=>(body ((ρ.set i (.val (.int (k:Nat)))).set j (.val x)) θ).bind (Ze0 (forE i j body (k+1) r))
def ZpR (fa:AM) (i j:Nat) (body:SM):SM:=fun ρ θ=>(fa ρ θ).bind fun ds θ=>match ds with
  | [.tup xs]=>forE i j body 0 xs ρ θ
  | _=>.bad
theorem Zrx {l:Expr} {body:List Stmt} {fa:AM} {fb:SM} {x y:Str} {x1} {p p1 p2 tp cp pos:Pos} (i j:Nat) (hN:X.N.Nodup) (hp:PassesOwn (model X.prog X.w) X.A X.env X.xe) (hm:X.mg "enumerate"=none) (ha:MA X [l] fa) (hb:MSs X body fb) (hc:X.calm=true:=by rfl)
    (hg:Gl X "enumerate":=by rfl) (hs:starEach [l] X.env=[(false,eval l X.env)]:=by rfl)
    (hi:X.N[i]?=some x:=by rfl) (hx:Loc X.env.scope x:=by first | exact Or.inl rfl | exact Or.inr rfl) (hf:X.fn x=true∨X.env.scope.names.lookup x=some .local:=by first | exact .inl rfl | exact .inr rfl)
    (hj:X.N[j]?=some y:=by rfl) (hy:Loc X.env.scope y:=by first | exact Or.inl rfl | exact Or.inr rfl) (hf':X.fn y=true∨X.env.scope.names.lookup y=some .local:=by first | exact .inl rfl | exact .inr rfl)
    (hse:∀z,foldedSetIterable (.Call (.Name "enumerate" p) [l] [] cp) X.env z=pure z:=by intro _; rfl)
    (ha1:(assignEach [.Name x p1,.Name y p2] X.env).map (·.2)=assign (.Name x p1) X.env::(assignEach [.Name y p2] X.env).map (·.2):=by rfl) (ha2:(assignEach [.Name y p2] X.env).map (·.2)=assign (.Name y p2) X.env::(assignEach [] X.env).map (·.2):=by rfl)
    (hn:(assignEach [.Name x p1,.Name y p2] X.env).length=2:=by rfl) (hst:(assignEach [.Name x p1,.Name y p2] X.env).findIdx? (·.1)=none:=by rfl) :
    MS X (.For (.Tuple [.Name x p1,.Name y p2] x1 tp) (.Call (.Name "enumerate" p) [l] [] cp) body [] pos) (ZpR fa i j fb):=
  PS.imp (Zpd hp hc (Ztn hg hm ha hs) (Zto hc (ZkI (Zfr hN hi hx hf) (ZkI (Zfr hN hj hy hf') Zrk ha2) ha1) hn hst) hb hse) fun Dn σ H h=>by
  obtain ⟨B,θ,ρ,F,w⟩:=h
  refine ZbN (Zo3 F w) ?_
  rintro vs H1 ⟨B1,θ1,ds,E1,F1,rd,w1⟩
  split at w1
  · rename_i xs
    obtain ⟨v,rfl,rv⟩:=rd.one
    obtain ⟨a,us,rfl,g1,okA,ru⟩:=rv
    refine ⟨a,rfl,⟨us,SqT.of g1⟩,fun k m σ H=>∃B θ ρ,Frm X.cl B θ ρ σ H∧RepV B H (.tup xs) (.ref a)∧m=xs.length-k∧k≤xs.length∧wpS X σ B H (forE i j fb k (xs.drop k) ρ θ) Dn,⟨xs.length,B1,θ1,ρ,F1,⟨a,us,rfl,g1,okA,ru⟩,rfl,Nat.zero_le _,w1⟩,?_⟩
    rintro k m σ2 H2 ⟨B2,θ2,ρ2,F2,rv2,rfl,hk,w2⟩
    obtain ⟨a',us2,e2,g2,ok2,ru2⟩:=id rv2
    cases e2
    by_cases hlt:k<xs.length
    · rw [List.drop_eq_getElem_cons hlt] at w2
      unfold forE at w2
      obtain ⟨v,q1,q2⟩:=ru2.get (List.getElem?_eq_getElem hlt)
      refine .inr ⟨⟨us2,v,SqT.of g2,q1⟩,fun σ' H'=>∃B' θ' ρ',ExtS B2 B' H2 H'∧Frm X.cl B' θ' ρ' σ' H'∧wpS X σ' B' H' (forE i j fb (k+1) (xs.drop (k+1)) ρ' θ') Dn,?_,fun z H' hz=>?_⟩
      · rintro σ' H' ⟨B',θ',ρ',E',F',w'⟩
        exact ⟨xs.length-(k+1),by omega,B',θ',ρ',F',rv2.ext E',rfl,hlt,w'⟩
      · obtain ⟨t,v',rfl,ht,rfl,hv⟩:=hz
        have:=hv us2 (SqT.of g2)
        rw [q1] at this
        cases this
        have E3:=ZcI F2.good ht (.tup [.int k,v])
        have F3:=F2.ext E3 (Zet F2.good ht (.tup [.int k,v]))
        refine ⟨t,[.int k,v],rfl,SqT.of zI,rfl,.int k,[v],rfl,v,[],rfl,rfl,?_⟩
        have F4:=(F3.set i (d:=.int (k:Nat)) (v:=.int k) rfl).set j (q2.ext E3.toExtS)
        refine ⟨B2,θ2,_,F4,?_⟩
        exact wpS.trans (wpS.loop w2) E3.toExtS
    · have e:k=xs.length:=by omega
      subst e
      rw [List.drop_length] at w2
      unfold forE at w2
      exact .inl ⟨⟨us2,SqT.of g2,by rw [ru2.len]; exact Nat.le_refl _⟩,ZdF F2 w2⟩
  · exact w1.elim
end
end L2.MM
namespace L2
open PySem PySem.Spec PyProof.Rows
section
variable {X:Cx} {pins:List (Addr×Obj)} {σ:St} {H:Hp} {s:Shared} {a:Addr} {kvs:List (Key×V)} {k:Key} {z:V} {u r:Value} {A:Around} {E:Value→Shared→Prop}
theorem ZtW {Q:Value→Shared→Prop} (I:Inv X pins σ H s) (e:H a=some (.dK kvs)) (ry:RelV (kV k) u) (rz:RelV z r) (hl:kvs.length<sizeLine)
    (h1:∀v w' s',valV kvs k=some v→Inv X pins σ H s'→RelV v w'→Q w' s') (h2:valV kvs k=none→∀s',Inv X pins σ (upd H a (.dK (Zeg kvs k z))) s'→Q r s'):wpAny (model X.prog X.w) A (call (.builtin "dict.setdefault") [.ref a,u,r]) Q E s:=by
  obtain ⟨z1,hd,vs,rel,dd⟩:=Zqg I.hok e
  have hv:vs.length≤sizeLine:=by rw [←rel.length]; exact z1
  refine call_meetsIn PySem.F.slot_dict_setdefault dd.typeIs PySem.F.entry_dict_setdefault (PySem.F.args_dict_setdefault_3 _ _ _) (kt_meets_setdefault (ZaE X.prog X.w) a (ZkZ ry) hd r) ⟨vs,dd,hv,fun v q=>?_,fun q h' dd' hs=>?_⟩
  · cases l:valV kvs k with
    | none=>
      have:valueAt vs k=none:=RelO.none_of (by rw [←l]; exact rel.val k)
      rw [this] at q
      cases q
    | some v0=>
      obtain ⟨w1,hw,r1⟩:=RelO.some_of (v:=v0) (o:=valueAt vs k) (by rw [←l]; exact rel.val k)
      have z2:w1=v:=by rw [hw] at q; injection q
      subst z2
      exact h1 v0 w1 _ l (I.tok _) r1
  · have l:valV kvs k=none:=by
      cases l:valV kvs k with
      | none=>rfl
      | some v0=>
        obtain ⟨w',hw,rw'⟩:=RelO.some_of (v:=v0) (o:=valueAt vs k) (by rw [←l]; exact rel.val k)
        rw [hw] at q
        cases q
    have hl2:(Zeg kvs k z).length≤sizeLine:=by have:=ZkW kvs k z; omega
    have he:∃q,h'.get? a=some q:=let ⟨q,_,_,hq,_⟩:=dd'; ⟨q,hq⟩
    exact h2 l _ (ZiZ I (by rw [e]; exact True.intro) hs he (ZlN hl2 hd (rel.put k rz) dd'))
end
def Zs3 (td ty tx:TE):TE:=fun σ H Q=>td σ H fun x H1=>∃a,x=.ref a∧IsD H1 a∧ty σ H1 fun y H2=>tx σ H2 fun z H3=>∃kvs k,H3 a=some (.dK kvs)∧y=kV k∧kvs.length<sizeLine∧
  (∀v,valV kvs k=some v→Q v H3)∧(valV kvs k=none→Q z (upd H3 a (.dK (Zeg kvs k z))))
theorem Zpm {X:Cx} {o e f:Expr} {apos cpos:Pos} {td ty tx:TE} (ho:PE X o td) (he:PE X e ty) (hf:PE X f tx) (m:M2 X o "setdefault" apos e f cpos):PE X (.Call (.Attribute o "setdefault" apos) [e,f] [] cpos) (Zs3 td ty tx):=by
  intro pins s σ H Q I h
  refine wpAny_Call_method m.base m.few m.line PySem.F.plainAttrs_dict PySem.F.slot_dict_setdefault PySem.F.type_dict_setdefault (thn (ho pins s σ H _ I h) fun u s1 ⟨x,H1,I1,rx,a,ex,d,q1⟩=>?_)
  subst ex
  cases (show u=Value.ref a from rx)
  obtain ⟨t1,t2,_⟩:=ZpW I1 d
  refine ⟨t1,t2,?_⟩
  rw [m.trees]
  refine Calls.callWith_builtin rfl (Calls.evalArgs_plain (Calls.spliced_cons (thn (he pins s1 σ H1 _ I1 q1) fun iv s2 ⟨y,H2,I2,ry,q2⟩=>Calls.spliced_cons (thn (hf pins s2 σ H2 _ I2 q2) fun fv s3 ⟨z,H3,I3,rz,kvs,k,ea,ey,hl,q3,q4⟩=>Calls.spliced_nil ?_))))
  subst ey
  exact ZtW I3 ea ry rz hl (fun v w' s4 l I4 rw'=>⟨v,H3,I4,rw',q3 v l⟩) fun l s4 I4=>⟨z,_,I4,rz,q4 l⟩
end L2
namespace L2.MM
open PySem PySem.Spec PyProof.Rows
def valD (kvs:List (Key×D)) (k:Key):Option D:=(kvs.find? fun kv=>decide (kv.1=k)).map (·.2)
def putD (kvs:List (Key×D)) (k:Key) (v:D):List (Key×D):=
  if (kvs.any fun kv=>decide (kv.1=k))=true then kvs.map (fun kv=>if kv.1=k then (kv.1,v) else kv) else kvs++[(k,v)]
def dropD (kvs:List (Key×D)) (k:Key):List (Key×D):=kvs.filter fun kv=>decide (kv.1≠k)
def ZkY:D→Option Key
  | .int n=>some (.inl n)
  | .str x=>some (.inr x)
  | _=>none
def Zgc (θ:Sto):D→Option (Nat×List (Key×D))
  | .ref l=>match θ[l]? with
    | some (.dK kvs)=>some (l,kvs)
    | _=>none
  | _=>none
section
variable {B:Bx} {H:Hp}
theorem RepKV.valD (k:Key):∀{ks:List (Key×D)} {vs:List (Key×V)},RepKV B H ks vs→(L2.MM.valD ks k=Option.none∧valV vs k=Option.none)∨∃d v,L2.MM.valD ks k=some d∧valV vs k=some v∧RepV B H d v
  | _,_,.nil=>.inl ⟨rfl,rfl⟩
  | (k1,d1)::ks,(k2,v2)::vs,.cons ⟨h1,h2⟩ t=>by
    cases (show k1=k2 from h1)
    by_cases e:k1=k
    · refine .inr ⟨d1,v2,?_,?_,h2⟩<;>simp [L2.MM.valD,valV,List.find?_cons,e]
    · have:=RepKV.valD k t
      simpa [L2.MM.valD,valV,List.find?_cons,e] using this
theorem RepKV.any (k:Key):∀{ks:List (Key×D)} {vs:List (Key×V)},RepKV B H ks vs→(ks.any fun kv=>decide (kv.1=k))=(vs.any fun kv=>decide (kv.1=k))
  | _,_,.nil=>rfl
  | (k1,d1)::ks,(k2,v2)::vs,.cons ⟨h1,h2⟩ t=>by
    cases (show k1=k2 from h1)
    rw [List.any_cons,List.any_cons,RepKV.any k t]
theorem RepKV.snoc {k:Key} {d:D} {v:V} (r:RepV B H d v):∀{ks:List (Key×D)} {vs:List (Key×V)},RepKV B H ks vs→RepKV B H (ks++[(k,d)]) (vs++[(k,v)])
  | _,_,.nil=>.cons ⟨rfl,r⟩ .nil
  | _,_,.cons h t=>.cons h (RepKV.snoc r t)
theorem RepKV.over {k:Key} {d:D} {v:V} (r:RepV B H d v):∀{ks:List (Key×D)} {vs:List (Key×V)},RepKV B H ks vs→RepKV B H (ks.map fun kv=>if kv.1=k then (kv.1,d) else kv) (vs.map fun kv=>if kv.1=k then (kv.1,v) else kv)
  | _,_,.nil=>.nil
  | (k1,d1)::ks,(k2,v2)::vs,.cons ⟨h1,h2⟩ t=>by
    cases (show k1=k2 from h1)
    rw [List.map_cons,List.map_cons]
    refine .cons ?_ (RepKV.over r t)
    by_cases e:k1=k
    · rw [if_pos (show (k1,d1).1=k from e),if_pos (show (k1,v2).1=k from e)]; exact ⟨rfl,r⟩
    · rw [if_neg (show ¬(k1,d1).1=k from e),if_neg (show ¬(k1,v2).1=k from e)]; exact ⟨rfl,h2⟩
theorem RepKV.putD {k:Key} {d:D} {v:V} (r:RepV B H d v) {ks:List (Key×D)} {vs:List (Key×V)} (h:RepKV B H ks vs):RepKV B H (L2.MM.putD ks k d) (Zeg vs k v):=by
  unfold L2.MM.putD Zeg
  rw [h.any k]
  split
  · exact h.over r
  · exact h.snoc r
theorem RepKV.dropD (k:Key):∀{ks:List (Key×D)} {vs:List (Key×V)},RepKV B H ks vs→RepKV B H (L2.MM.dropD ks k) (Ze2 vs k)
  | _,_,.nil=>.nil
  | (k1,d1)::ks,(k2,v2)::vs,.cons ⟨h1,h2⟩ t=>by
    cases (show k1=k2 from h1)
    have ih:=RepKV.dropD k t
    unfold L2.MM.dropD Ze2 at ih ⊢
    by_cases e:k1=k
    · rw [List.filter_cons_of_neg (by simpa using e),List.filter_cons_of_neg (by simpa using e)]; exact ih
    · rw [List.filter_cons_of_pos (by simpa using e),List.filter_cons_of_pos (by simpa using e)]; exact .cons ⟨rfl,h2⟩ ih
theorem keyD_rep {d:D} {v:V} {k:Key} (r:RepV B H d v) (h:ZkY d=some k):v=kV k:=by
  cases d with
  | int n=>cases h; exact r
  | str x=>cases h; exact r
  | _=>cases h
theorem ZfH {cl:Mo} {θ:Sto} (G:Good cl B θ H) {d:D} {v:V} {l:Nat} {kvs:List (Key×D)} (r:RepV B H d v) (h:Zgc θ d=some (l,kvs)):l<B.n∧v=.ref (B.m l)∧∃vs,H (B.m l)=some (.dK vs)∧RepKV B H kvs vs:=by
  cases d with
  | ref k=>
    simp only [Zgc] at h
    split at h
    · rename_i kvs' e
      cases h
      obtain ⟨hl,rfl⟩:=r
      obtain ⟨vs,h1,h2⟩:=G.cel _ _ e
      exact ⟨hl,rfl,vs,h1,h2⟩
    · cases h
  | _=>cases h
end
section
variable {X:Cx}
theorem ZsJ {k:Nat} {A:Around} (hr:Room k A):A.units+1<cLine:=by have:=hr.un; omega
def ZpS (fi fo:EM):EM:=fun ρ θ=>(fi ρ θ).bind fun y θ=>(fo ρ θ).bind fun d θ=>match ZkY y,Zgc θ d with
  | some k,some (_,kvs)=>.ok (.bl (valD kvs k).isSome) θ
  | _,_=>.bad
theorem ZrO {fi fo:EM} (σ:St) (H:Hp) (Q:VK) (h:tM X (ZpS fi fo) σ H Q):ZuS (tM X fi) (tM X fo) σ H Q:=by
  obtain ⟨B,θ,ρ,F,w⟩:=h
  refine Z5 (step F w) ?_
  rintro y H1 ⟨B1,θ1,dy,E1,F1,ry,w1⟩
  refine Z5 (step F1 w1) ?_
  rintro v H2 ⟨B2,θ2,d,E2,F2,rd,w2⟩
  split at w2
  · rename_i k l kvs ek ed
    obtain ⟨hl,rfl,vs,h1,h2⟩:=ZfH F2.good rd ed
    cases keyD_rep ry ek
    refine ⟨_,valV vs k,rfl,DGet.k h1,?_⟩
    have e:(valD kvs k).isSome=(valV vs k).isSome:=by
      rcases h2.valD k with ⟨q1,q2⟩ | ⟨d,v,q1,q2,_⟩<;>(rw [q1,q2]; rfl)
    rw [←e]
    exact ZO (Rel:=RepV) F2.good (show RepV B2 H2 (.bl (valD kvs k).isSome) (.bl (valD kvs k).isSome) from rfl) w2
  · exact w2.elim
theorem ZtI {i o:Expr} {fi fo:EM} {pos:Pos} {k:Nat} (hr:Room k X.A) (hi:ME X i fi) (ho:ME X o fo) (hm:behindInMarks .In o=false:=by rfl):MT X (.Compare i [.In] [o] pos) (ZG (ZpS fi fo)):=by
  refine PT.imp (Zth (Ztw (ZsJ hr) hi ho) hm) fun σ H Q h=>?_
  exact ZrO σ H _ (Zhc σ H Q h)
def Zmt (fo fe:EM):EM:=fun ρ θ=>(fo ρ θ).bind fun d θ=>match Zgc θ d with
  | none=>.bad
  | some _=>(fe ρ θ).bind fun y θ=>match ZkY y,Zgc θ d with
    | some k,some (l,kvs)=>match valD kvs k with
      | some v=>.ok v (θ.set l (.dK (dropD kvs k)))
      | none=>.bad
    | _,_=>.bad
theorem Zmr {o e:Expr} {fo fe:EM} {apos cpos:Pos} (ho:ME X o fo) (he:ME X e fe) (m:M1 X o "pop" apos e cpos):ME X (.Call (.Attribute o "pop" apos) [e] [] cpos) (Zmt fo fe):=by
  refine PE.imp (Zpn ho he m) fun σ H Q h=>?_
  obtain ⟨B,θ,ρ,F,w⟩:=h
  refine Z5 (step F w) ?_
  rintro v H1 ⟨B1,θ1,d,E1,F1,rd,w1⟩
  split at w1
  · exact w1.elim
  · rename_i q ed
    obtain ⟨l,kvs⟩:=q
    obtain ⟨hl,rfl,vs,h1,h2⟩:=ZfH F1.good rd ed
    refine ⟨_,rfl,.inl ⟨vs,.inl h1⟩,?_⟩
    refine Z5 (step F1 w1) ?_
    rintro y H2 ⟨B2,θ2,dy,E2,F2,ry,w2⟩
    split at w2
    · rename_i k l2 kvs2 ek ed2
      obtain ⟨hl2,e2,vs2,h3,h4⟩:=ZfH F2.good (rd.ext E2.toExtS) ed2
      cases keyD_rep ry ek
      have e3:B1.m l=B2.m l2:=by injection e2
      rw [e3]
      rcases h4.valD k with ⟨q1,q2⟩ | ⟨dv,v,q1,q2,rv⟩
      · rw [q1] at w2; exact w2.elim
      · rw [q1] at w2
        refine ⟨vs2,k,v,h3,rfl,q2,?_⟩
        have E3:=ZgZ F2.good hl2 (.dK (Ze2 vs2 k))
        have G3:=Zhu F2.good hl2 (o:=.dK (Ze2 vs2 k)) (c:=.dK (dropD kvs2 k)) ⟨_,zI,(h4.dropD k).ext E3.toExtS⟩
        exact w2 _ _ _ E3 G3 (rv.ext E3.toExtS)
    · exact w2.elim
def ZlG (fo fe ff:EM):EM:=fun ρ θ=>(fo ρ θ).bind fun d θ=>match Zgc θ d with
  | none=>.bad
  | some _=>(fe ρ θ).bind fun y θ=>(ff ρ θ).bind fun z θ=>match ZkY y,Zgc θ d with
    | some k,some (l,kvs)=>if kvs.length<BIG then (match valD kvs k with
      | some v=>.ok v θ
      | none=>.ok z (θ.set l (.dK (putD kvs k z)))) else .bad
    | _,_=>.bad
theorem ZpN {o e f:Expr} {fo fe ff:EM} {apos cpos:Pos} (ho:ME X o fo) (he:ME X e fe) (hf:ME X f ff) (m:M2 X o "setdefault" apos e f cpos):ME X (.Call (.Attribute o "setdefault" apos) [e,f] [] cpos) (ZlG fo fe ff):=by
  refine PE.imp (Zpm ho he hf m) fun σ H Q h=>?_
  obtain ⟨B,θ,ρ,F,w⟩:=h
  refine Z5 (step F w) ?_
  rintro v H1 ⟨B1,θ1,d,E1,F1,rd,w1⟩
  split at w1
  · exact w1.elim
  · rename_i q ed
    obtain ⟨l,kvs⟩:=q
    obtain ⟨hl,rfl,vs,h1,h2⟩:=ZfH F1.good rd ed
    refine ⟨_,rfl,.inl ⟨vs,.inl h1⟩,?_⟩
    refine Z5 (step F1 w1) ?_
    rintro y H2 ⟨B2,θ2,dy,E2,F2,ry,w2⟩
    refine Z5 (step F2 w2) ?_
    rintro z H3 ⟨B3,θ3,dz,E3,F3,rz,w3⟩
    split at w3
    · rename_i k l2 kvs2 ek ed2
      obtain ⟨hl2,e2,vs2,h3,h4⟩:=ZfH F3.good ((rd.ext E2.toExtS).ext E3.toExtS) ed2
      cases keyD_rep ry ek
      have e3:B1.m l=B3.m l2:=by injection e2
      rw [e3]
      split at w3
      · rename_i hb
        refine ⟨vs2,k,h3,rfl,?_,fun v hv=>?_,fun hn=>?_⟩
        · have:=Zaq (n:=kvs2.length+1) hb
          rw [RepKV.len h4]; omega
        · rcases h4.valD k with ⟨q1,q2⟩ | ⟨dv,v',q1,q2,rv⟩
          · rw [q2] at hv; cases hv
          · rw [q2] at hv; cases hv
            rw [q1] at w3
            exact ZO (Rel:=RepV) F3.good rv w3
        · rcases h4.valD k with ⟨q1,q2⟩ | ⟨dv,v',q1,q2,rv⟩
          · rw [q1] at w3
            have E4:=ZgZ F3.good hl2 (.dK (Zeg vs2 k z))
            have G4:=Zhu F3.good hl2 (o:=.dK (Zeg vs2 k z)) (c:=.dK (putD kvs2 k dz)) ⟨_,zI,(h4.putD rz).ext E4.toExtS⟩
            exact w3 _ _ _ E4 G4 (rz.ext E4.toExtS)
          · rw [q2] at hn; cases hn
      · exact w3.elim
    · exact w3.elim
end
end L2.MM
namespace My
open PySem L2 L2.MM
noncomputable section
def ZmF:SM:=(Zr (Z9 2 (mSl (Zd 1) ZaV (Zbt (mCB Zfa (Zc (Zd 0) Zk)))))
  (Zr (ZD ["Pile"] "row" (Zd 0) (mOp ZV (ZF ["Pile"] "row" (Zd 0)) (Zd 2)))
  (ZJ (mCB ZdR (Zc (Zd 2) Zk)))))
def ZkK:GM:=ZN 2 3 ZmF
def ZfJ:SM:=(Zr (Z9 2 (mCB Zrz (Zc (Zd 1) (Zc (mC (.int 0)) Zk))))
  (Zr (Z9 3 (mSl (ZF ["Pile"] "row" (Zd 0)) ZaV (Zbt (Zd 2))))
  (Zr (ZD ["Pile"] "row" (Zd 0) (mSl (ZF ["Pile"] "row" (Zd 0)) (Zbt (Zd 2)) ZaV))
  (ZJ (Zd 3)))))
def Ze9:GM:=ZN 2 4 ZfJ
def Zlj:SM:=(ZJ (mOp gtM (mCB zD (Zc (Zd 0) (Zc (Zd 1) Zk))) (mC (.int 0))))
def Zb8:GM:=ZN 2 2 Zlj
def Zdy:SM:=(ZJ (mCB Zb8 (Zc (ZF ["End"] "nxt" (Zd 0)) (Zc (ZF ["End"] "behind" (Zd 0)) Zk))))
def Za7:GM:=ZN 1 1 Zdy
def ZiB:SM:=(ZJ (mOp eqM (mCB ZeY (Zc (mOp ixM (Zd 0) (mC (.int 4))) (Zc (Zd 1) Zk))) (mC (.int 1))))
def Z2:GM:=ZN 2 2 ZiB
def Zcy:SM:=(mIf (zX (mCB Z2 (Zc (Zd 0) (Zc (mC (.int 16)) Zk)))) (ZJ (mOp ZV (Zd 1) (Zaa (Zc (mOp ixM (Zd 0) (mC (.int 3))) (Zc (mC (.int 0)) (Zc (mC (.int 4)) (Zc (mC (.int 0)) (Zc (mC (.int 0)) (Zc (Zaa Zk) Zk))))))))) ZK)
def Zdg:SM:=(Zr (Z9 1 (Zaa (Zc (mOp ixM (Zd 0) (mC (.int 1))) (Zc (mOp ixM (Zd 0) (mC (.int 0))) Zk))))
  (Zr Zcy
  (ZJ (mOp ZV (Zd 1) (Zaa (Zc (mC (.int 0)) (Zc (mCB zC (Zc (mOp ixM (Zd 0) (mC (.int 2))) (Zc (mCB Zcn (Zc (Zd 0) Zk)) Zk))) (Zc (mOp ZV (mC (.int 4)) (mC (.int 16))) (Zc (mC (.int 0)) (Zc (mC (.int 0)) (Zc (Zaa Zk) Zk)))))))))))
def ZbE:GM:=ZN 1 2 Zdg
def Zbn:SM:=(mIf (ZdN (zX (mCB Z2 (Zc (Zd 1) (Zc (mC (.int 4)) Zk))))) (ZD ["End"] "owed_reset" (Zd 0) (mCB ZbE (Zc (Zd 1) Zk))) ZK)
def ZbY:SM:=Zbn
def ZX:GM:=ZN 2 2 ZbY
def Zc1:SM:=(zh (mCB ZX (Zc (Zd 0) (Zc (Zd 1) Zk))))
def ZaF:GM:=ZN 2 2 Zc1
def ZeC:SM:=(mIf (ZG (mOp neM (mOp ixM (Zd 1) (mC (.int 6))) (mC (.int 0)))) (ZD ["End"] "most" (Zd 0) (mOp ixM (Zd 1) (mC (.int 6)))) ZK)
def ZfM:SM:=(Zr (ZD ["End"] "rcv" (Zd 0) (mCB zC (Zc (mOp ixM (Zd 1) (mC (.int 2))) (Zc (mC (.int 1)) Zk))))
  (Zr (ZD ["End"] "wnd" (Zd 0) (mOp ixM (Zd 1) (mC (.int 5))))
  (Zr (ZD ["End"] "told" (Zd 0) (mOp ixM (Zd 1) (mC (.int 2))))
  (Zr (ZD ["End"] "told_by" (Zd 0) (ZfB (zX (mCB Z2 (Zc (Zd 1) (Zc (mC (.int 16)) Zk)))) (mOp ixM (Zd 1) (mC (.int 3))) (mC (.int 0))))
  ZeC))))
def ZbA:GM:=ZN 2 2 ZfM
def zU:SM:=(mIf (zX (mCB Z2 (Zc (Zd 1) (Zc (mC (.int 4)) Zk)))) ZfA ZK)
def Zay:SM:=(mIf (zX (mCB Z2 (Zc (Zd 1) (Zc (mC (.int 2)) Zk)))) (Zr (ZD ["End"] "theirs" (Zd 0) (mOp ixM (Zd 1) (mC (.int 0))))
      (Zr (zh (mCB ZbA (Zc (Zd 0) (Zc (Zd 1) Zk))))
      (ZD ["End"] "state" (Zd 0) (mC (.str "syn come"))))) ZK)
def Zax:SM:=(mIf (zX (mCB Z2 (Zc (Zd 1) (Zc (mC (.int 16)) Zk)))) (zh (mCB ZX (Zc (Zd 0) (Zc (Zd 1) Zk)))) Zay)
def Zai:SM:=(Zr zU
  Zax)
def zw:GM:=ZN 2 2 Zai
def Zeb:SM:=(ZJ (Zbu (mOp neM (ZF ["End"] "nxt" (Zd 0)) (ZF ["End"] "first" (Zd 0))) (mOp eqM (mOp ixM (Zd 1) (mC (.int 3))) (mCB zC (Zc (ZF ["End"] "first" (Zd 0)) (Zc (mC (.int 1)) Zk))))))
def Zbs:GM:=ZN 2 2 Zeb
def Zaj:SM:=(mIf (zX (mCB Z2 (Zc (Zd 1) (Zc (mC (.int 16)) Zk)))) (Zr (ZD ["End"] "una" (Zd 0) (mOp ixM (Zd 1) (mC (.int 3))))
    (Zr (ZD ["End"] "state" (Zd 0) (mC (.str "open")))
    (ZD ["End"] "owes_answer" (Zd 0) (mC (.bl true))))) (Zr (ZD ["End"] "state" (Zd 0) (mC (.str "syn come")))
    (Zr (zh (mCB Z6 (Zc (Zd 0) (Zc (Zd 2) Zk))))
    (ZD ["End"] "owes_syn" (Zd 0) (mC (.bl true))))))
def ZaL:SM:=Zaj
def zJ:GM:=ZN 3 3 ZaL
def ZdV:SM:=(mIf (zX (mCB Z2 (Zc (Zd 1) (Zc (mC (.int 16)) Zk)))) (Zr (ZD ["End"] "state" (Zd 0) (mC (.str "closed")))
    (ZD ["End"] "error" (Zd 0) (mC (.str "refused")))) ZK)
def Zfg:SM:=ZdV
def Zej:GM:=ZN 2 2 Zfg
def zF:SM:=(mIf (zX (mCB Z2 (Zc (Zd 1) (Zc (mC (.int 2)) Zk)))) (Zr (zh (mCB ZbA (Zc (Zd 0) (Zc (Zd 1) Zk))))
        (zh (mCB zJ (Zc (Zd 0) (Zc (Zd 1) (Zc (Zd 2) Zk)))))) ZK)
def Z3:SM:=(mIf (zX (mCB Z2 (Zc (Zd 1) (Zc (mC (.int 4)) Zk)))) (zh (mCB Zej (Zc (Zd 0) (Zc (Zd 1) Zk)))) zF)
def ZU:SM:=(mIf (Zho (zX (mCB Z2 (Zc (Zd 1) (Zc (mC (.int 16)) Zk)))) (ZdN (zX (mCB Zbs (Zc (Zd 0) (Zc (Zd 1) Zk)))))) (zh (mCB ZX (Zc (Zd 0) (Zc (Zd 1) Zk)))) Z3)
def Z1:SM:=ZU
def ZR:GM:=ZN 3 3 Z1
def Zdx:SM:=(ZJ (ZdP leM ltM (mC (.int 0)) (mCB zD (Zc (Zd 1) (Zc (ZF ["End"] "rcv" (Zd 0)) Zk))) (mCB ZaT (Zc (Zd 0) Zk))))
def zk:GM:=ZN 2 2 Zdx
def Zfh:SM:=(mIf (ZG (mOp eqM (Zd 2) (mC (.int 0)))) (ZJ (ZdP leM leM (mC (.int 0)) (mCB zD (Zc (mOp ixM (Zd 1) (mC (.int 2))) (Zc (ZF ["End"] "rcv" (Zd 0)) Zk))) (mC (.int 64)))) ZK)
def ZhK:SM:=(Zr (Z9 2 (mCB Zcn (Zc (Zd 1) Zk)))
  (Zr Zfh
  (Zr (Z9 3 (mCB zC (Zc (mOp ixM (Zd 1) (mC (.int 2))) (Zc (mOp ZfW (Zd 2) (mC (.int 1))) Zk))))
  (ZJ (Zm5 (mCB zk (Zc (Zd 0) (Zc (mOp ixM (Zd 1) (mC (.int 2))) Zk))) (mCB zk (Zc (Zd 0) (Zc (Zd 3) Zk))))))))
def Zf0:GM:=ZN 2 4 ZhK
def ze:SM:=(mIf (mOr (ZdN (zX (mCB Za7 (Zc (Zd 0) Zk)))) (ZG (mOp neM (ZF ["End"] "una" (Zd 0)) (ZF ["End"] "nxt" (Zd 0))))) ZfA ZK)
def ZaO:SM:=(mIf (ZG (mOp eqM (ZF ["End"] "state" (Zd 0)) (mC (.str "last ack")))) (ZD ["End"] "state" (Zd 0) (mC (.str "closed"))) ZK)
def ZaN:SM:=(mIf (ZG (mOp eqM (ZF ["End"] "state" (Zd 0)) (mC (.str "closing")))) (Zr (ZD ["End"] "state" (Zd 0) (mC (.str "time wait")))
      (ZD ["End"] "since" (Zd 0) (Zd 1))) ZaO)
def ZaM:SM:=(mIf (ZG (mOp eqM (ZF ["End"] "state" (Zd 0)) (mC (.str "wait one")))) (ZD ["End"] "state" (Zd 0) (mC (.str "wait two"))) ZaN)
def zm:SM:=(Zr ze
  ZaM)
def ZQ:GM:=ZN 2 2 zm
def Zd8:SM:=(Zr (ZD ["End"] "wnd" (Zd 0) (mOp ixM (Zd 1) (mC (.int 5))))
  (Zr (ZD ["End"] "told" (Zd 0) (mOp ixM (Zd 1) (mC (.int 2))))
  (ZD ["End"] "told_by" (Zd 0) (mOp ixM (Zd 1) (mC (.int 3))))))
def ZaA:GM:=ZN 2 2 Zd8
def zZ:SM:=(mIf (mOr (ZG (mOp eqM (ZF ["End"] "nxt" (Zd 0)) (ZF ["End"] "first" (Zd 0)))) (ZG (mOp neM (mOp ixM (Zd 1) (mC (.int 3))) (ZF ["End"] "nxt" (Zd 0))))) (Zr (zh (mCB ZX (Zc (Zd 0) (Zc (Zd 1) Zk))))
    (ZJ (mC (.bl false)))) ZK)
def Zat:SM:=(Zr zZ
  (Zr (ZD ["End"] "una" (Zd 0) (mOp ixM (Zd 1) (mC (.int 3))))
  (Zr (ZD ["End"] "state" (Zd 0) (ZfB (zX (ZF ["End"] "has_closed" (Zd 0))) (mC (.str "wait one")) (mC (.str "open"))))
  (Zr (zh (mCB ZaA (Zc (Zd 0) (Zc (Zd 1) Zk))))
  (ZJ (mC (.bl true)))))))
def zn:GM:=ZN 2 2 Zat
def ZeB:SM:=(mIf (ZG (mOp eqM (mOp ixM (Zd 1) (mC (.int 2))) (ZF ["End"] "told" (Zd 0)))) (ZJ (Zms (mCB Zb8 (Zc (ZF ["End"] "told_by" (Zd 0)) (Zc (mOp ixM (Zd 1) (mC (.int 3))) Zk))))) ZK)
def ZfL:SM:=(Zr ZeB
  (ZJ (mCB Zb8 (Zc (mOp ixM (Zd 1) (mC (.int 2))) (Zc (ZF ["End"] "told" (Zd 0)) Zk)))))
def ZcS:GM:=ZN 2 2 ZfL
def Zb1:SM:=(mIf (ZG (mOp neM (ZF ["End"] "una" (Zd 0)) (ZF ["End"] "nxt" (Zd 0)))) (zh (mCB Z6 (Zc (Zd 0) (Zc (Zd 2) Zk)))) ZK)
def Zas:SM:=(mIf (zX (Zd 4)) (Zr (zh (mCB Ze9 (Zc (ZF ["End"] "written" (Zd 0)) (Zc (mCB zD (Zc (Zd 3) (Zc (ZF ["End"] "una" (Zd 0)) Zk))) Zk))))
    (Zr (ZD ["End"] "una" (Zd 0) (Zd 3))
    Zb1)) ZK)
def Zar:SM:=(mIf (zX (mCB Zb8 (Zc (ZF ["End"] "una" (Zd 0)) (Zc (Zd 3) Zk)))) ZfA ZK)
def Za5:SM:=(mIf (mOr (zX (Zd 4)) (zX (mCB ZcS (Zc (Zd 0) (Zc (Zd 1) Zk))))) (zh (mCB ZaA (Zc (Zd 0) (Zc (Zd 1) Zk)))) ZK)
def Za4:SM:=(mIf (mOr (zX (Zd 5)) (ZG (mOp eqM (ZF ["End"] "wnd" (Zd 0)) (mC (.int 0))))) (ZD ["End"] "tries" (Zd 0) (mC (.int 0))) ZK)
def ZaZ:SM:=(Zr (Z9 3 (mOp ixM (Zd 1) (mC (.int 3))))
  (Zr (Z9 4 (mCB Zb8 (Zc (Zd 3) (Zc (ZF ["End"] "una" (Zd 0)) Zk))))
  (Zr Zas
  (Zr Zar
  (Zr (Z9 5 (mOp eqM (ZF ["End"] "wnd" (Zd 0)) (mC (.int 0))))
  (Zr Za5
  Za4))))))
def zN:GM:=ZN 3 6 ZaZ
def zz:SM:=(mIf (ZG (mOp eqM (ZF ["End"] "state" (Zd 0)) (mC (.str "syn come")))) (ZJ (mCB zn (Zc (Zd 0) (Zc (Zd 1) Zk)))) ZK)
def z0:SM:=(mIf (zX (mCB Zb8 (Zc (mOp ixM (Zd 1) (mC (.int 3))) (Zc (ZF ["End"] "nxt" (Zd 0)) Zk)))) (Zr (ZD ["End"] "owes_answer" (Zd 0) (mC (.bl true)))
    (ZJ (mC (.bl false)))) ZK)
def zH:SM:=(Zr zz
  (Zr z0
  (Zr (zh (mCB zN (Zc (Zd 0) (Zc (Zd 1) (Zc (Zd 2) Zk)))))
  (Zr (zh (mCB ZQ (Zc (Zd 0) (Zc (Zd 2) Zk))))
  (ZJ (mOp neM (ZF ["End"] "state" (Zd 0)) (mC (.str "closed"))))))))
def ZY:GM:=ZN 3 3 zH
def Zcg:SM:=(mIf (ZG (mOp eqM (ZF ["End"] "state" (Zd 0)) (mC (.str "time wait")))) ZfA ZK)
def Zcf:SM:=(mIf (ZG (mOp eqM (mOp ixM (Zd 1) (mC (.int 2))) (ZF ["End"] "rcv" (Zd 0)))) (Zr (ZD ["End"] "state" (Zd 0) (mC (.str "closed")))
    (ZD ["End"] "error" (Zd 0) (mC (.str "reset")))) (ZD ["End"] "owes_answer" (Zd 0) (mC (.bl true))))
def ZcZ:SM:=(Zr Zcg
  Zcf)
def Zbe:GM:=ZN 2 2 ZcZ
def Zbp:SM:=(Zcu (Zho (ZG (mOp neM (ZF ["End"] "rcv" (Zd 0)) (ZF ["End"] "early_fin" (Zd 0)))) (ZG (ZpS (ZF ["End"] "rcv" (Zd 0)) (ZF ["End"] "early" (Zd 0))))) (Zr (ZdQ 1 (Zmt (ZF ["End"] "early" (Zd 0)) (ZF ["End"] "rcv" (Zd 0))))
    (ZD ["End"] "rcv" (Zd 0) (mCB zC (Zc (ZF ["End"] "rcv" (Zd 0)) (Zc (mC (.int 1)) Zk))))) 200)
def Zdb:SM:=(Zr (ZgW 1 Zk)
  (Zr Zbp
  (ZdO 1 (zh (mCB ZkK (Zc (ZF ["End"] "come" (Zd 0)) (Zc (Zd 1) Zk)))))))
def ZaW:GM:=ZN 1 2 Zdb
def ZeD:SM:=(mIf (ZG (mOp eqM (ZF ["End"] "state" (Zd 0)) (mC (.str "wait one")))) (ZD ["End"] "state" (Zd 0) (mC (.str "closing"))) (Zr (ZD ["End"] "state" (Zd 0) (mC (.str "time wait")))
      (ZD ["End"] "since" (Zd 0) (Zd 1))))
def Zc0:SM:=(mIf (ZG (mOp eqM (ZF ["End"] "state" (Zd 0)) (mC (.str "open")))) (ZD ["End"] "state" (Zd 0) (mC (.str "close wait"))) ZeD)
def ZdY:SM:=(Zr (ZD ["End"] "rcv" (Zd 0) (mCB zC (Zc (ZF ["End"] "rcv" (Zd 0)) (Zc (mC (.int 1)) Zk))))
  Zc0)
def Zcb:GM:=ZN 2 2 ZdY
def ZaY:SM:=(mIf (zX (mCB zk (Zc (Zd 0) (Zc (Zd 4) Zk)))) (zh (ZlG (ZF ["End"] "early" (Zd 0)) (Zd 4) (Zd 3))) ZK)
def ZcA:SM:=(ZpR (Zc (mOp ixM (Zd 1) (mC (.int 7))) Zk) 2 3 (Zr (Z9 4 (mCB zC (Zc (mOp ixM (Zd 1) (mC (.int 2))) (Zc (Zd 2) Zk))))
    ZaY))
def Zcz:SM:=(mIf (ZG (mOp gtM (mCB ZdR (Zc (mOp ixM (Zd 1) (mC (.int 7))) Zk)) (mC (.int 0)))) (ZD ["End"] "owes_answer" (Zd 0) (mC (.bl true))) ZK)
def Zdj:SM:=(Zr ZcA
  Zcz)
def ZbF:GM:=ZN 2 5 Zdj
def ZcY:SM:=(mIf (ZdN (zX (mCB Z2 (Zc (Zd 1) (Zc (mC (.int 1)) Zk))))) ZfA ZK)
def ZaK:SM:=(mIf (Zho (ZG (mOp isM (ZF ["End"] "early_fin" (Zd 0)) (mC .non))) (zX (mCB zk (Zc (Zd 0) (Zc (Zd 2) Zk))))) (ZD ["End"] "early_fin" (Zd 0) (Zd 2)) ZK)
def ZdX:SM:=(Zr ZcY
  (Zr (ZD ["End"] "owes_answer" (Zd 0) (mC (.bl true)))
  (Zr (Z9 2 (mCB zC (Zc (mOp ixM (Zd 1) (mC (.int 2))) (Zc (mCB ZdR (Zc (mOp ixM (Zd 1) (mC (.int 7))) Zk)) Zk))))
  ZaK)))
def Zca:GM:=ZN 2 3 ZdX
def Za3:SM:=(mIf (ZG (mOp ZcV (ZF ["End"] "state" (Zd 0)) (Zaa (Zc (mC (.str "open")) (Zc (mC (.str "wait one")) (Zc (mC (.str "wait two")) Zk)))))) ZfA ZK)
def Zb0:SM:=(mIf (ZG (mOp eqM (ZF ["End"] "rcv" (Zd 0)) (ZF ["End"] "early_fin" (Zd 0)))) (zh (mCB Zcb (Zc (Zd 0) (Zc (Zd 2) Zk)))) ZK)
def Zby:SM:=(Zr Za3
  (Zr (zh (mCB ZbF (Zc (Zd 0) (Zc (Zd 1) Zk))))
  (Zr (zh (mCB Zca (Zc (Zd 0) (Zc (Zd 1) Zk))))
  (Zr (zh (mCB ZaW (Zc (Zd 0) Zk)))
  Zb0))))
def ZaB:GM:=ZN 3 3 Zby
def Zbx:SM:=(mIf (zX (mCB Z2 (Zc (Zd 1) (Zc (mC (.int 4)) Zk)))) ZfA ZK)
def Zcx:SM:=(mIf (Zho (ZG (mOp eqM (ZF ["End"] "state" (Zd 0)) (mC (.str "syn come")))) (Zho (zX (mCB Z2 (Zc (Zd 1) (Zc (mC (.int 2)) Zk)))) (ZdN (zX (mCB Z2 (Zc (Zd 1) (Zc (mC (.int 16)) Zk))))))) (ZD ["End"] "owes_syn" (Zd 0) (mC (.bl true))) (ZD ["End"] "owes_answer" (Zd 0) (mC (.bl true))))
def Zcw:SM:=(mIf (ZG (mOp eqM (ZF ["End"] "state" (Zd 0)) (mC (.str "time wait")))) (ZD ["End"] "since" (Zd 0) (Zd 2)) ZK)
def Zcj:SM:=(Zr Zbx
  (Zr Zcx
  Zcw))
def Za6:GM:=ZN 3 3 Zcj
def Zaw:SM:=(mIf (Zho (zX (mCB Z2 (Zc (Zd 1) (Zc (mC (.int 16)) Zk)))) (zX (mCB ZY (Zc (Zd 0) (Zc (Zd 1) (Zc (Zd 2) Zk)))))) (zh (mCB ZaB (Zc (Zd 0) (Zc (Zd 1) (Zc (Zd 2) Zk))))) ZK)
def zT:SM:=(mIf (zX (mCB Z2 (Zc (Zd 1) (Zc (mC (.int 2)) Zk)))) (ZD ["End"] "owes_answer" (Zd 0) (mC (.bl true))) Zaw)
def zx:SM:=(mIf (zX (mCB Z2 (Zc (Zd 1) (Zc (mC (.int 4)) Zk)))) (zh (mCB Zbe (Zc (Zd 0) (Zc (Zd 1) Zk)))) zT)
def zd:SM:=(mIf (ZdN (zX (mCB Zf0 (Zc (Zd 0) (Zc (Zd 1) Zk))))) (zh (mCB Za6 (Zc (Zd 0) (Zc (Zd 1) (Zc (Zd 2) Zk))))) zx)
def zu:SM:=zd
def Z8:GM:=ZN 3 3 zu
def ZhH:SM:=(ZJ (Zbu (mOp eqM (mOp ixM (Zd 1) (mC (.int 1))) (ZF ["End"] "ours" (Zd 0))) (Zm5 (mOp inM (ZF ["End"] "state" (Zd 0)) (Zaa (Zc (mC (.str "closed")) (Zc (mC (.str "listen")) Zk)))) (mOp eqM (mOp ixM (Zd 1) (mC (.int 0))) (ZF ["End"] "theirs" (Zd 0))))))
def Zel:GM:=ZN 2 2 ZhH
def Zb5:SM:=(mIf (ZdN (zX (mCB Zad (Zc (Zd 1) Zk)))) (ZJ (mC (.bl false))) ZK)
def Zb4:SM:=(mIf (ZdN (zX (mCB Zel (Zc (Zd 0) (Zc (Zd 3) Zk))))) (ZJ (mC (.bl false))) ZK)
def ZdZ:SM:=(mIf (ZG (mOp eqM (ZF ["End"] "state" (Zd 0)) (mC (.str "syn sent")))) (zh (mCB ZR (Zc (Zd 0) (Zc (Zd 3) (Zc (Zd 2) Zk))))) (zh (mCB Z8 (Zc (Zd 0) (Zc (Zd 3) (Zc (Zd 2) Zk))))))
def ZcJ:SM:=(mIf (ZG (mOp eqM (ZF ["End"] "state" (Zd 0)) (mC (.str "listen")))) (zh (mCB zw (Zc (Zd 0) (Zc (Zd 3) Zk)))) ZdZ)
def Zb3:SM:=(mIf (ZG (mOp eqM (ZF ["End"] "state" (Zd 0)) (mC (.str "closed")))) (zh (mCB ZaF (Zc (Zd 0) (Zc (Zd 3) Zk)))) ZcJ)
def Zc2:SM:=(Zr Zb5
  (Zr (Z9 3 (mCB Zif (Zc (Zd 1) Zk)))
  (Zr Zb4
  (Zr Zb3
  (ZJ (mC (.bl true)))))))
def zg:GM:=ZN 3 4 Zc2
def Zll:SM:=(ZJ (mOp Zba (mOp ZV (Zd 0) (Zd 1)) (mC (.int 4294967296))))
def ZbT:GM:=ZN 2 2 Zll
def ZgH:SM:=(mIf (ZG (mOp eqM (mOp Zba (Zd 0) (mC (.int 2))) (mC (.int 0)))) (ZJ (mOp Zba (mOp ZfW (mC (.int 4294967296)) (mOp Zba (mOp Zfe (Zd 0) (mC (.int 2))) (mC (.int 90)))) (mC (.int 4294967296)))) ZK)
def ZiG:SM:=(Zr ZgH
  (ZJ (Zd 0)))
def ZeR:GM:=ZN 1 1 ZiG
def ZgG:SM:=(ZJ (Zaa (Zc (mOp ixM (Zd 0) (mC (.int 1))) (Zc (mOp ixM (Zd 0) (mC (.int 0))) (Zc (Zd 1) (Zc (Zd 2) (Zc (Zd 3) (Zc (Zd 4) (Zc (mC (.int 0)) (Zc (mCB Ze6 (Zc (Zd 5) Zk)) Zk))))))))))
def Zdr:GM:=ZN 6 6 ZgG
def ZeG:SM:=(mIf (zX (ZF ["End"] "has_closed" (Zd 0))) (ZJ (mC (.bl false))) ZK)
def ZgD:SM:=(mIf (ZG (mOp inM (ZF ["End"] "state" (Zd 0)) (Zaa (Zc (mC (.str "listen")) (Zc (mC (.str "syn sent")) Zk))))) (Zr (ZD ["End"] "state" (Zd 0) (mC (.str "closed")))
    (ZJ (mC (.bl true)))) ZK)
def ZgC:SM:=(mIf (ZG (mOp ZcV (ZF ["End"] "state" (Zd 0)) (Zaa (Zc (mC (.str "syn come")) (Zc (mC (.str "open")) (Zc (mC (.str "close wait")) Zk)))))) (ZJ (mC (.bl false))) ZK)
def ZgB:SM:=(mIf (ZG (mOp eqM (ZF ["End"] "state" (Zd 0)) (mC (.str "close wait")))) (ZD ["End"] "state" (Zd 0) (mC (.str "last ack"))) ZK)
def ZgA:SM:=(mIf (ZG (mOp eqM (ZF ["End"] "state" (Zd 0)) (mC (.str "open")))) (ZD ["End"] "state" (Zd 0) (mC (.str "wait one"))) ZgB)
def Zgg:SM:=(Zr ZeG
  (Zr ZgD
  (Zr ZgC
  (Zr (ZD ["End"] "has_closed" (Zd 0) (mC (.bl true)))
  (Zr ZgA
  (ZJ (mC (.bl true))))))))
def Zc5:GM:=ZN 1 1 Zgg
def Zlm:SM:=(ZJ (Zbu (mCB Zgu (Zc (Zd 0) (Zc (mC (.ty "int")) Zk))) (Zbu (Zms (mCB Zgu (Zc (Zd 0) (Zc (mC (.ty "bool")) Zk)))) (ZdP leM leM (mC (.int 0)) (Zd 0) (mC (.int 255))))))
def Zf8:GM:=ZN 1 1 Zlm
def b_l_read_1:SM:=(mIf (mOr (ZdN (zX (mCB Zgu (Zc (Zd 0) (Zc (mC (.ty "list")) Zk))))) (ZG (mOp ltM (mCB ZdR (Zc (Zd 0) Zk)) (mC (.int 20))))) (ZJ (mC .non)) ZK)
def b_l_read_2:SM:=(mIf (ZdN (zX (mCB Zqz (Zc (ZfC (mIn (Zd 0)) [] (mCB Zf8 (Zc (Zd 0) Zk))) Zk)))) (ZJ (mC .non)) ZK)
def b_l_read_3:SM:=(mIf (mOr (ZG (mOp ZcV (mOp ixM (Zd 0) (mC (.int 12))) (Zaa (Zc (mC (.int 80)) (Zc (mC (.int 96)) Zk))))) (mOr (ZG (mOp gtM (mOp ixM (Zd 0) (mC (.int 13))) (mC (.int 31)))) (ZG (mOp gtM (mOp ZV (mOp ixM (Zd 0) (mC (.int 18))) (mOp ixM (Zd 0) (mC (.int 19)))) (mC (.int 0)))))) (ZJ (mC .non)) ZK)
def b_l_read_4:SM:=(mIf (mOr (ZdN (ZG (ZdP leM leM (Zd 1) (mCB ZdR (Zc (Zd 0) Zk)) (mOp ZV (Zd 1) (mC (.int 16)))))) (ZG (mOp neM (mCB Zcq (Zc (Zd 0) Zk)) (mC (.int 65535))))) (ZJ (mC .non)) ZK)
def ZhL:SM:=(mIf (mOr (ZG (mOp eqM (mOp Zba (mOp Zfe (mOp ixM (Zd 0) (mC (.int 13))) (mC (.int 2))) (mC (.int 2))) (mC (.int 0)))) (mOr (ZG (mOp neM (mSl (Zd 0) (Zbt (mC (.int 20))) (Zbt (mC (.int 22)))) (ZaC (Zc (mC (.int 2)) (Zc (mC (.int 4)) Zk))))) (ZG (mOp ltM (Zd 2) (mC (.int 4)))))) (ZJ (mC .non)) ZK)
def b_l_read_6:SM:=(mIf (ZG (mOp eqM (Zd 1) (mC (.int 24)))) (Zr (Z9 2 (mOp ZV (mOp ZcW (mOp ixM (Zd 0) (mC (.int 22))) (mC (.int 256))) (mOp ixM (Zd 0) (mC (.int 23)))))
    ZhL) ZK)
def Zlk:SM:=(Zr b_l_read_1
  (Zr b_l_read_2
  (Zr (Z9 1 (mOp Zfe (mOp ixM (Zd 0) (mC (.int 12))) (mC (.int 4))))
  (Zr b_l_read_3
  (Zr b_l_read_4
  (Zr (Z9 2 (mC (.int 0)))
  (Zr b_l_read_6
  (Zr (Z9 3 (ZfC (Zd3 (Zc (mC (.int 8)) Zk)) [0] (mOp ZV (mOp ZcW (mC (.int 256)) (mOp ixM (Zd 1) (mOp ZcW (mC (.int 2)) (Zd 0)))) (mOp ixM (Zd 1) (mOp ZV (mOp ZcW (mC (.int 2)) (Zd 0)) (mC (.int 1)))))))
  (Zr (Z9 4 (Zaa (Zc (mOp ixM (Zd 3) (mC (.int 0))) (Zc (mOp ixM (Zd 3) (mC (.int 1))) (Zc (mOp ZV (mOp ZcW (mOp ixM (Zd 3) (mC (.int 2))) (mC (.int 65536))) (mOp ixM (Zd 3) (mC (.int 3)))) (Zc (mOp ZV (mOp ZcW (mOp ixM (Zd 3) (mC (.int 4))) (mC (.int 65536))) (mOp ixM (Zd 3) (mC (.int 5)))) Zk))))))
  (ZJ (mOp ZV (Zd 4) (Zaa (Zc (mOp ixM (Zd 0) (mC (.int 13))) (Zc (mOp ixM (Zd 3) (mC (.int 7))) (Zc (Zd 2) (Zc (mCB Ze6 (Zc (mSl (Zd 0) (Zbt (Zd 1)) ZaV) Zk)) Zk))))))))))))))))
def Zf6:GM:=ZN 1 5 Zlk
def Zde:SM:=(mIf (ZG (mOp eqM (Zd 4) (ZaC Zk))) (ZdO 2 (ZJ (Zd 2))) ZK)
def ZeH:SM:=(Zf4 (Zd3 (Zc (mC (.int 40)) Zk)) (gNm 3) (Zr (Z9 4 (mCB ZbR (Zc (Zd 0) (Zc (Zd 1) Zk))))
    (Zr Zde
    (ZdQ 2 (mCB Zf6 (Zc (Zd 4) Zk))))))
def ZiF:SM:=(Zr (ZgW 2 Zk)
  (Zr ZeH
  (ZdO 2 (ZJ (Zd 2)))))
def ZbU:GM:=ZN 2 5 ZiF
def ZhM:SM:=(Zr (Z9 4 (Zaa (Zc (mOp Zba (mCB ZbH (Zc (Zd 0) (Zc (Zd 1) Zk))) (mC (.int 65536))) (Zc (mOp Zba (mCB ZbH (Zc (Zd 0) (Zc (mOp ZV (Zd 1) (mC (.int 1))) Zk))) (mC (.int 65536))) Zk))))
  (Zr (Z9 5 (mCB ZeR (Zc (mCB ZbH (Zc (Zd 0) (Zc (mOp ZV (Zd 1) (mC (.int 2))) Zk))) Zk)))
  (Zr (Z9 6 (mCB ZeR (Zc (mCB ZbH (Zc (Zd 0) (Zc (mOp ZV (Zd 1) (mC (.int 3))) Zk))) Zk)))
  (Zr (Z9 7 (mCB Zek (Zc (mOp ixM (Zd 4) (mC (.int 0))) (Zc (mC (.int 7)) (Zc (Zd 5) (Zc (mC (.bl false)) Zk))))))
  (Zr (zh (mCB zg (Zc (Zd 7) (Zc (mCB ZcH (Zc (Zaa (Zc (mOp ixM (Zd 4) (mC (.int 1))) (Zc (mOp ixM (Zd 4) (mC (.int 0))) (Zc (Zd 6) (Zc (mC (.int 0)) (Zc (mC (.int 2)) (Zc (Zd 2) (Zc (Zd 3) (Zc (Zaa Zk) Zk))))))))) Zk)) (Zc (mC (.int 0)) Zk)))))
  (Zr (zh (mCB ZbR (Zc (Zd 7) (Zc (mC (.int 0)) Zk))))
  (Zr (zh (mCB zg (Zc (Zd 7) (Zc (mCB ZcH (Zc (Zaa (Zc (mOp ixM (Zd 4) (mC (.int 1))) (Zc (mOp ixM (Zd 4) (mC (.int 0))) (Zc (mCB ZbT (Zc (Zd 6) (Zc (mC (.int 1)) Zk))) (Zc (mCB ZbT (Zc (Zd 5) (Zc (mC (.int 1)) Zk))) (Zc (mC (.int 16)) (Zc (Zd 2) (Zc (mC (.int 0)) (Zc (Zaa Zk) Zk))))))))) Zk)) (Zc (mC (.int 0)) Zk)))))
  (ZJ (Zaa (Zc (Zd 7) (Zc (Zd 4) (Zc (mCB ZbT (Zc (Zd 5) (Zc (mC (.int 1)) Zk))) (Zc (mCB ZbT (Zc (Zd 6) (Zc (mC (.int 1)) Zk))) Zk)))))))))))))
def Zds:GM:=ZN 4 8 ZhM
def ZgF:SM:=(mIf (ZG (mOp eqM (ZF ["End"] "state" (Zd 0)) (mC (.str "closed")))) (ZJ (mC (.bl false))) ZK)
def ZgE:SM:=(mIf (ZG (mOp ZcV (ZF ["End"] "state" (Zd 0)) (Zaa (Zc (mC (.str "listen")) (Zc (mC (.str "syn sent")) (Zc (mC (.str "time wait")) Zk)))))) (ZD ["End"] "owed_reset" (Zd 0) (Zaa (Zc (ZF ["End"] "ours" (Zd 0)) (Zc (ZF ["End"] "theirs" (Zd 0)) (Zc (ZF ["End"] "nxt" (Zd 0)) (Zc (mC (.int 0)) (Zc (mC (.int 4)) (Zc (mC (.int 0)) (Zc (mC (.int 0)) (Zc (Zaa Zk) Zk)))))))))) ZK)
def ZiC:SM:=(Zr ZgF
  (Zr ZgE
  (Zr (ZD ["End"] "state" (Zd 0) (mC (.str "closed")))
  (ZJ (mC (.bl true))))))
def Zfu:GM:=ZN 1 1 ZiC
end
end My
namespace My
open PySem L2 L2.MM
noncomputable section
def bears (s:Seg) (f:Int):Bool:=decide (bit s.flags f=1)
def ZlH (s:Seg):Int:=s.data.length+bit s.flags 2+bit s.flags 1
def Zfo (s:Seg):Seg:=if bears s 16=true then ⟨s.goal,s.src,s.ans,0,4,0,0,[]⟩ else ⟨s.goal,s.src,0,Zy s.num (ZlH s),20,0,0,[]⟩
def Za8 (e:Zt) (s:Seg):Zt:=if bears s 4=true then e else { e with owed_reset:=some (Zfo s) }
def hearSyn (e:Zt) (s:Seg):Zt:={ e with rcv:=Zy s.num 1,wnd:=s.win,told:=s.num,told_by:=if bears s 16=true then s.ans else 0,most:=if s.most=0 then e.most else s.most }
def Zbd (e:Zt) (s:Seg):Zt:=
  if bears s 4=true then e
  else if bears s 16=true then Za8 e s
  else if bears s 2=true then { hearSyn { e with theirs:=s.src } s with state:=.synCome }
  else e
def Zd1 (e:Zt) (s:Seg):Bool:=!decide (e.nxt=e.first) && decide (s.ans=Zy e.first 1)
def z9 (e:Zt) (s:Seg) (now:Int):Zt:=
  if bears s 16=true∧Zd1 e s=false then Za8 e s
  else if bears s 4=true then (if bears s 16=true then { e with state:=.closed,error:=.refused } else e)
  else if bears s 2=true then
    (if bears s 16=true then { hearSyn e s with una:=s.ans,state:=.opn,owes_answer:=true }
     else { startTimer { hearSyn e s with state:=.synCome } now with owes_syn:=true })
  else e
def Zd5 (e:Zt) (s:Seg):Bool:=decide (s.goal=e.ours) && (decide (e.state∈[State.closed,.listen]) || decide (s.src=e.theirs))
def Zev (e:Zt):Bool×Zt:=
  if e.has_closed=true then (false,e)
  else if e.state=.listen∨e.state=.synSent then (true,{ e with state:=.closed })
  else if e.state=.opn then (true,{ e with has_closed:=true,state:=.waitOne })
  else if e.state=.closeWait then (true,{ e with has_closed:=true,state:=.lastAck })
  else if e.state=.synCome then (true,{ e with has_closed:=true })
  else (false,e)
def ZhQ (e:Zt):Bool×Zt:=
  if e.state=.closed then (false,e)
  else if e.state=.listen∨e.state=.synSent∨e.state=.timeWait then (true,{ e with state:=.closed })
  else (true,{ e with owed_reset:=some ⟨e.ours,e.theirs,e.nxt,0,4,0,0,[]⟩,state:=.closed })
section
variable {θ:Sto} {l:Nat} {e:Zt} {s:Seg} {now f:Int}
@[simp] theorem Zv4:Z2 [s.d,.int f] θ=.ok (.bl (bears s f)) θ:=by
  simp [Z2,ZiB,bears]
theorem ZfT:Zcn [s.d] θ=.ok (.int (ZlH s)) θ:=ZoY s θ
@[simp] theorem Zsb:ZbE [s.d] θ=.ok (Zfo s).d θ:=by
  by_cases c:bears s 16=true
  · simp [ZbE,Zdg,Zcy,c,Zfo,Zhg]
  · simp [ZbE,Zdg,Zcy,c,Zfo,Zhg,ZfT]
@[simp] theorem Zsc (h:l+3 < θ.length):ZX [.ref l,s.d] (upE θ l e)=.ok .non (upE θ l (Za8 e s)):=by
  by_cases c:bears s 4=true
  · simp [ZX,ZbY,Zbn,h,c,Za8]
  · simp [ZX,ZbY,Zbn,h,c,Za8]
@[simp] theorem ZmQ (h:l+3 < θ.length):ZaF [.ref l,s.d] (upE θ l e)=.ok .non (upE θ l (Za8 e s)):=by
  simp [ZaF,Zc1,h]
@[simp] theorem ZsV (h:l+3 < θ.length):ZbA [.ref l,s.d] (upE θ l e)=.ok .non (upE θ l (hearSyn e s)):=by
  by_cases c:bears s 16=true<;>by_cases c2:s.most=0<;>simp [ZbA,ZfM,ZeC,h,c,c2,hearSyn]
@[simp] theorem ZmP (h:l+3 < θ.length):zw [.ref l,s.d] (upE θ l e)=.ok .non (upE θ l (Zbd e s)):=by
  by_cases c:bears s 4=true
  · simp [zw,Zai,zU,h,c,Zbd]
  · by_cases c1:bears s 16=true
    · simp [zw,Zai,zU,Zay,Zax,h,c,c1,Zbd]
    · by_cases c2:bears s 2=true
      · simp [zw,Zai,zU,Zay,Zax,h,c,c1,c2,Zbd]
      · simp [zw,Zai,zU,Zay,Zax,h,c,c1,c2,Zbd]
@[simp] theorem ZqH (h:l+3 < θ.length):Zbs [.ref l,s.d] (upE θ l e)=.ok (.bl (Zd1 e s)) (upE θ l e):=by
  by_cases c:e.nxt=e.first<;>simp [Zbs,Zeb,h,Zd1,c]
@[simp] theorem Zlt (h:l+3 < θ.length):ZR [.ref l,s.d,.int now] (upE θ l e)=.ok .non (upE θ l (z9 e s now)):=by
  by_cases c:bears s 16=true
  · by_cases c1:Zd1 e s=true
    · by_cases c2:bears s 4=true
      · simp [ZR,Z1,ZU,Z3,Zej,Zfg,ZdV,h,c,c1,c2,z9]
      · by_cases c3:bears s 2=true
        · simp [ZR,Z1,ZU,Z3,zF,zJ,ZaL,Zaj,h,c,c1,c2,c3,z9]
        · simp [ZR,Z1,ZU,Z3,zF,h,c,c1,c2,c3,z9]
    · simp [ZR,Z1,ZU,h,c,c1,z9]
  · by_cases c2:bears s 4=true
    · simp [ZR,Z1,ZU,Z3,Zej,Zfg,ZdV,h,c,c2,z9]
    · by_cases c3:bears s 2=true
      · simp [ZR,Z1,ZU,Z3,zF,zJ,ZaL,Zaj,h,c,c2,c3,z9]
      · simp [ZR,Z1,ZU,Z3,zF,h,c,c2,c3,z9]
@[simp] theorem ZuM (h:l+3 < θ.length):Zel [.ref l,s.d] (upE θ l e)=.ok (.bl (Zd5 e s)) (upE θ l e):=by
  simp [Zel,ZhH,h,Zd5]
theorem Zl0 (h:l+3 < θ.length):Zc5 [.ref l] (upE θ l e)=.ok (.bl (Zev e).1) (upE θ l (Zev e).2):=by
  by_cases c:e.has_closed=true
  · simp [Zc5,Zgg,ZeG,h,c,Zev]
  · cases s:e.state<;>simp [Zc5,Zgg,ZeG,ZgD,ZgC,ZgB,ZgA,h,c,Zev,s]
theorem ZqY (h:l+3 < θ.length):Zfu [.ref l] (upE θ l e)=.ok (.bl (ZhQ e).1) (upE θ l (ZhQ e).2):=by
  cases s:e.state<;>simp [Zfu,ZiC,ZgF,ZgE,h,ZhQ,s,Zhg]
theorem ZgO (h:l+3 < θ.length) {r:List Int} (hb:Byt r) (hr:Zan r=true) (hf:Zd5 e (Zbm r)=true) (hs:e.state=.closed):zg [.ref l,il r,.int now] (upE θ l e)=.ok (.bl true) (upE θ l (Za8 e (Zbm r))):=by
  simp [zg,Zc2,Zb5,Zb4,Zb3,ZcO hb,hr,ZlY hb hr,h,hf,hs]
theorem ZgN (h:l+3 < θ.length) {r:List Int} (hb:Byt r) (hr:Zan r=true) (hf:Zd5 e (Zbm r)=true) (hs:e.state=.listen):zg [.ref l,il r,.int now] (upE θ l e)=.ok (.bl true) (upE θ l (Zbd e (Zbm r))):=by
  simp [zg,Zc2,Zb5,Zb4,Zb3,ZcJ,ZcO hb,hr,ZlY hb hr,h,hf,hs]
theorem ZfV (h:l+3 < θ.length) {r:List Int} (hb:Byt r) (hr:Zan r=true) (hf:Zd5 e (Zbm r)=true) (hs:e.state=.synSent):zg [.ref l,il r,.int now] (upE θ l e)=.ok (.bl true) (upE θ l (z9 e (Zbm r) now)):=by
  simp [zg,Zc2,Zb5,Zb4,Zb3,ZcJ,ZdZ,ZcO hb,hr,ZlY hb hr,h,hf,hs]
@[simp] theorem Zv2 {n k:Int}:ZbT [.int n,.int k] θ=.ok (.int (Zy n k)) θ:=by simp [ZbT,Zll,Zy]
def Zbi (n:Int):Int:=if n % 2=0 then (4294967296-n/2 % 90) % 4294967296 else n
@[simp] theorem ZuL {n:Int}:ZeR [.int n] θ=.ok (.int (Zbi n)) θ:=by
  by_cases c:n % 2=0<;>simp [ZeR,ZiG,ZgH,Zbi,c]
end
end
end My
namespace My
open PySem L2 L2.MM
noncomputable section
section
variable {θ:Sto} {ρ:List Sl} {fi fo fe ff:EM} {fa:AM} {i j k:Nat} {b:SM} {x:D} {r:List D}
theorem nr' {p:Prop} (h:p):p:=h
@[simp] theorem ZzF:ZpS fi fo ρ θ=(fi ρ θ).bind fun y θ=>(fo ρ θ).bind fun d θ=>match ZkY y,Zgc θ d with
  | some k,some (_,kvs)=>.ok (.bl (valD kvs k).isSome) θ
  | _,_=>.bad:=nr' rfl
@[simp] theorem Zyp:Zmt fo fe ρ θ=(fo ρ θ).bind fun d θ=>match Zgc θ d with
  | none=>.bad
  | some _=>(fe ρ θ).bind fun y θ=>match ZkY y,Zgc θ d with
    | some k,some (l,kvs)=>match valD kvs k with
      | some v=>.ok v (θ.set l (.dK (dropD kvs k)))
      | none=>.bad
    | _,_=>.bad:=nr' rfl
@[simp] theorem ZvW:ZlG fo fe ff ρ θ=(fo ρ θ).bind fun d θ=>match Zgc θ d with
  | none=>.bad
  | some _=>(fe ρ θ).bind fun y θ=>(ff ρ θ).bind fun z θ=>match ZkY y,Zgc θ d with
    | some k,some (l,kvs)=>if kvs.length<BIG then (match valD kvs k with
      | some v=>.ok v θ
      | none=>.ok z (θ.set l (.dK (putD kvs k z)))) else .bad
    | _,_=>.bad:=nr' rfl
@[simp] theorem Zym {n:Int}:ZkY (.int n)=some (.inl n):=nr' rfl
end
abbrev EL:=List (Int×Int)
def atE (m:EL) (n:Int):Option Int:=(m.find? fun p=>decide (p.1=n)).map (·.2)
def Zc9 (m:EL) (n:Int):EL:=m.filter fun p=>decide (p.1≠n)
def Zgr (m:EL) (n b:Int):EL:=match atE m n with | some _=>m | none=>m++[(n,b)]
abbrev ed (p:Int×Int):Key×D:=(Sum.inl p.1,D.int p.2)
theorem Zfl (n:Int):∀m:EL,valD (m.map ed) (.inl n)=(atE m n).map D.int
  | []=>rfl
  | p::r=>by
    have ih:=Zfl n r
    unfold valD atE at ih ⊢
    by_cases e:p.1=n
    · simp [ed,e]
    · simpa [ed,e] using ih
theorem Zk8 (n:Int):∀m:EL,dropD (m.map ed) (.inl n)=(Zc9 m n).map ed
  | []=>rfl
  | p::r=>by
    have ih:=Zk8 n r
    unfold dropD Zc9 at ih ⊢
    by_cases e:p.1=n
    · simpa [ed,e] using ih
    · simpa [ed,e] using ih
theorem Zqx (n:Int):∀m:EL,((m.map ed).any fun kv=>decide (kv.1=Sum.inl n))=(atE m n).isSome
  | []=>rfl
  | p::r=>by
    have ih:=Zqx n r
    unfold atE at ih ⊢
    by_cases e:p.1=n
    · simp [ed,e]
    · simpa [ed,e] using ih
theorem Zra (n b:Int) (m:EL) (h:atE m n=none):putD (m.map ed) (.inl n) (.int b)=(m++[(n,b)]).map ed:=by
  unfold putD
  rw [Zqx,h]
  simp [ed]
section
variable {θ:Sto} {l:Nat} {e:Zt} {s:Seg} {now:Int}
theorem dk3 (h:l+3 < θ.length):Zgc (upE θ l e) (.ref (l+3))=some (l+3,e.early.map ed):=by
  have:(upE θ l e)[l+3]?=some (c3 e):=by
    unfold upE
    rw [List.getElem?_set_self (by simpa using h)]
  show (match (upE θ l e)[l+3]? with | some (Cell.dK kvs)=>some (l+3,kvs) | _=>none)=_
  rw [this]
  rfl
theorem ZuV (h:l+3 < θ.length) (m:EL):(upE θ l e).set (l+3) (.dK (m.map ed))=upE θ l { e with early:=m }:=by
  unfold upE
  rw [List.set_set]
  rfl
end
def inWin (e:Zt) (n:Int):Bool:=decide (0≤ZW n e.rcv) && decide (ZW n e.rcv<ZS e)
def ZcX (e:Zt) (s:Seg):Bool:=if ZlH s=0 then decide (0≤ZW s.num e.rcv) && decide (ZW s.num e.rcv≤64) else inWin e s.num || inWin e (Zy s.num (ZlH s-1))
def ZcN (e:Zt) (s:Seg) (now:Int):Zt:=
  if bears s 4=true then e
  else if e.state=.timeWait then { e with owes_answer:=true,since:=now }
  else if e.state=.synCome∧bears s 2=true∧bears s 16=false then { e with owes_syn:=true }
  else { e with owes_answer:=true }
def ZeT (e:Zt) (s:Seg):Zt:=if e.state=.timeWait then e else if s.num=e.rcv then { e with state:=.closed,error:=.reset } else { e with owes_answer:=true }
def ZbQ (a b:Int):Bool:=decide (0<ZW a b)
def Zci (e:Zt) (s:Seg):Zt:={ e with wnd:=s.win,told:=s.num,told_by:=s.ans }
def Zaz (e:Zt) (s:Seg):Bool×Zt:=
  if e.nxt=e.first∨¬s.ans=e.nxt then (false,Za8 e s)
  else (true,Zci { e with una:=s.ans,state:=if e.has_closed=true then .waitOne else .opn } s)
def isNewer (e:Zt) (s:Seg):Bool:=if s.num=e.told then !ZbQ e.told_by s.ans else ZbQ s.num e.told
def Zbv (e:Zt) (s:Seg) (now:Int):Zt:=
  if ZbQ s.ans e.una=true then
    (if s.ans=e.nxt then { e with written:=e.written.drop (ZW s.ans e.una).toNat,una:=s.ans } else startTimer { e with written:=e.written.drop (ZW s.ans e.una).toNat,una:=s.ans } now)
  else e
def zE (e:Zt) (s:Seg) (now:Int):Zt:=
  let e1:=Zbv e s now
  if ZbQ e1.una s.ans=true then e1
  else
    let e2:=if (ZbQ s.ans e.una || isNewer e1 s)=true then Zci e1 s else e1
    if e1.wnd=0∨e2.wnd=0 then { e2 with tries:=0 } else e2
def Zc4 (e:Zt):Bool:=ZbQ e.nxt e.behind
def Zap (e:Zt) (now:Int):Zt:=
  if Zc4 e=false∨¬e.una=e.nxt then e
  else if e.state=.waitOne then { e with state:=.waitTwo }
  else if e.state=.closing then { e with state:=.timeWait,since:=now }
  else if e.state=.lastAck then { e with state:=.closed }
  else e
def Zag (e:Zt) (s:Seg) (now:Int):Bool×Zt:=
  if e.state=.synCome then Zaz e s
  else if ZbQ s.ans e.nxt=true then (false,{ e with owes_answer:=true })
  else (!decide ((Zap (zE e s now) now).state=.closed),Zap (zE e s now) now)
def Za1 (e:Zt) (num:Int):Nat→List Int→Zt
  | _,[]=>e
  | k,b::r=>Za1 (if inWin e (Zy num k)=true then { e with early:=Zgr e.early (Zy num k) b } else e) num (k+1) r
def ZaJ (e:Zt) (s:Seg):Zt:=if 0<s.data.length then { Za1 e s.num 0 s.data with owes_answer:=true } else Za1 e s.num 0 s.data
def ZbV (e:Zt) (s:Seg):Zt:=
  if bears s 1=false then e
  else if e.early_fin=none∧inWin e (Zy s.num s.data.length)=true then { e with owes_answer:=true,early_fin:=some (Zy s.num s.data.length) }
  else { e with owes_answer:=true }
def drawn:Nat→Zt→List Int×Zt
  | 0,e=>([],e)
  | n+1,e=>if e.early_fin=some e.rcv then ([],e) else match atE e.early e.rcv with
    | none=>([],e)
    | some b=>(b::(drawn n { e with early:=Zc9 e.early e.rcv,rcv:=Zy e.rcv 1 }).1,(drawn n { e with early:=Zc9 e.early e.rcv,rcv:=Zy e.rcv 1 }).2)
def ZgY (e:Zt) (r:List Int):Zt:={ e with come:=e.come++ZbM r none (some (ZS e)) }
def ZdS (e:Zt) (now:Int):Zt:=
  if e.state=.opn then { e with rcv:=Zy e.rcv 1,state:=.closeWait }
  else if e.state=.waitOne then { e with rcv:=Zy e.rcv 1,state:=.closing }
  else { e with rcv:=Zy e.rcv 1,state:=.timeWait,since:=now }
section
variable {θ:Sto} {l:Nat} {e:Zt} {s:Seg} {now n a b:Int}
@[simp] theorem Zyx:Zb8 [.int a,.int b] θ=.ok (.bl (ZbQ a b)) θ:=by simp [Zb8,Zlj,ZbQ]
@[simp] theorem ZsN (h:l+3 < θ.length):Za7 [.ref l] (upE θ l e)=.ok (.bl (Zc4 e)) (upE θ l e):=by
  simp [Za7,Zdy,h,Zc4]
@[simp] theorem Zse (h:l+3 < θ.length):zk [.ref l,.int n] (upE θ l e)=.ok (.bl (inWin e n)) (upE θ l e):=by
  by_cases c:0≤ZW n e.rcv<;>simp [zk,Zdx,h,inWin,ZS,c]<;>exact decide_eq_decide.mpr Iff.rfl
@[simp] theorem Zyy (h:l+3 < θ.length):Zf0 [.ref l,s.d] (upE θ l e)=.ok (.bl (ZcX e s)) (upE θ l e):=by
  by_cases c:ZlH s=0
  · by_cases c1:0≤ZW s.num e.rcv<;>simp [Zf0,ZhK,Zfh,h,ZfT,c,c1,ZcX]
  · by_cases c1:inWin e s.num=true<;>simp [Zf0,ZhK,Zfh,h,ZfT,c,c1,ZcX]
@[simp] theorem Zsa (h:l+3 < θ.length):Za6 [.ref l,s.d,.int now] (upE θ l e)=.ok .non (upE θ l (ZcN e s now)):=by
  by_cases c4:bears s 4=true
  · simp [Za6,Zcj,Zbx,h,c4,ZcN]
  · by_cases ct:e.state=.timeWait
    · simp [Za6,Zcj,Zbx,Zcx,Zcw,h,c4,ct,ZcN]
    · by_cases cs:e.state=.synCome<;>by_cases c2:bears s 2=true<;>by_cases c16:bears s 16=true<;>simp [Za6,Zcj,Zbx,Zcx,Zcw,h,c4,ct,cs,c2,c16,ZcN]
@[simp] theorem ZqS (h:l+3 < θ.length):Zbe [.ref l,s.d] (upE θ l e)=.ok .non (upE θ l (ZeT e s)):=by
  by_cases ct:e.state=.timeWait
  · simp [Zbe,ZcZ,Zcg,Zcf,h,ct,ZeT]
  · by_cases c:s.num=e.rcv<;>simp [Zbe,ZcZ,Zcg,Zcf,h,ct,c,ZeT]
@[simp] theorem ZqD (h:l+3 < θ.length):ZaA [.ref l,s.d] (upE θ l e)=.ok .non (upE θ l (Zci e s)):=by
  simp [ZaA,Zd8,h,Zci]
@[simp] theorem Zo1 (h:l+3 < θ.length):zn [.ref l,s.d] (upE θ l e)=.ok (.bl (Zaz e s).1) (upE θ l (Zaz e s).2):=by
  by_cases c1:e.nxt=e.first
  · simp [zn,Zat,zZ,h,c1,Zaz]
  · by_cases c2:s.ans=e.nxt
    · by_cases c3:e.has_closed=true<;>simp [zn,Zat,zZ,h,c1,c2,c3,Zaz]
    · simp [zn,Zat,zZ,h,c1,c2,Zaz]
@[simp] theorem ZsT (h:l+3 < θ.length):ZcS [.ref l,s.d] (upE θ l e)=.ok (.bl (isNewer e s)) (upE θ l e):=by
  by_cases c:s.num=e.told<;>simp [ZcS,ZfL,ZeB,h,c,isNewer]
theorem ZqM (h:l+3 < θ.length):Ze9 [.ref (l+1),.int n] (upE θ l e)=.ok (il (e.written.take n.toNat)) (upE θ l { e with written:=e.written.drop n.toNat }):=by
  by_cases c:0<n
  · simp [Ze9,ZfJ,h,Zgd,Zdv,c,show 0≤n by omega,show ¬n<0 by omega]
  · have z:n.toNat=0:=by omega
    by_cases c0:n<0
    · simp [Ze9,ZfJ,h,Zgd,Zdv,z,c0,Zbl]
    · have n0:n=0:=by omega
      simp [Ze9,ZfJ,h,Zgd,Zdv,n0,Zbl]
@[simp] theorem ZqF (h:l+3 < θ.length):zN [.ref l,s.d,.int now] (upE θ l e)=.ok .non (upE θ l (zE e s now)):=by
  have tk:=fun (e:Zt) (n:Int)=>ZqM (θ:=θ) (l:=l) (e:=e) (n:=n) h
  have h2:Zas [.val (.ref l),.val s.d,.val (.int now),.val (.int s.ans),.val (.bl (ZbQ s.ans e.una)),.no] (upE θ l e)=.ok (.nx,[.val (.ref l),.val s.d,.val (.int now),.val (.int s.ans),.val (.bl (ZbQ s.ans e.una)),.no]) (upE θ l (Zbv e s now)):=by
    unfold Zbv
    by_cases c1:ZbQ s.ans e.una=true
    · rw [if_pos c1]
      by_cases c2:s.ans=e.nxt
      · rw [if_pos c2,c1]
        simp [Zas,Zb1,h,tk,c2]
      · rw [if_neg c2,c1]
        simp [Zas,Zb1,h,tk,c2]
    · rw [if_neg c1]
      simp [Zas,c1]
  unfold zE
  obtain ⟨e1,he1⟩:∃x,x=Zbv e s now:=⟨_,rfl⟩
  rw [←he1] at h2 ⊢
  obtain ⟨g,hg⟩:∃x,x=ZbQ s.ans e.una:=⟨_,rfl⟩
  rw [←hg] at h2 ⊢
  clear he1
  by_cases c3:ZbQ e1.una s.ans=true
  · simp [zN,ZaZ,h,←hg,h2,Zar,c3]
  · have w0:∀x:Zt,(if (g || isNewer e1 s)=true then Zci e1 s else e1)=x→zN [.ref l,s.d,.int now] (upE θ l e)=.ok .non (upE θ l (if e1.wnd=0∨x.wnd=0 then { x with tries:=0 } else x)):=by
      intro x hx
      have h4:Za5 [.val (.ref l),.val s.d,.val (.int now),.val (.int s.ans),.val (.bl g),.val (.bl (decide (e1.wnd=0)))] (upE θ l e1)=.ok (.nx,[.val (.ref l),.val s.d,.val (.int now),.val (.int s.ans),.val (.bl g),.val (.bl (decide (e1.wnd=0)))]) (upE θ l x):=by
        rw [←hx]
        cases g
        · by_cases c:isNewer e1 s=true<;>simp [Za5,h,c]
        · simp [Za5,h]
      by_cases c5:e1.wnd=0
      · rw [if_pos (.inl c5)]
        simp [zN,ZaZ,h,←hg,h2,Zar,c3,c5] at h4 ⊢
        simp [h4,Za4,h]
      · by_cases c6:x.wnd=0
        · rw [if_pos (.inr c6)]
          simp [zN,ZaZ,h,←hg,h2,Zar,c3,c5] at h4 ⊢
          simp [h4,Za4,h,c6]
        · rw [if_neg (by intro z; exact z.elim c5 c6)]
          simp [zN,ZaZ,h,←hg,h2,Zar,c3,c5] at h4 ⊢
          simp [h4,Za4,h,c6]
    simp only [if_neg c3]
    exact w0 _ rfl
@[simp] theorem Zsf (h:l+3 < θ.length):ZQ [.ref l,.int now] (upE θ l e)=.ok .non (upE θ l (Zap e now)):=by
  by_cases c1:Zc4 e=true
  · by_cases c2:e.una=e.nxt
    · cases c:e.state<;>simp [ZQ,zm,ze,ZaO,ZaN,ZaM,h,c,c1,c2,Zap]
    · simp [ZQ,zm,ze,h,c1,c2,Zap]
  · simp [ZQ,zm,ze,h,c1,Zap]
@[simp] theorem Zug (h:l+3 < θ.length):ZY [.ref l,s.d,.int now] (upE θ l e)=.ok (.bl (Zag e s now).1) (upE θ l (Zag e s now).2):=by
  by_cases c1:e.state=.synCome
  · simp [ZY,zH,zz,h,c1,Zag]
  · by_cases c2:ZbQ s.ans e.nxt=true
    · simp [ZY,zH,zz,z0,h,c1,c2,Zag]
    · simp [ZY,zH,zz,z0,h,c1,c2,Zag]
end
end
end My
namespace My
open PySem L2 L2.MM
noncomputable section
theorem Zip (m:EL) (n b:Int):(Zgr m n b).length≤m.length+1:=by
  unfold Zgr
  cases atE m n<;>simp
section
variable {θ:Sto} {l:Nat} {e:Zt} {s:Seg} {now n b:Int}
abbrev keepB:SM:=Zr (Z9 4 (mCB zC (Zc (mOp ixM (Zd 1) (mC (.int 2))) (Zc (Zd 2) Zk)))) ZaY
theorem ZqR (h:l+3 < θ.length) (k:Nat) (x:Sl) (he:e.early.length<1000):keepB [.val (.ref l),.val s.d,.val (.int k),.val (.int b),x] (upE θ l e)=.ok (.nx,[.val (.ref l),.val s.d,.val (.int k),.val (.int b),.val (.int (Zy s.num k))]) (upE θ l (if inWin e (Zy s.num k)=true then { e with early:=Zgr e.early (Zy s.num k) b } else e)):=by
  have hd:=fun (e:Zt)=>dk3 (θ:=θ) (l:=l) (e:=e) h
  have hs:=fun (e:Zt) (m:EL)=>ZuV (θ:=θ) (l:=l) (e:=e) h m
  have hB:(e.early.map ed).length<BIG:=by simp [BIG]; omega
  obtain ⟨n,hn⟩:∃n,n=Zy s.num k:=⟨_,rfl⟩
  by_cases c:inWin e n=true
  · unfold Zgr
    cases c2:atE e.early n with
    | some v=>
      simp [ZaY,h,←hn,c,hd,hB,Zfl,c2,-List.length_map]
    | none=>
      simp [ZaY,h,←hn,c,hd,hB,Zfl,c2,Zra,hs,-List.length_map,-List.map_append]
  · simp [ZaY,h,←hn,c]
theorem ZlW (h:l+3 < θ.length):∀(r:List Int) (k:Nat) (x y z:Sl) (e:Zt),e.early.length+r.length<1000→
    ∃x' y' z',forE 2 3 keepB k (r.map D.int) [.val (.ref l),.val s.d,x,y,z] (upE θ l e)=.ok (.nx,[.val (.ref l),.val s.d,x',y',z']) (upE θ l (Za1 e s.num k r))
  | [],k,x,y,z,e,_=>⟨x,y,z,rfl⟩
  | b::r,k,x,y,z,e,hl=>by
    have hl':e.early.length+r.length+1<1000:=by simpa [Nat.add_assoc] using hl
    show ∃x' y' z',(keepB [.val (.ref l),.val s.d,.val (.int k),.val (.int b),z] (upE θ l e)).bind (Ze0 (forE 2 3 keepB (k+1) (r.map D.int)))=_
    rw [ZqR h k z (by omega)]
    exact ZlW h r (k+1) _ _ _ _ (by
      split
      · have:=Zip e.early (Zy s.num k) b
        show (Zgr e.early (Zy s.num k) b).length+r.length<1000
        omega
      · omega)
@[simp] theorem Zkx (h:l+3 < θ.length) (hl:e.early.length+s.data.length<1000):ZbF [.ref l,s.d] (upE θ l e)=.ok .non (upE θ l (ZaJ e s)):=by
  obtain ⟨x,y,z,g⟩:=ZlW (s:=s) h s.data 0 .no .no .no e hl
  have h2:ZcA [.val (.ref l),.val s.d,.no,.no,.no] (upE θ l e)=.ok (.nx,[.val (.ref l),.val s.d,x,y,z]) (upE θ l (Za1 e s.num 0 s.data)):=by
    rw [←g]
    simp [ZcA,ZpR]
    rfl
  obtain ⟨e1,he1⟩:∃q,q=Za1 e s.num 0 s.data:=⟨_,rfl⟩
  unfold ZaJ
  rw [←he1] at h2 ⊢
  by_cases c:0<s.data.length
  · rw [if_pos c]
    simp [ZbF,Zdj,h2,Zcz,h,c]
  · rw [if_neg c]
    simp [ZbF,Zdj,h2,Zcz,h,c]
@[simp] theorem Zs8 (h:l+3 < θ.length) (e:Zt) (n:Int):za ["End"] "early_fin" (.int n) (.ref l) (upE θ l e)=some (upE θ l { e with early_fin:=some n }):=ZkE h e (some n)
@[simp] theorem Zup (r:Option Int):Zcr (ZgQ r)=r.isNone:=by cases r<;>rfl
theorem Zkw (h:l+3 < θ.length):ZaK [.val (.ref l),.val s.d,.val (.int n)] (upE θ l e)=.ok (.nx,[.val (.ref l),.val s.d,.val (.int n)]) (upE θ l (if e.early_fin=none∧inWin e n=true then { e with early_fin:=some n } else e)):=by
  by_cases c2:e.early_fin=none
  · by_cases c3:inWin e n=true
    · rw [if_pos ⟨c2,c3⟩]
      have q:∀f,e.early_fin=f→f=none→ZaK [.val (.ref l),.val s.d,.val (.int n)] (upE θ l e)=.ok (.nx,[.val (.ref l),.val s.d,.val (.int n)]) (upE θ l { e with early_fin:=some n }):=by
        intro f hf h0
        have h1:e.early_fin.isNone=true:=by rw [hf,h0]; rfl
        simp [ZaK,h,h1,c3]
      exact q _ rfl c2
    · rw [if_neg fun z=>c3 z.2]
      have h1:e.early_fin.isNone=true:=by rw [c2]; rfl
      simp [ZaK,h,h1,c3]
  · rw [if_neg fun z=>c2 z.1]
    have h1:e.early_fin.isNone=false:=by cases q:e.early_fin<;>first | exact absurd q c2 | rfl
    simp [ZaK,h,h1]
@[simp] theorem Zls (h:l+3 < θ.length):Zca [.ref l,s.d] (upE θ l e)=.ok .non (upE θ l (ZbV e s)):=by
  unfold ZbV
  by_cases c1:bears s 1=true
  · obtain ⟨n,hn⟩:∃n,n=Zy s.num s.data.length:=⟨_,rfl⟩
    have k2:=Zkw (e:={ e with owes_answer:=true }) (s:=s) (n:=n) h
    rw [←hn,c1]
    simp [Zca,ZdX,ZcY,h,c1,←hn,k2]
    rfl
  · simp [Zca,ZdX,ZcY,c1]
@[simp] theorem ZyY (n:Int) (r:Option Int):neM (.int n) (ZgQ r) θ=.ok (.bl (!decide (r=some n))) θ:=by
  cases r with
  | none=>rw [Zhl (by exact Zdf rfl rfl rfl rfl)]; simp [look,ZgQ]
  | some m=>simp [ZgQ,eq_comm]
@[simp] theorem Zzh (n:Int) (r:Option Int):eqM (.int n) (ZgQ r) θ=.ok (.bl (decide (r=some n))) θ:=by
  cases r with
  | none=>rw [Zhx (by exact Zdf rfl rfl rfl rfl)]; simp [look,ZgQ]
  | some m=>simp [ZgQ,eq_comm]
abbrev Zqd:TMr:=Zho (ZG (mOp neM (ZF ["End"] "rcv" (Zd 0)) (ZF ["End"] "early_fin" (Zd 0)))) (ZG (ZpS (ZF ["End"] "rcv" (Zd 0)) (ZF ["End"] "early" (Zd 0))))
abbrev Zqe:SM:=Zr (ZdQ 1 (Zmt (ZF ["End"] "early" (Zd 0)) (ZF ["End"] "rcv" (Zd 0))))
    (ZD ["End"] "rcv" (Zd 0) (mCB zC (Zc (ZF ["End"] "rcv" (Zd 0)) (Zc (mC (.int 1)) Zk))))
theorem ZqV (h:l+3 < θ.length) (x:Sl):Zqd [.val (.ref l),x] (upE θ l e)=.ok (!decide (e.early_fin=some e.rcv) && (atE e.early e.rcv).isSome) (upE θ l e):=by
  have hd:=fun (e:Zt)=>dk3 (θ:=θ) (l:=l) (e:=e) h
  by_cases c:e.early_fin=some e.rcv<;>simp [h,hd,Zfl,c]
theorem ZqW (h:l+3 < θ.length) {b:Int} (xs:List D) (hx:xs.length<BIG) (hv:atE e.early e.rcv=some b):Zqe [.val (.ref l),.own xs] (upE θ l e)=.ok (.nx,[.val (.ref l),.own (xs++[.int b])]) (upE θ l { e with early:=Zc9 e.early e.rcv,rcv:=Zy e.rcv 1 }):=by
  have hd:=fun (e:Zt)=>dk3 (θ:=θ) (l:=l) (e:=e) h
  have hs:=fun (e:Zt) (m:EL)=>ZuV (θ:=θ) (l:=l) (e:=e) h m
  simp [h,hd,Zfl,hv,Zk8,hs,hx]
theorem Zqc {m:EL} {n b:Int} (h:atE m n=some b):(Zc9 m n).length<m.length:=by
  induction m with
  | nil=>simp [atE] at h
  | cons p r ih=>
    unfold Zc9 atE at *
    by_cases e:p.1=n
    · simp [e]
      exact Nat.lt_succ_of_le (List.length_filter_le ..)
    · simp [e] at h ⊢
      have:=ih (by simpa using h)
      simpa using this
theorem ZlZ (h:l+3 < θ.length):∀(n:Nat) (e:Zt) (xs:List Int),e.early.length<n→xs.length+n<1000→Zcu Zqd Zqe n [.val (.ref l),.own (xs.map D.int)] (upE θ l e)=.ok (.nx,[.val (.ref l),.own ((xs++(drawn n e).1).map D.int)]) (upE θ l (drawn n e).2)
  | 0,e,xs,hn,_=>absurd hn (Nat.not_lt_zero _)
  | n+1,e,xs,hn,hx=>by
    rw [ZgS,ZqV h]
    unfold drawn
    by_cases c:e.early_fin=some e.rcv
    · simp [c]
    · cases c2:atE e.early e.rcv with
      | none=>simp [c]
      | some b=>
        have:=ZlZ h n { e with early:=Zc9 e.early e.rcv,rcv:=Zy e.rcv 1 } (xs++[b]) (by have:=Zqc c2; simp only; omega) (by simp; omega)
        rw [if_neg c]
        simp only [c,decide_false,Bool.not_false,Bool.true_and,Option.isSome_some,R.bind,if_true]
        rw [ZqW h (xs.map D.int) (by simp [BIG]; omega) c2]
        simp only [R.bind,Ze0]
        rw [List.map_append] at this
        simpa [List.append_assoc] using this
theorem Zhy:∀(n:Nat) (e:Zt),(drawn n e).2.come=e.come
  | 0,e=>rfl
  | n+1,e=>by
    unfold drawn
    split
    · rfl
    · split
      · rfl
      · exact Zhy n _
theorem ZrQ {r:List Int} {k:Int} (h:0≤k):((ZbM r none (some k)).length:Int)≤k:=by
  rw [Zgd r h]
  have:=List.length_take_le k.toNat r
  omega
theorem ZsS (h:l+3 < θ.length) (hc:e.come.length≤64) (r:List Int):ZkK [.ref (l+2),il r] (upE θ l e)=.ok (.int (ZbM r none (some (ZS e))).length) (upE θ l (ZgY e r)):=by
  have h1:e.come.length+(ZbM r none (some (ZS e))).length≤100000:=by
    have:=ZrQ (r:=r) (k:=ZS e) (by unfold ZS; omega)
    unfold ZS at *
    omega
  simp [ZkK,ZmF,h,ZgY,h1]
def ZfG (e:Zt):Zt:=ZgY (drawn 200 e).2 (drawn 200 e).1
theorem ZgL (h:l+3 < θ.length) (hc:e.come.length≤64) (he:e.early.length<200):ZaW [.ref l] (upE θ l e)=.ok .non (upE θ l (ZfG e)):=by
  have g:=ZlZ h 200 e [] he (by simp)
  have g1:Zbp [.val (.ref l),.own []] (upE θ l e)=.ok (.nx,[.val (.ref l),.own ((drawn 200 e).1.map D.int)]) (upE θ l (drawn 200 e).2):=by
    have q:Zbp=Zcu Zqd Zqe 200:=rfl
    rw [q]
    simpa using g
  have hc1:(drawn 200 e).2.come.length≤64:=by rw [Zhy]; exact hc
  obtain ⟨e1,he1⟩:∃q,q=(drawn 200 e).2:=⟨_,rfl⟩
  obtain ⟨r1,hr1⟩:∃q,q=(drawn 200 e).1:=⟨_,rfl⟩
  unfold ZfG
  rw [←he1,←hr1] at g1 ⊢
  rw [←he1] at hc1
  have tl:=ZsS (e:=e1) h hc1 r1
  simp [ZaW,Zdb,g1,h,tl]
@[simp] theorem ZsW (h:l+3 < θ.length):Zcb [.ref l,.int now] (upE θ l e)=.ok .non (upE θ l (ZdS e now)):=by
  by_cases c1:e.state=.opn
  · simp [Zcb,ZdY,Zc0,h,c1,ZdS]
  · by_cases c2:e.state=.waitOne<;>simp [Zcb,ZdY,ZeD,Zc0,h,c1,c2,ZdS]
def ZbO (e:Zt) (s:Seg):Zt:=ZfG (ZbV (ZaJ e s) s)
def z6 (e:Zt) (s:Seg) (now:Int):Zt:=
  if e.state=.opn∨e.state=.waitOne∨e.state=.waitTwo then
    (if (ZbO e s).early_fin=some (ZbO e s).rcv then ZdS (ZbO e s) now else ZbO e s)
  else e
theorem Zgs (num:Int):∀(r:List Int) (k:Nat) (e:Zt),(Za1 e num k r).early.length≤e.early.length+r.length
  | [],k,e=>Nat.le_refl _
  | b::r,k,e=>by
    unfold Za1
    refine Nat.le_trans (Zgs num r (k+1) _) ?_
    split
    · have:=Zip e.early (Zy num k) b
      simp only [List.length_cons]
      omega
    · simp only [List.length_cons]; omega
theorem ZhY (e:Zt) (s:Seg):(ZbV e s).early=e.early:=by
  unfold ZbV
  split
  · rfl
  · split<;>rfl
theorem ZiU (e:Zt) (s:Seg):(ZaJ e s).early.length≤e.early.length+s.data.length:=by
  unfold ZaJ
  split<;>exact Zgs ..
theorem ZfE (num:Int):∀(r:List Int) (k:Nat) (e:Zt),(Za1 e num k r).come=e.come
  | [],k,e=>rfl
  | b::r,k,e=>by
    unfold Za1
    rw [ZfE num r (k+1) _]
    split<;>rfl
theorem ZiT (e:Zt) (s:Seg):(ZbV e s).come=e.come:=by
  unfold ZbV
  split
  · rfl
  · split<;>rfl
theorem ZhZ (e:Zt) (s:Seg):(ZaJ e s).come=e.come:=by
  unfold ZaJ
  split<;>exact ZfE ..
theorem ZhV (h:l+3 < θ.length) (hc:e.come.length≤64) (hl:e.early.length+s.data.length<200):ZaB [.ref l,s.d,.int now] (upE θ l e)=.ok .non (upE θ l (z6 e s now)):=by
  unfold z6
  by_cases c:e.state=.opn∨e.state=.waitOne∨e.state=.waitTwo
  · rw [if_pos c]
    have k1:=Zkx (e:=e) (s:=s) h (by omega)
    have k2:=Zls (e:=ZaJ e s) (s:=s) h
    have k3:=ZgL (e:=ZbV (ZaJ e s) s) h (by rw [ZiT,ZhZ]; exact hc) (by rw [ZhY]; have:=ZiU e s; omega)
    have k4:ZfG (ZbV (ZaJ e s) s)=ZbO e s:=rfl
    rw [k4] at k3
    obtain ⟨e3,he3⟩:∃q,q=ZbO e s:=⟨_,rfl⟩
    rw [←he3] at k3 ⊢
    have c':e.state∈[State.opn,.waitOne,.waitTwo]:=by simpa using c
    by_cases c2:e3.early_fin=some e3.rcv
    · simp [ZaB,Zby,Za3,h,c,k1,k2,k3,Zb0,c2]
    · simp [ZaB,Zby,Za3,h,c,k1,k2,k3,Zb0,c2]
  · rw [if_neg c]
    simp [ZaB,Zby,Za3,h,c]
def zS (e:Zt) (s:Seg) (now:Int):Zt:=
  if ZcX e s=false then ZcN e s now
  else if bears s 4=true then ZeT e s
  else if bears s 2=true then { e with owes_answer:=true }
  else if bears s 16=true then (if (Zag e s now).1=true then z6 (Zag e s now).2 s now else (Zag e s now).2)
  else e
theorem ZiY (e:Zt) (s:Seg) (now:Int):(Zag e s now).2.early=e.early:=by
  unfold Zag
  split
  · unfold Zaz
    split
    · unfold Za8; split<;>rfl
    · rfl
  · split
    · rfl
    · show (Zap (zE e s now) now).early=e.early
      have h1:(Zbv e s now).early=e.early:=by
        unfold Zbv
        split
        · split<;>rfl
        · rfl
      have h2:(zE e s now).early=e.early:=by
        unfold zE
        simp only
        split
        · exact h1
        · split
          · split<;>exact h1
          · split<;>exact h1
      unfold Zap
      split
      · exact h2
      · split
        · exact h2
        · split
          · exact h2
          · split<;>exact h2
theorem Zk3 (e:Zt) (s:Seg) (now:Int):(Zag e s now).2.come=e.come:=by
  unfold Zag
  split
  · unfold Zaz
    split
    · unfold Za8; split<;>rfl
    · rfl
  · split
    · rfl
    · show (Zap (zE e s now) now).come=e.come
      have h1:(Zbv e s now).come=e.come:=by
        unfold Zbv
        split
        · split<;>rfl
        · rfl
      have h2:(zE e s now).come=e.come:=by
        unfold zE
        simp only
        split
        · exact h1
        · split
          · split<;>exact h1
          · split<;>exact h1
      unfold Zap
      split
      · exact h2
      · split
        · exact h2
        · split
          · exact h2
          · split<;>exact h2
theorem ZfU (h:l+3 < θ.length) (hc:e.come.length≤64) (hl:e.early.length+s.data.length<200):Z8 [.ref l,s.d,.int now] (upE θ l e)=.ok .non (upE θ l (zS e s now)):=by
  unfold zS
  by_cases c1:ZcX e s=true
  · by_cases c2:bears s 4=true
    · simp [Z8,zu,zd,zx,h,c1,c2]
    · by_cases c3:bears s 2=true
      · simp [Z8,zu,zd,zx,zT,h,c1,c2,c3]
      · by_cases c4:bears s 16=true
        · have hs:=ZhV (e:=(Zag e s now).2) (s:=s) (now:=now) h (by rw [Zk3]; exact hc) (by rw [ZiY]; exact hl)
          by_cases c5:(Zag e s now).1=true
          · simp [Z8,zu,zd,zx,zT,Zaw,h,c1,c2,c3,c4,c5,hs]
          · simp [Z8,zu,zd,zx,zT,Zaw,h,c1,c2,c3,c4,c5]
        · simp [Z8,zu,zd,zx,zT,Zaw,h,c1,c2,c3,c4]
  · simp [Z8,zu,zd,h,c1]
theorem ZgM (h:l+3 < θ.length) (hc:e.come.length≤64) {r:List Int} (hb:Byt r) (hr:Zan r=true) (hf:Zd5 e (Zbm r)=true) (hl:e.early.length+(Zbm r).data.length<200) (h1:¬e.state=.closed) (h2:¬e.state=.listen) (h3:¬e.state=.synSent):zg [.ref l,il r,.int now] (upE θ l e)=.ok (.bl true) (upE θ l (zS e (Zbm r) now)):=by
  simp [zg,Zc2,Zb5,Zb4,Zb3,ZcJ,ZdZ,ZcO hb,hr,ZlY hb hr,h,hf,h1,h2,h3,ZfU h hc hl]
def Zb6 (e:Zt) (s:Seg) (now:Int):Zt:=
  match e.state with
  | .closed=>Za8 e s
  | .listen=>Zbd e s
  | .synSent=>z9 e s now
  | _=>zS e s now
theorem ZdG (h:l+3 < θ.length) (hc:e.come.length≤64) (hs:s.Ok) (hf:Zd5 e s=true) (hl:e.early.length<150):zg [.ref l,il (putL s),.int now] (upE θ l e)=.ok (.bl true) (upE θ l (Zb6 e s now)):=by
  have hb:=Zl8 hs.put
  have hr:=Zic hs
  have hg:=Zmx hs
  have hd:s.data.length≤16:=hs.data.2
  unfold Zb6
  cases c:e.state
  · simp only
    rw [ZgO h hb hr (by rw [hg]; exact hf) c,hg]
  · simp only
    rw [ZgN h hb hr (by rw [hg]; exact hf) c,hg]
  · simp only
    rw [ZfV h hb hr (by rw [hg]; exact hf) c,hg]
  all_goals
    simp only
    rw [ZgM h hc hb hr (by rw [hg]; exact hf) (by rw [hg]; omega) (by rw [c]; decide) (by rw [c]; decide) (by rw [c]; decide),hg]
end
end
end My
namespace My
open PySem L2 L2.MM
noncomputable section
theorem Zpv {n k:Int} (h : -2147483648≤k∧k<2147483648):ZW (Zy n k) n=k:=by
  unfold ZW Zy; omega
theorem ZeP {n j k:Int} (h : -2147483648≤j-k∧j-k<2147483648):ZW (Zy n j) (Zy n k)=j-k:=by
  unfold ZW Zy; omega
@[simp] theorem Zpu (n:Int):ZW n n=0:=by
  unfold ZW; omega
@[simp] theorem Zuk (n:Int):ZbQ n n=false:=by simp [ZbQ]
theorem Zak (n j k:Int):Zy (Zy n j) k=Zy n (j+k):=by
  unfold Zy; omega
theorem zy (n k:Int):0≤Zy n k∧Zy n k≤4294967295:=by
  unfold Zy; omega
theorem ZmX {n:Int} (h:0≤n∧n≤4294967295):Zy n 0=n:=by
  unfold Zy; omega
theorem Zri {n k:Int} (h:0<k∧k<4294967296):¬Zy n k=n:=by
  unfold Zy; omega
theorem Zfq {n j k:Int} (h:0≤j∧0≤k∧j<4294967296∧k<4294967296):Zy n j=Zy n k↔j=k:=by
  unfold Zy; omega
def Zef (num:Int):Nat→List Int→EL
  | _,[]=>[]
  | k,b::r=>(Zy num k,b)::Zef num (k+1) r
theorem ZdE (p:Int×Int) (m:EL) (n:Int):atE (p::m) n=if p.1=n then some p.2 else atE m n:=by
  unfold atE
  by_cases h:p.1=n<;>simp [h]
theorem Zr3 (m m':EL) (n:Int) (h:atE m n=none):atE (m++m') n=atE m' n:=by
  induction m with
  | nil=>rfl
  | cons p r ih=>
    rw [ZdE] at h
    rw [List.cons_append,ZdE]
    by_cases e:p.1=n
    · rw [if_pos e] at h; cases h
    · rw [if_neg e] at h ⊢
      exact ih h
theorem ZmK (num:Int):∀(r:List Int) (k j:Nat),j<k→k+r.length<4294967296→atE (Zef num k r) (Zy num j)=none
  | [],k,j,_,_=>rfl
  | b::r,k,j,h,hl=>by
    have hl':k+r.length+1<4294967296:=by simpa [Nat.add_assoc] using hl
    rw [Zef,ZdE,if_neg (by rw [Zfq (by omega)]; omega)]
    exact ZmK num r (k+1) j (by omega) (by omega)
theorem ZlM (m:EL) (n:Int) (h:atE m n=none):Zc9 m n=m:=by
  induction m with
  | nil=>rfl
  | cons p r ih=>
    rw [ZdE] at h
    by_cases e:p.1=n
    · rw [if_pos e] at h; cases h
    · rw [if_neg e] at h
      unfold Zc9 at *
      rw [List.filter_cons_of_pos (by simp [e]),ih h]
theorem Zni (num b:Int) (r:List Int) (k:Nat) (hl:k+1+r.length<4294967296):Zc9 ((Zy num k,b)::Zef num (k+1) r) (Zy num k)=Zef num (k+1) r:=by
  have:=ZlM (Zef num (k+1) r) (Zy num k) (ZmK num r (k+1) k (by omega) hl)
  unfold Zc9 at *
  rw [List.filter_cons_of_neg (by simp),this]
theorem Zhr (num:Int):∀(r:List Int) (k:Nat) (e:Zt),k+r.length<4294967296→(∀i:Nat,k≤i→i<k+r.length→inWin e (Zy num i)=true∧atE e.early (Zy num i)=none)→Za1 e num k r={ e with early:=e.early++Zef num k r }
  | [],k,e,_,_=>by simp [Za1,Zef]
  | b::r,k,e,hl,h=>by
    have hl':k+r.length+1<4294967296:=by simpa [Nat.add_assoc] using hl
    obtain ⟨h1,h2⟩:=h k (Nat.le_refl _) (by simp)
    unfold Za1
    rw [if_pos h1]
    have h3:Zgr e.early (Zy num k) b=e.early++[(Zy num k,b)]:=by unfold Zgr; rw [h2]
    rw [h3,Zhr num r (k+1) _ (by omega)]
    · simp [Zef]
    · intro i hi hj
      obtain ⟨g1,g2⟩:=h i (by omega) (by simp; omega)
      refine ⟨g1,?_⟩
      show atE (e.early++[(Zy num k,b)]) (Zy num i)=none
      rw [Zr3 _ _ _ g2,ZdE,if_neg (by rw [Zfq (by omega)]; omega)]
      rfl
theorem Zk9 (num:Int):∀(r:List Int) (k n:Nat) (e:Zt),k+r.length<4294967296→r.length<n→e.rcv=Zy num k→e.early=Zef num k r→(∀i:Nat,k≤i→i<k+r.length→¬e.early_fin=some (Zy num i))→drawn n e=(r,{ e with early:=[],rcv:=Zy num (k+r.length:Nat) })
  | [],k,0,e,_,hn,_,_,_=>by simp at hn
  | [],k,n+1,e,_,_,h1,h2,_=>by
    unfold drawn
    have:atE e.early e.rcv=none:=by rw [h2]; rfl
    have he:e={ e with early:=[],rcv:=Zy num k }:=by
      obtain ⟨_⟩:=e
      simp only [Zef] at h1 h2
      subst h1 h2
      rfl
    split
    · simpa using he
    · rw [this]
      simpa using he
  | b::r,k,0,e,_,hn,_,_,_=>by simp at hn
  | b::r,k,n+1,e,hl,hn,h1,h2,h3=>by
    have hl':k+r.length+1<4294967296:=by simpa [Nat.add_assoc] using hl
    have hn':r.length<n:=by simpa using hn
    unfold drawn
    rw [if_neg (by rw [h1]; exact h3 k (Nat.le_refl _) (by simp))]
    have:atE e.early e.rcv=some b:=by rw [h2,h1,Zef,ZdE]; simp
    rw [this]
    simp only
    have g:=Zk9 num r (k+1) n { e with early:=Zc9 e.early e.rcv,rcv:=Zy e.rcv 1 } (by omega) hn' (by show Zy e.rcv 1=_; rw [h1,Zak]; simp) (by show Zc9 e.early e.rcv=_; rw [h2,h1,Zef,Zni _ _ _ _ (by omega)]) (fun i hi hj=>h3 i (by omega) (by simp; omega))
    rw [g]
    simp [Nat.add_assoc,Nat.add_comm 1]
theorem ZrR {r:List Int} {k:Int} (h:(r.length:Int)≤k):ZbM r none (some k)=r:=by
  rw [Zgd r (by omega)]
  exact List.take_of_length_le (by omega)
theorem Zcl {e:Zt} {s:Seg} (hd:s.data.length≤16) (hn:s.num=e.rcv) (hr:0≤e.rcv∧e.rcv≤4294967295) (he:e.early=[]) (hf:e.early_fin=none) (hw:e.come.length+s.data.length+(if bears s 1=true then 1 else 0)≤64) :
    ZbO e s={ e with come:=e.come++s.data,rcv:=Zy e.rcv s.data.length,owes_answer:=e.owes_answer || decide (0<s.data.length) || bears s 1,early_fin:=if bears s 1=true then some (Zy e.rcv s.data.length) else none }:=by
  have w:∀i:Nat,i<s.data.length∨(i=s.data.length∧bears s 1=true)→inWin e (Zy e.rcv i)=true:=by
    intro i hi
    unfold inWin ZS
    rw [Zpv (by omega)]
    have:(i:Int)<64-e.come.length:=by
      rcases hi with hi | ⟨rfl,hi⟩
      · omega
      · rw [if_pos hi] at hw; omega
    simp; omega
  have k1:Za1 e s.num 0 s.data={ e with early:=Zef e.rcv 0 s.data }:=by
    rw [hn,Zhr e.rcv s.data 0 e (by omega) (fun i _ hi=>⟨w i (.inl (by omega)),by rw [he]; rfl⟩),he]
    rfl
  have k2:ZaJ e s={ e with early:=Zef e.rcv 0 s.data,owes_answer:=e.owes_answer || decide (0<s.data.length) }:=by
    unfold ZaJ
    rw [k1]
    by_cases c:0<s.data.length
    · rw [if_pos c]; simp [c]
    · rw [if_neg c]; simp [c]
  obtain ⟨oa,hoa⟩:∃x,x=(e.owes_answer || decide (0<s.data.length)):=⟨_,rfl⟩
  rw [←hoa] at k2 ⊢
  have k3:ZbV (ZaJ e s) s={ e with early:=Zef e.rcv 0 s.data,owes_answer:=oa || bears s 1,early_fin:=if bears s 1=true then some (Zy e.rcv s.data.length) else none }:=by
    rw [k2]
    unfold ZbV
    by_cases c:bears s 1=true
    · have iw:inWin ({ e with early:=Zef e.rcv 0 s.data,owes_answer:=oa }) (Zy s.num s.data.length)=true:=by
        rw [hn]; exact w _ (.inr ⟨rfl,c⟩)
      rw [if_neg (by simp [c]),if_pos ⟨hf,iw⟩,hn]
      simp [c]
    · rw [if_pos (by simpa using c)]
      simp [c,hf]
  unfold ZbO ZfG
  rw [k3]
  obtain ⟨bf,hbf⟩:∃x,x=bears s 1:=⟨_,rfl⟩
  rw [←hbf]
  rw [Zk9 e.rcv s.data 0 200 _ (by omega) (by omega) (by simpa using (ZmX hr).symm) rfl (by
    intro i _ hi
    simp only
    cases bf
    · simp
    · simp only [if_true,Option.some.injEq]
      rw [Zfq (by omega)]
      omega)]
  unfold ZgY
  simp only
  rw [ZrR (by unfold ZS; simp only; split at hw<;>omega)]
  simp [he]
end
end My
namespace My
open PySem L2 L2.MM
noncomputable section
@[simp] theorem Zz3 {f:Int} (h0:0≤f) (h1:f≤31):bit f 1=f % 2:=(Zqu ⟨h0,h1⟩).1
@[simp] theorem ZvN {f:Int} (h0:0≤f) (h1:f≤31):bit f 2=f/2 % 2:=(Zqu ⟨h0,h1⟩).2.1
@[simp] theorem Zz2 {f:Int} (h0:0≤f) (h1:f≤31):bit f 4=f/4 % 2:=(Zqu ⟨h0,h1⟩).2.2.1
@[simp] theorem Zzm {f:Int} (h0:0≤f) (h1:f≤31):bit f 16=f/16 % 2:=(Zqu ⟨h0,h1⟩).2.2.2.2
@[simp] theorem ZvO {a b c d f w m k:Int} {x:List Int}:bears ⟨a,b,c,d,f,w,m,x⟩ k=decide (bit f k=1):=rfl
@[simp] theorem Zwa {a b c d f w m:Int} {x:List Int}:ZlH ⟨a,b,c,d,f,w,m,x⟩=x.length+bit f 2+bit f 1:=rfl
def Zo4:Option Seg→List Int
  | none=>[]
  | some s=>putL s
@[simp] theorem Ztc:Zo4 none=[]:=rfl
@[simp] theorem Ztb (s:Seg):Zo4 (some s)=putL s:=rfl
theorem Zl5 {base:Sto} {l:Nat} {e:Zt} {t:Int} {r:Option Seg} {e':Zt} (hl:l+3<base.length) (g:z8 e t=(r,e')) (hp:∀s,r=some s→s.Put):ZbR [.ref l,.int t] (upE base l e)=.ok (il (Zo4 r)) (upE base l e'):=by
  rw [ZsO hl (by rw [g]; exact hp),g]
  unfold ZiJ
  rw [g]
  cases r<;>rfl
theorem Zia {base:Sto} {l:Nat} {e:Zt} {t:Int} {e':Zt} (hl:l+3<base.length) (g:z8 e t=(none,e')):ZbR [.ref l,.int t] (upE base l e)=.ok (il []) (upE base l e'):=Zl5 hl g (fun s h=>by cases h)
theorem Zh9 {base:Sto} {l:Nat} {e:Zt} {t:Int} {e':Zt} {s:Seg} (hl:l+3<base.length) (g:z8 e t=(some s,e')) (hp:s.Ok):ZbR [.ref l,.int t] (upE base l e)=.ok (il (putL s)) (upE base l e'):=Zl5 hl g (fun s h=>by cases h; exact hp.put)
theorem Ztf (s:Seg):putL s≠[]:=fun z=>by
  have:=Zl7 (s:=s)
  rw [z] at this
  simp at this
  split at this<;>omega
def synE (a b f g W m:Int):Zt:={ newEnd a b f false with state:=.synCome,rcv:=Zy g 1,wnd:=W,told:=g,told_by:=0,most:=if m=0 then 12 else m }
def Zc3 (a b f g W m t:Int):Zt:={ synE a b f g W m with nxt:=Zy f 1,since:=t }
def Zc7 (a b f g W m t:Int):Zt:={ newEnd a b f false with state:=.opn,una:=Zy f 1,nxt:=Zy f 1,rcv:=Zy g 1,wnd:=W,told:=Zy g 1,told_by:=Zy f 1,most:=if m=0 then 12 else m,since:=t }
section
variable {a b f g W m t t' x:Int} {ex:List Int} {fl:Int}
theorem Zvi (hf:fl=2∨fl=3):Zb6 (newEnd a x f false) ⟨b,a,g,0,fl,W,m,ex⟩ t=synE a b f g W m:=by
  rcases hf with rfl | rfl<;>simp [Zb6,newEnd,Zbd,hearSyn,synE]
theorem Zvh:z8 (synE a b f g W m) t=(some ⟨a,b,f,Zy g 1,18,64,16,[]⟩,Zc3 a b f g W m t):=by
  simp [z8,ZbX,zq,Zfb,newEnd,Zfs,startTimer,synE,Zc3]
theorem Zvg:Zb6 (Zc3 a b f g W m t) ⟨b,a,Zy g 1,Zy f 1,16,W,0,[]⟩ t'=Zc7 a b f g W m t:=by
  have h2:¬Zy f 1=f:=Zri (by omega)
  have ft:ZcX (Zc3 a b f g W m t) ⟨b,a,Zy g 1,Zy f 1,16,W,0,[]⟩=true:=by
    simp [ZcX,Zc3,synE,newEnd]
  have go:Zag (Zc3 a b f g W m t) ⟨b,a,Zy g 1,Zy f 1,16,W,0,[]⟩ t'=(true,Zc7 a b f g W m t):=by
    simp [Zag,Zaz,Zc3,synE,newEnd,h2,Zci,Zc7]
  have st:ZbO (Zc7 a b f g W m t) ⟨b,a,Zy g 1,Zy f 1,16,W,0,[]⟩=Zc7 a b f g W m t:=by
    rw [Zcl (by simp) rfl (zy _ _) rfl rfl (by simp [Zc7,newEnd])]
    simp [Zc7,newEnd,Zak]
  have hs:z6 (Zc7 a b f g W m t) ⟨b,a,Zy g 1,Zy f 1,16,W,0,[]⟩ t'=Zc7 a b f g W m t:=by
    unfold z6
    rw [st]
    simp [Zc7,newEnd]
  have:Zb6 (Zc3 a b f g W m t) ⟨b,a,Zy g 1,Zy f 1,16,W,0,[]⟩ t'=zS (Zc3 a b f g W m t) ⟨b,a,Zy g 1,Zy f 1,16,W,0,[]⟩ t':=rfl
  rw [this]
  unfold zS
  rw [ft,go,hs]
  simp
end
section
variable {θ:Sto} {l:Nat} {e:Zt} {s:Seg} {now n:Int}
theorem Zld (θ:Sto) (e e':Zt):upE (θ++cells θ.length e) θ.length e'=θ++cells θ.length e':=by
  have h0:∀(i:Nat) (c:Cell) (r:Sto),(θ++r).set (θ.length+i) c=θ++r.set i c:=by
    intro i c r
    rw [List.set_append_right _ _ (by omega)]
    congr 2
    omega
  have h1:∀(c:Cell) (r:Sto),(θ++r).set θ.length c=θ++r.set 0 c:=fun c r=>h0 0 c r
  unfold upE cells
  rw [h1,h0,h0,h0]
  rfl
theorem Zlr {a b n k f w:Int} {x:List Int} (θ:Sto):Zdr [.tup [.int a,.int b],.int n,.int k,.int f,.int w,il x] θ=.ok (Seg.mk b a n k f w 0 x).d θ:=by
  simp [Zdr,ZgG,Zsl]
theorem Zen {a b n k f w m:Int} {x:List Int} (ha:0≤a∧a≤65535) (hb:0≤b∧b≤65535) (hn:0≤n∧n≤4294967295) (hk:0≤k∧k≤4294967295) (hf:0≤f∧f≤31) (hw:0≤w∧w≤65535) (hm:m=0∨(4≤m∧m≤65535∧f/2 % 2=1)) (hx:(∀z∈x,0≤z∧z≤255)∧x.length≤16):(Seg.mk a b n k f w m x).Ok:=⟨ha,hb,hn,hk,hf,hw,hm,hx⟩
theorem ZcG:(∀z∈([]:List Int),0≤z∧z≤255)∧([]:List Int).length≤16:=⟨by simp,by simp⟩
theorem Zk6 {n:Int} (h:0≤n∧n≤4294967295):0≤Zbi n∧Zbi n≤4294967295:=by
  unfold Zbi
  split<;>omega
theorem ZmO {ns:List Int} {base W m:Int} (θ:Sto) (hW:0≤W∧W≤65535) (hm:m=0∨(4≤m∧m≤65535)) :
    Zds [.scr ns,.int base,.int W,.int m] θ=.ok (.tup [.ref θ.length,.tup [.int (mix ns base % 65536),.int (mix ns (base+1) % 65536)],.int (Zy (Zbi (mix ns (base+2))) 1),.int (Zy (Zbi (mix ns (base+3))) 1)])
      (θ++cells θ.length (Zc7 (mix ns base % 65536) (mix ns (base+1) % 65536) (Zbi (mix ns (base+2))) (Zbi (mix ns (base+3))) W m 0)):=by
  obtain ⟨a,ha⟩:∃x,x=mix ns base % 65536:=⟨_,rfl⟩
  obtain ⟨b,hb⟩:∃x,x=mix ns (base+1) % 65536:=⟨_,rfl⟩
  obtain ⟨f,hf⟩:∃x,x=Zbi (mix ns (base+2)):=⟨_,rfl⟩
  obtain ⟨g,hg⟩:∃x,x=Zbi (mix ns (base+3)):=⟨_,rfl⟩
  have ra:0≤a∧a≤65535:=by omega
  have rb:0≤b∧b≤65535:=by omega
  have rf:0≤f∧f≤4294967295:=by rw [hf]; exact Zk6 (by have:=ZpJ ns (base+2); omega)
  have rg:0≤g∧g≤4294967295:=by rw [hg]; exact Zk6 (by have:=ZpJ ns (base+3); omega)
  rw [←ha,←hb,←hf,←hg]
  have k1:(Seg.mk b a g 0 2 W m []).Ok:=Zen rb ra rg (by omega) (by omega) hW (hm.imp id fun h=>⟨h.1,h.2,by decide⟩) ZcG
  have k2:(Seg.mk a b f (Zy g 1) 18 64 16 []).Ok:=Zen ra rb rf (zy _ _) (by omega) (by omega) (.inr (by decide)) ZcG
  have k3:(Seg.mk b a (Zy g 1) (Zy f 1) 16 W 0 []).Ok:=Zen rb ra (zy _ _) (zy _ _) (by omega) hW (.inl rfl) ZcG
  have hl:θ.length+3<(θ++cells θ.length (newEnd a 7 f false)).length:=by simp [cells]
  have q1:=ZoW (a:=a) (b:=7) (c:=f) (act:=false) θ
  have q2:=ZdG (e:=newEnd a 7 f false) (now:=0) hl (by simp [newEnd]) k1 (by simp [Zd5,newEnd]) (by simp [newEnd])
  have q3:=Zh9 hl (Zvh (a:=a) (b:=b) (f:=f) (g:=g) (W:=W) (m:=m) (t:=0)) k2
  have q4:=ZdG (e:=Zc3 a b f g W m 0) (now:=0) hl (by simp [Zc3,synE,newEnd]) k3 (by simp [Zd5,newEnd,Zc3,synE]) (by simp [newEnd,Zc3,synE])
  rw [Zvi (.inl rfl)] at q2
  rw [Zvg] at q4
  rw [Zld,Zld] at q2 q3 q4
  have b1:=fun θ=>Zhb k1 θ
  have b3:=fun θ=>Zhb k3 θ
  obtain ⟨e1,he1⟩:∃x,x=newEnd a 7 f false:=⟨_,rfl⟩
  obtain ⟨e2,he2⟩:∃x,x=synE a b f g W m:=⟨_,rfl⟩
  obtain ⟨e3,he3⟩:∃x,x=Zc3 a b f g W m 0:=⟨_,rfl⟩
  obtain ⟨e4,he4⟩:∃x,x=Zc7 a b f g W m 0:=⟨_,rfl⟩
  rw [←he1] at q1 q2
  rw [←he2] at q2 q3
  rw [←he3] at q3 q4
  rw [←he4] at q4 ⊢
  simp [Zds,ZhM,←ha,←hb,←hf,←hg,Zhg,b1,b3,q1,q2,q3,q4]
end
end
end My
namespace My
open PySem L2 L2.MM
noncomputable section
theorem Zru (x y z:Int) (θ:Sto):ZcV (.int x) (.tup [.int y,.int z]) θ=.ok (.bl (!decide (x=y∨x=z))) θ:=by
  have e:inD θ (.int x) (.tup [.int y,.int z])=some (decide (y=x) || (decide (z=x) || false)):=rfl
  have e2:(decide (y=x) || (decide (z=x) || false))=decide (x=y∨x=z):=by
    rw [Bool.eq_iff_iff]
    simp only [Bool.or_eq_true,decide_eq_true_eq,Bool.false_eq_true,or_false]
    constructor
    · rintro (h | h)
      · exact .inl h.symm
      · exact .inr h.symm
    · rintro (h | h)
      · exact .inl h.symm
      · exact .inr h.symm
  unfold ZcV
  rw [e,e2]
theorem ZqQ {z:Int} (h:0≤z∧z≤255) (θ:Sto):Zf8 [.int z] θ=.ok (.bl true) θ:=by
  have h1:Zgu [.int z,.ty "int"] θ=.ok (.bl true) θ:=rfl
  have h2:Zgu [.int z,.ty "bool"] θ=.ok (.bl false) θ:=rfl
  simp [Zf8,Zlm,h1,h2,h.1,h.2]
theorem ZrW {α:Type} (xs:List α):Zi2 (xs.map fun _=>D.bl true)=some (List.replicate xs.length true):=by
  induction xs with
  | nil=>rfl
  | cons x xs ih=>rw [List.map_cons,Zi2,ih]; rfl
theorem Zqy (n:Nat):(List.replicate n true).all id=true:=by
  induction n with
  | zero=>rfl
  | succ n ih=>rw [List.replicate_succ,List.all_cons,ih]; rfl
theorem ZqP {a:List Int} (h:Byt a) (hr:Zan a=true) (θ:Sto):Zf6 [il a] θ=.ok (Zbm a).d θ:=by
  obtain ⟨l1,l2,l3,l4⟩:=Zgt hr
  have hr':=hr
  unfold Zan at hr'
  simp only [Bool.and_eq_true,decide_eq_true_eq,Bool.or_eq_true] at hr'
  obtain ⟨r1,r2,r3,r4,r5,r6,r7⟩:=hr'
  have gg:∀i:Nat,i<a.length→0≤gt a i∧gt a i≤255:=fun i hi=>by
    unfold gt
    have:=h.1 a[i] (List.getElem_mem hi)
    rw [List.getD_eq_getElem?_getD,List.getElem?_eq_getElem hi]
    exact this
  have b13:=gg 13 (by omega)
  have b18:=gg 18 (by omega)
  have b19:=gg 19 (by omega)
  have ix:∀i:Nat,i<a.length→ixM (il a) (.int (i:Int)) θ=.ok (.int (gt a i)) θ:=fun i hi=>ZbW (a:=a) (θ:=θ) (i:=(i:Int)) (by omega) (by omega)
  have i12:ixM (il a) (.int 12) θ=.ok (.int (gt a 12)) θ:=ix 12 (by omega)
  have i13:ixM (il a) (.int 13) θ=.ok (.int (gt a 13)) θ:=ix 13 (by omega)
  have i18:ixM (il a) (.int 18) θ=.ok (.int (gt a 18)) θ:=ix 18 (by omega)
  have i19:ixM (il a) (.int 19) θ=.ok (.int (gt a 19)) θ:=ix 19 (by omega)
  have z5:gt a 18+gt a 19=0:=by unfold at2 at r5; simp only [Nat.reduceAdd] at r5; omega
  have len20:¬(a.length:Int)<20:=by omega
  have R1:∀r,b_l_read_1 (.val (il a)::r) θ=.ok (.nx,.val (il a)::r) θ:=by
    intro r
    simp [b_l_read_1,isT,len20]
  have R2:∀r,b_l_read_2 (.val (il a)::r) θ=.ok (.nx,.val (il a)::r) θ:=by
    intro r
    have cp:=Zm6 (ρ:=.val (il a)::r) (θ:=θ) (fi:=mIn (Zd 0)) (src:=[]) (elt:=mCB Zf8 (Zc (Zd 0) Zk)) (d:=il a) (xs:=a.map D.int) (θ':=θ) (fun _=>.bl true) (by simp) rfl (by have:=h.2; simp [BIG]; omega) (by
      intro x hx
      obtain ⟨z,hz,rfl⟩:=List.mem_map.mp hx
      simp [ZqQ (h.1 z hz)])
    have al:Zqz [D.lst ((a.map D.int).map fun _=>D.bl true)] θ=.ok (.bl true) θ:=by
      rw [ZuE,ZrW]
      simp only [Zqy]
    obtain ⟨q,hq⟩:∃x,x=D.lst ((a.map D.int).map fun _=>D.bl true):=⟨_,rfl⟩
    rw [←hq] at cp al
    simp [b_l_read_2,cp,al]
  have hb:Zbc a=gt a 12/4:=by unfold Zbc; rcases r2 with e | e<;>rw [e]<;>rfl
  have q4:gt a 12/4≤a.length∧(a.length:Int)≤gt a 12/4+16:=by rw [←hb]; omega
  have R3:∀r,b_l_read_3 (.val (il a)::r) θ=.ok (.nx,.val (il a)::r) θ:=by
    intro r
    simp [b_l_read_3,i12,i13,i18,i19,Zru,r2,z5,show ¬(31:Int)<gt a 13 by omega]
  have fo:=Zh3 h θ
  rw [r7] at fo
  have R4:∀r,b_l_read_4 (.val (il a)::.val (.int (gt a 12/4))::r) θ=.ok (.nx,.val (il a)::.val (.int (gt a 12/4))::r) θ:=by
    intro r
    simp [b_l_read_4,fo,q4.1,q4.2]
  obtain ⟨hd,hhd⟩:∃x,x=gt a 12/4:=⟨_,rfl⟩
  rw [←hhd] at R4 hb q4
  have R6:∀x y,b_l_read_6 [.val (il a),.val (.int hd),.val (.int 0),x,y] θ=.ok (.nx,[.val (il a),.val (.int hd),.val (.int (if Zbc a=24 then at2 a 22 else 0)),x,y]) θ:=by
    intro x y
    by_cases c:hd=24
    · have lo:=(l2.resolve_left (by rw [hb,c]; decide)).2
      have i20:gt a 20=2∧gt a 21=4∧gt a 13/2 % 2=1∧4≤at2 a 22:=by
        have:=lo.2
        unfold longOk at this
        simp only [Bool.and_eq_true,decide_eq_true_eq] at this
        obtain ⟨t1,t2,t3,t4⟩:=this
        rw [ZvN (by omega) (by omega)] at t1
        exact ⟨t2,t3,t1,t4⟩
      obtain ⟨e20,e21,e13,e22⟩:=i20
      have i22:ixM (il a) (.int 22) θ=.ok (.int (gt a 22)) θ:=ix 22 (by omega)
      have i23:ixM (il a) (.int 23) θ=.ok (.int (gt a 23)) θ:=ix 23 (by omega)
      have cu:ZbM a (some 20) (some 22)=[2,4]:=by
        have:ZbM a (some 20) (some 22)=[gt a 20,gt a 21]:=by
          rw [ZrP _ (by decide) (by decide),show (20:Int).toNat=20 from rfl,show (22:Int).toNat-20=2 from rfl,List.drop_eq_getElem_cons (show 20<a.length by omega),List.drop_eq_getElem_cons (show 21<a.length by omega)]
          rw [List.take_succ_cons,List.take_succ_cons,List.take_zero]
          unfold gt
          rw [List.getD_eq_getElem?_getD,List.getD_eq_getElem?_getD,List.getElem?_eq_getElem (show 20<a.length by omega),List.getElem?_eq_getElem (show 21<a.length by omega)]
          rfl
        rw [this,e20,e21]
      have m22:gt a 22*256+gt a 23=at2 a 22:=by unfold at2; simp only [Nat.reduceAdd]; omega
      have mb:ZeL (gt a 22) 256:=.inr (by omega)
      rw [hb,if_pos c]
      simp [b_l_read_6,ZhL,c,i22,i23,i13,e13,cu,m22,mb,show ¬at2 a 22<4 by omega]
    · rw [hb,if_neg c]
      simp [b_l_read_6,c]
  have cp:=fun y z=>Zm7 (ρ:=[.val (il a),.val (.int hd),.val (.int (if Zbc a=24 then at2 a 22 else 0)),y,z]) (θ:=θ) (fi:=Zd3 (Zc (mC (.int 8)) Zk)) (src:=[0])
    (elt:=mOp ZV (mOp ZcW (mC (.int 256)) (mOp ixM (Zd 1) (mOp ZcW (mC (.int 2)) (Zd 0)))) (mOp ixM (Zd 1) (mOp ZV (mOp ZcW (mC (.int 2)) (Zd 0)) (mC (.int 1))))) (lo:=0) (n:=8) (θ':=θ) (fun k=>.int (256*gt a (2*k).toNat+gt a (2*k+1).toNat))
    (by simp) (by simp [BIG]) (by
      intro i hi
      have j1:=ZbW (a:=a) (θ:=θ) (i:=2*(i:Int)) (by omega) (by omega)
      have j2:=ZbW (a:=a) (θ:=θ) (i:=2*(i:Int)+1) (by omega) (by omega)
      simp [ZeL,j1,j2])
  have wl:(List.range 8).map (fun (i:Nat)=>D.int (256*gt a (2*((0:Int)+(i:Int))).toNat+gt a (2*((0:Int)+(i:Int))+1).toNat))=[.int (at2 a 0),.int (at2 a 2),.int (at2 a 4),.int (at2 a 6),.int (at2 a 8),.int (at2 a 10),.int (at2 a 12),.int (at2 a 14)]:=rfl
  have dr:ZbM a (some hd) none=a.drop hd.toNat:=Zdv a (by omega)
  have c4:at2 a 4*65536+at2 a 6=at4 a 4:=by unfold at4; simp only [Nat.reduceAdd]; omega
  have c8:at2 a 8*65536+at2 a 10=at4 a 8:=by unfold at4; simp only [Nat.reduceAdd]; omega
  obtain ⟨most,hmo⟩:∃x,x=if Zbc a=24 then at2 a 22 else 0:=⟨_,rfl⟩
  rw [←hmo] at R6 cp
  unfold Zbm
  rw [←hmo,hb]
  obtain ⟨W,hW⟩:∃x,x=(List.range 8).map (fun (i:Nat)=>D.int (256*gt a (2*((0:Int)+(i:Int))).toNat+gt a (2*((0:Int)+(i:Int))+1).toNat)):=⟨_,rfl⟩
  rw [←hW] at wl
  simp only [←hW] at cp
  have w0:ixM (.lst W) (.int 0) θ=.ok (.int (at2 a 0)) θ:=by rw [wl]; rfl
  have w1:ixM (.lst W) (.int 1) θ=.ok (.int (at2 a 2)) θ:=by rw [wl]; rfl
  have w2:ixM (.lst W) (.int 2) θ=.ok (.int (at2 a 4)) θ:=by rw [wl]; rfl
  have w3:ixM (.lst W) (.int 3) θ=.ok (.int (at2 a 6)) θ:=by rw [wl]; rfl
  have w4:ixM (.lst W) (.int 4) θ=.ok (.int (at2 a 8)) θ:=by rw [wl]; rfl
  have w5:ixM (.lst W) (.int 5) θ=.ok (.int (at2 a 10)) θ:=by rw [wl]; rfl
  have w7:ixM (.lst W) (.int 7) θ=.ok (.int (at2 a 14)) θ:=by rw [wl]; rfl
  obtain ⟨wd,hwd⟩:∃x,x=D.lst W:=⟨_,rfl⟩
  rw [←hwd] at w0 w1 w2 w3 w4 w5 w7
  simp only [←hwd] at cp
  have mb:∀x:Int,ZeL x 65536:=fun x=>.inr (by omega)
  simp [Zf6,Zlk,R1,R2,i12,R3,←hhd,R4,R6,cp,w0,w1,w2,w3,w4,w5,w7,mb,i13,dr,c4,c8,Seg.d]
end
end My
namespace My
open PySem L2 L2.MM
noncomputable section
inductive ZhR (t:Int):Zt→List Seg→Zt→Prop
  | nil {e e':Zt} (h:z8 e t=(none,e')):ZhR t e [] e'
  | cons {e e1 e':Zt} {s:Seg} {r:List Seg} (h:z8 e t=(some s,e1)) (hs:s.Ok) (hr:ZhR t e1 r e'):ZhR t e (s::r) e'
section
variable {θ:Sto} {l:Nat} {t:Int}
abbrev ZtT:SM:=Zr (Z9 4 (mCB ZbR (Zc (Zd 0) (Zc (Zd 1) Zk)))) (Zr Zde (ZdQ 2 (mCB Zf6 (Zc (Zd 4) Zk))))
theorem Zs0 (h:l+3 < θ.length) {e e':Zt} (g:z8 e t=(none,e')) (acc:List D) (x y:Sl):ZtT [.val (.ref l),.val (.int t),.own acc,x,y] (upE θ l e)=.ok (.rt (.lst acc),[.val (.ref l),.val (.int t),.val (.lst acc),x,.val (il [])]) (upE θ l e'):=by
  simp [Zia h g,Zde,Zbl]
theorem ZsZ (h:l+3 < θ.length) {e e':Zt} {s:Seg} (g:z8 e t=(some s,e')) (hs:s.Ok) (acc:List D) (ha:acc.length<BIG) (x y:Sl):ZtT [.val (.ref l),.val (.int t),.own acc,x,y] (upE θ l e)=.ok (.nx,[.val (.ref l),.val (.int t),.own (acc++[s.d]),x,.val (il (putL s))]) (upE θ l e'):=by
  have lr:=ZqP (Zl8 hs.put) (Zic hs) (upE θ l e')
  rw [Zmx hs] at lr
  simp [Zh9 h g hs,Zde,Zbl,Ztf,lr,ha]
theorem ZsY (h:l+3 < θ.length) {e e':Zt} {segs:List Seg} (g:ZhR t e segs e'):∀(xs:List D) (acc:List D) (x y:Sl),segs.length<xs.length→acc.length+segs.length<1000→
    ∃ρ,Zdu (.rng 0 40) ((List.range 40).map fun (i:Nat)=>D.int (0+(i:Int))) (gNm 3) ZtT xs [.val (.ref l),.val (.int t),.own acc,x,y] (upE θ l e)=.ok (.rt (.lst (acc++segs.map Seg.d)),ρ) (upE θ l e'):=by
  induction g with
  | nil g=>
    intro xs acc x y hx ha
    match xs,hx with
    | d::xs,_=>
      refine ⟨[.val (.ref l),.val (.int t),.val (.lst acc),.val d,.val (il [])],?_⟩
      simp only [Zdu,ZcK,if_true]
      have:gNm 3 d [.val (.ref l),.val (.int t),.own acc,x,y]=some [.val (.ref l),.val (.int t),.own acc,.val d,y]:=rfl
      rw [this]
      simp only
      rw [Zs0 h g]
      simp [Ze0,R.bind]
  | cons g hs _ ih=>
    intro xs acc x y hx ha
    match xs,hx with
    | d::xs,hx=>
      obtain ⟨ρ,q⟩:=ih xs (acc++[Seg.d _]) (.val d) (.val (il (putL _))) (by simpa using hx) (by simp at ha ⊢; omega)
      refine ⟨ρ,?_⟩
      simp only [Zdu,ZcK,if_true]
      have:gNm 3 d [.val (.ref l),.val (.int t),.own acc,x,y]=some [.val (.ref l),.val (.int t),.own acc,.val d,y]:=rfl
      rw [this]
      simp only
      rw [ZsZ h g hs acc (by simp [BIG] at ha ⊢; omega)]
      simp only [R.bind,Ze0]
      rw [q]
      simp
theorem ZeO (h:l+3 < θ.length) {e e':Zt} {segs:List Seg} (g:ZhR t e segs e') (hl:segs.length<40):ZbU [.ref l,.int t] (upE θ l e)=.ok (.lst (segs.map Seg.d)) (upE θ l e'):=by
  obtain ⟨ρ,q⟩:=ZsY h g ((List.range 40).map fun (i:Nat)=>D.int (0+(i:Int))) [] .no .no (by simpa using hl) (by simp; omega)
  have q2:ZeH [.val (.ref l),.val (.int t),.own [],.no,.no] (upE θ l e)=.ok (.rt (.lst (segs.map Seg.d)),ρ) (upE θ l e'):=by
    rw [List.nil_append] at q
    rw [←q]
    simp [ZeH,Zf4]
  simp [ZbU,ZiF,q2]
end
end
end My
namespace My
open PySem L2 L2.MM
noncomputable section
end
end My
namespace My
open PySem L2 L2.MM
noncomputable section
structure Q where
  st:State
  una:Int
  nxt:Int
  beh:Int
  rcv:Int
  told:Int
  by_:Int
  wnd:Int
  most:Int
  written:List Int
  come:List Int
  fin:Option Int
  cl:Bool
  oa:Bool
  pr:Bool
  since:Int
  wait:Int
  tries:Int
def qE (a b f g:Int) (q:Q):Zt:=⟨a,b,q.st,.none,f,Zy f q.una,Zy f q.nxt,Zy g q.rcv,q.wnd,Zy g q.told,Zy f q.by_,q.most,q.written,q.come,[],q.fin.map (Zy g ·),q.cl,Zy f q.beh,none,false,q.oa,q.pr,q.since,q.wait,q.tries⟩
def q0 (W m:Int) (t:Int):Q:=⟨.opn,1,1,1,1,1,1,W,if m=0 then 12 else m,[],[],none,false,false,false,t,1000,0⟩
theorem Zvn {n j k:Int} (h1 : -2147483648≤j-k) (h2:j-k<2147483648):ZW (Zy n j) (Zy n k)=j-k:=ZeP ⟨h1,h2⟩
theorem Zmd {n j k:Int} (h1 : -2147483648≤j-k) (h2:j-k<2147483648):ZbQ (Zy n j) (Zy n k)=decide (0<j-k):=by
  unfold ZbQ
  rw [Zvn h1 h2]
theorem Zma {n j k:Int} (h1:0≤j) (h2:0≤k) (h3:j<4294967296) (h4:k<4294967296):(Zy n j=Zy n k)↔j=k:=Zfq ⟨h1,h2,h3,h4⟩
theorem Zrj (n:Nat) (xs:List Int):pls n (xs.map D.int)=true:=by
  induction xs with
  | nil=>simp [pls]
  | cons x r ih=>simp [pls,ih,pl]
theorem ZpE (xs:List Int):Zec (xs.map D.int)=true:=by
  induction xs with
  | nil=>simp [Zec]
  | cons x r ih=>simp [Zec,ih,noB]
theorem Ztk (n:Nat) (s:Seg):pl (n+2) s.d=true:=by
  unfold Seg.d
  simp only [pl,pls,pl,Bool.true_and,Bool.and_true]
  unfold itp
  simp only [pl]
  exact Zrj _ _
theorem Zrv (s:Seg):noB s.d=true:=by
  unfold Seg.d
  simp only [noB,Zec,Bool.true_and,Bool.and_true]
  unfold itp
  simp only [noB]
  exact ZpE _
theorem ZkH (n:Nat) (r:List Seg):pls (n+2) (r.map Seg.d)=true:=by
  induction r with
  | nil=>simp [pls]
  | cons s r ih=>simp [pls,ih,Ztk]
theorem Zii (r:List Seg):Zec (r.map Seg.d)=true:=by
  induction r with
  | nil=>simp [Zec]
  | cons s r ih=>simp [Zec,ih,Zrv]
theorem Zq3 {s t:Seg} (h:s.d=t.d):s=t:=by
  obtain ⟨⟩:=s
  obtain ⟨⟩:=t
  unfold Seg.d itp at h
  simp only [D.tup.injEq,List.cons.injEq,D.int.injEq,and_true] at h
  obtain ⟨h1,h2,h3,h4,h5,h6,h7,h8⟩:=h
  have:∀xs ys:List Int,xs.map D.int=ys.map D.int→xs=ys:=by
    intro xs
    induction xs with
    | nil=>intro ys hy; cases ys with
      | nil=>rfl
      | cons _ _=>simp at hy
    | cons x xs ih=>intro ys hy; cases ys with
      | nil=>simp at hy
      | cons y ys=>
        simp only [List.map_cons,List.cons.injEq,D.int.injEq] at hy
        rw [hy.1,ih ys hy.2]
  have:=this _ _ h8
  subst h1 h2 h3 h4 h5 h6 h7 this
  rfl
open Classical in
theorem Zmo (x y:List Seg) (θ:Sto):neM (.lst (x.map Seg.d)) (.lst (y.map Seg.d)) θ=.ok (.bl (!decide (x=y))) θ:=by
  rw [Zhl (Zdf (by simpa [pl,look] using ZkH 6 x) (by simpa [pl,look] using ZkH 6 y) (by simpa [noB,look] using Zii x) (by simpa [noB,look] using Zii y))]
  congr 3
  simp only [look,D.lst.injEq]
  have:∀x y:List Seg,x.map Seg.d=y.map Seg.d↔x=y:=by
    intro x
    induction x with
    | nil=>intro y; cases y<;>simp
    | cons s x ih=>intro y; cases y with
      | nil=>simp
      | cons t y=>
        simp only [List.map_cons,List.cons.injEq,ih]
        exact ⟨fun h=>⟨Zq3 h.1,h.2⟩,fun h=>⟨by rw [h.1],h.2⟩⟩
  exact decide_eq_decide.mpr (this x y)
end
end My
namespace My
open PySem L2 L2.MM
noncomputable section
section
variable {e:Zt} {t:Int}
theorem Zng (h1:e.owed_reset=none) (h2:e.state=.closed):z8 e t=(none,e):=by
  simp [z8,h1,h2]
structure Calm (e:Zt) (t:Int):Prop where
  rst:e.owed_reset=none
  st:e.state∉[State.closed,.listen,.synSent,.synCome]
  tw:e.state=.timeWait→t-e.since<120000
  due:¬e.nxt=e.una→t-e.since<e.wait
theorem Calm.go (c:Calm e t):z8 e t=ZbX e t:=by
  have hs:=c.st
  simp only [List.mem_cons,List.not_mem_nil,or_false,not_or] at hs
  have h1:¬(e.state=.timeWait∧120000≤t-e.since):=fun h=>by have:=c.tw h.1; omega
  have h2:¬(e.state=.closed∨e.state=.listen):=fun h=>h.elim hs.1 hs.2.1
  have h3:¬(¬e.nxt=e.una∧Zdt e t=true):=fun h=>by
    have:=c.due h.1
    have h2:=h.2
    unfold Zdt at h2
    simp at h2
    omega
  unfold z8
  rw [c.rst]
  simp only [if_neg h1]
  rw [if_neg h2,if_neg h3]
theorem Calm.notSyn (c:Calm e t):¬(e.state=.synSent∨e.state=.synCome):=by
  have hs:=c.st
  simp only [List.mem_cons,List.not_mem_nil,or_false,not_or] at hs
  exact fun h=>h.elim hs.2.2.1 hs.2.2.2
theorem Calm.quiet (c:Calm e t) (hm:Zbh e=false∨(¬e.nxt=e.una∧e.wnd-ZW e.nxt e.una≤0)) (hp:e.probes=false):z8 e t=z7 e:=by
  have a1:zq e t=(none,e):=by
    unfold zq
    rw [if_neg c.notSyn,if_pos (hm.elim .inr fun h=>.inl h.2)]
  have a2:zl e t=(none,e):=by
    unfold zl
    rw [if_pos (hm.elim (fun h=>.inr (.inr h)) fun h=>.inl h.1)]
    obtain ⟨⟩:=e
    simp only at hp
    subst hp
    rfl
  rw [c.go]
  unfold ZbX
  rw [a1]
  simp only [a2]
theorem Zp4 (c:Calm e t) (hm:Zbh e=false∨(¬e.nxt=e.una∧e.wnd-ZW e.nxt e.una≤0)) (hp:e.probes=false) (ho:e.owes_answer=false):z8 e t=(none,e):=by
  rw [c.quiet hm hp]
  simp [z7,ho]
theorem Znh (c:Calm e t) (hm:Zbh e=false∨(¬e.nxt=e.una∧e.wnd-ZW e.nxt e.una≤0)) (hp:e.probes=false) (ho:e.owes_answer=true):z8 e t=(some (ZcB e e.nxt 0 []),{ e with owes_answer:=false }):=by
  rw [c.quiet hm hp]
  simp [z7,ho]
theorem ZtR (c:Calm e t) (hw:0<e.wnd-ZW e.nxt e.una) (hm:Zbh e=true):z8 e t=(some (ZaH { (if e.nxt=e.una then startTimer e t else e) with owes_answer:=false } (e.wnd-ZW e.nxt e.una)).1,(ZaH { (if e.nxt=e.una then startTimer e t else e) with owes_answer:=false } (e.wnd-ZW e.nxt e.una)).2):=by
  have a1:zq e t=(some (ZaH { (if e.nxt=e.una then startTimer e t else e) with owes_answer:=false } (e.wnd-ZW e.nxt e.una)).1,(ZaH { (if e.nxt=e.una then startTimer e t else e) with owes_answer:=false } (e.wnd-ZW e.nxt e.una)).2):=by
    unfold zq
    rw [if_neg c.notSyn,if_neg (by rw [hm]; simp; omega)]
  rw [c.go]
  unfold ZbX
  rw [a1]
theorem ZtS (c:Calm e t) (hn:e.nxt=e.una) (hw:0<e.wnd) (hd:Zb7 e=0) (hs:e.state∈[State.waitOne,.closing,.lastAck]):z8 e t=(some (ZcB e e.nxt 1 []),{ e with since:=t,wait:=1000,tries:=0,owes_answer:=false,probes:=false,nxt:=Zy e.nxt 1 }):=by
  have nf:hasNewFin e=true:=by unfold hasNewFin; simp [hs,hd]
  have nd:zL e=false:=by unfold zL; simp [hd]
  have o:ZW e.nxt e.una=0:=by rw [hn,Zpu]
  rw [ZtR c (by rw [o]; omega) (by unfold Zbh; rw [nf,nd]; rfl),if_pos hn]
  unfold ZaH
  rw [if_neg (by rw [show zL { startTimer e t with owes_answer:=false }=zL e from rfl,nd]; decide)]
  rfl
end
section
variable {e:Zt} {s:Seg} {t:Int}
theorem Zg0 (hs:e.state∉[State.closed,.listen,.synSent]) (hf:ZcX e s=true) (h4:bears s 4=false) (h2:bears s 2=false) (h16:bears s 16=true):Zb6 e s t=if (Zag e s t).1=true then z6 (Zag e s t).2 s t else (Zag e s t).2:=by
  have:Zb6 e s t=zS e s t:=by
    unfold Zb6
    simp only [List.mem_cons,List.not_mem_nil,or_false,not_or] at hs
    split
    · rename_i h; exact absurd h hs.1
    · rename_i h; exact absurd h hs.2.1
    · rename_i h; exact absurd h hs.2.2
    · rfl
  rw [this]
  unfold zS
  rw [hf,h4,h2,h16]
  simp
theorem Zlc (hs:e.state∉[State.closed,.listen,.synSent]):Zb6 e s t=zS e s t:=by
  unfold Zb6
  simp only [List.mem_cons,List.not_mem_nil,or_false,not_or] at hs
  split
  · rename_i h; exact absurd h hs.1
  · rename_i h; exact absurd h hs.2.1
  · rename_i h; exact absurd h hs.2.2
  · rfl
end
end
end My
namespace My
open PySem L2 L2.MM
noncomputable section
section
variable {a b f g W m t:Int}
def qA (W m:Int) (n t:Int):Q:=⟨.waitOne,1,n,1,1,1,1,W,m,[],[],none,true,false,false,t,1000,0⟩
def qB (W m:Int) (t:Int):Q:=⟨.waitTwo,2,2,1,1,1,2,W,m,[],[],none,true,false,false,t,1000,0⟩
def qC (W m:Int) (oa:Bool) (t:Int):Q:=⟨.closing,1,2,1,2,1,1,W,m,[],[],some 1,true,oa,false,t,1000,0⟩
def qT (W m:Int) (told:Int) (oa:Bool) (t:Int):Q:=⟨.timeWait,2,2,1,2,told,2,W,m,[],[],some 1,true,oa,false,t,1000,0⟩
def qO (W m:Int) (t:Int):Q:=⟨.opn,1,1,1,1,1,1,W,m,[],[],none,false,false,false,t,1000,0⟩
theorem Zzl:Zev (qE a b f g (qO W m t))=(true,qE a b f g (qA W m 1 t)):=by simp [Zev,qE,qO,qA]
theorem Zqk {t':Int} (hw:0<W):Zb6 (qE a b f g (qA W m 2 t)) ⟨b,a,Zy g 1,Zy f 2,16,W,0,[]⟩ t'=qE a b f g (qB W m t):=by
  have w0:¬W=0:=by omega
  rw [Zg0 (by simp [qE,qA]) (by simp [ZcX,qE,qA]) (by simp) (by simp) (by simp)]
  simp [qA,qB,qE,Zag,zE,Zbv,Zmd,isNewer,Zci,Zap,Zc4,Zma,Zak,z6,Zcl,zy,w0]
theorem ZrT {t':Int} (hw:0<W):Zb6 (qE a b f g (qA W m 2 t)) ⟨b,a,Zy g 1,Zy f 1,17,W,0,[]⟩ t'=qE a b f g (qC W m true t):=by
  have w0:¬W=0:=by omega
  rw [Zg0 (by simp [qE,qA]) (by simp [ZcX,inWin,ZS,qE,qA]) (by simp) (by simp) (by simp)]
  simp [qA,qC,qE,Zag,zE,Zbv,Zmd,isNewer,Zci,Zap,Zc4,Zma,Zak,z6,Zcl,zy,w0,ZdS]
theorem ZrU {t':Int} (hw:0<W):Zb6 (qE a b f g (qB W m t)) ⟨b,a,Zy g 1,Zy f 2,17,W,0,[]⟩ t'=qE a b f g (qT W m 1 true t'):=by
  have w0:¬W=0:=by omega
  rw [Zg0 (by simp [qE,qB]) (by simp [ZcX,inWin,ZS,qE,qB]) (by simp) (by simp) (by simp)]
  simp [qB,qT,qE,Zag,zE,Zbv,Zmd,isNewer,Zci,Zap,Zc4,Zma,Zak,z6,Zcl,zy,w0,ZdS]
theorem ZrS {t':Int} (hw:0<W):Zb6 (qE a b f g (qC W m true t)) ⟨b,a,Zy g 2,Zy f 2,16,W,0,[]⟩ t'=qE a b f g (qT W m 2 true t'):=by
  have w0:¬W=0:=by omega
  rw [Zg0 (by simp [qE,qC]) (by simp [ZcX,inWin,ZS,qE,qC]) (by simp) (by simp) (by simp)]
  simp [qC,qT,qE,Zag,zE,Zbv,Zmd,isNewer,Zci,Zap,Zc4,Zma,Zak,z6,Zcl,zy,w0,ZdS]
def ZeX (a b f g:Int) (n r:Int) (fl:Int):Seg:=⟨a,b,Zy f n,Zy g r,fl,64,0,[]⟩
theorem ZqC {n r fl:Int} (ha:0≤a∧a≤65535) (hb:0≤b∧b≤65535) (hf:0≤fl∧fl≤31):(ZeX a b f g n r fl).Ok:=Zen ha hb (zy _ _) (zy _ _) hf (by omega) (.inl rfl) ZcG
theorem ZvA (hw:0<W):z8 (qE a b f g (qA W m 1 0)) t=(some (ZeX a b f g 1 1 17),qE a b f g (qA W m 2 t)):=by
  rw [ZtS ⟨rfl,by simp [qE,qA],by simp [qE,qA],by simp [qE,qA]⟩ rfl (by simpa [qE,qA] using hw) (by simp [Zb7,qE,qA]) (by simp [qE,qA])]
  simp [qE,qA,ZcB,ZS,ZeX,Zak]
structure Still (q:Q) (t:Int):Prop where
  st:q.st∉[State.closed,.listen,.synSent,.synCome]
  tw:q.st=.timeWait→t-q.since<120000
  due:¬q.nxt=q.una→t-q.since<q.wait
  pr:q.pr=false
  un:q.beh≤q.nxt∧q.nxt-q.beh<1000∧0≤q.una∧q.una≤q.nxt∧q.nxt<1000
  fin:q.beh=q.nxt→q.st∉[State.waitOne,.closing,.lastAck]
theorem Still.calm {q:Q} (h:Still q t):Calm (qE a b f g q) t:=⟨rfl,h.st,h.tw,fun z=>h.due fun y=>z (by show Zy f q.nxt=Zy f q.una; rw [y])⟩
theorem Still.more {q:Q} (h:Still q t):Zbh (qE a b f g q)=false:=by
  have hu:=h.un
  have u:Zb7 (qE a b f g q)=q.beh-q.nxt:=ZeP (by omega)
  have d:zL (qE a b f g q)=false:=by
    unfold zL
    rw [u]
    simp; intro _; omega
  have n:hasNewFin (qE a b f g q)=false:=by
    unfold hasNewFin
    rw [u]
    by_cases c:q.beh=q.nxt
    · have:=h.fin c
      simp only [Bool.and_eq_false_iff,decide_eq_false_iff_not]
      exact .inl this
    · simp only [Bool.and_eq_false_iff,decide_eq_false_iff_not]
      right; omega
  unfold Zbh
  rw [d,n]; rfl
theorem Still.no {q:Q} (h:Still q t) (ho:q.oa=false):z8 (qE a b f g q) t=(none,qE a b f g q):=Zp4 h.calm (.inl h.more) h.pr ho
theorem Still.ack {q:Q} (h:Still q t) (ho:q.oa=true) (hc:q.come=[]):z8 (qE a b f g q) t=(some (ZeX a b f g q.nxt q.rcv 16),qE a b f g { q with oa:=false }):=by
  rw [Znh h.calm (.inl h.more) h.pr ho]
  simp [ZcB,ZeX,qE,ZS,hc]
theorem ZyM {s:Int} (h:t-s<1000):Still (qA W m 2 s) t:=⟨by simp [qA],by simp [qA],by simp [qA]; omega,rfl,by simp [qA],by simp [qA]⟩
theorem Zq1 {s:Int} {u:Int} {oa:Bool} (h:t-s<120000):Still (qT W m u oa s) t:=⟨by simp [qT],by simp [qT]; omega,by simp [qT],rfl,by simp [qT],by simp [qT]⟩
theorem Zp1 {q:Q} (h:Still q t) (ho:q.oa=false):ZhR t (qE a b f g q) [] (qE a b f g q):=.nil (h.no ho)
theorem Zp2 {q:Q} (h:Still q t) (ho:q.oa=true) (hc:q.come=[]) (ha:0≤a∧a≤65535) (hb:0≤b∧b≤65535):ZhR t (qE a b f g q) [ZeX a b f g q.nxt q.rcv 16] (qE a b f g { q with oa:=false }):=
  .cons (h.ack ho hc) (ZqC ha hb (by omega)) (.nil (Still.no (q:={ q with oa:=false }) ⟨h.st,h.tw,h.due,h.pr,h.un,h.fin⟩ rfl))
end
end
end My
namespace My
open PySem L2 L2.MM
noncomputable section
theorem ZrK {nE:EM} {body:SM} {k:Nat} {ρ:List Sl} {θ:Sto} {j:Int} (Inv:Nat→List Sl→Sto→Prop) (Ret:D→Prop) (hn:nE ρ θ=.ok (.int j) θ) (h0:0≤j) (h1:j≤1000) (hi:Inv 0 ρ θ)
    (step:∀(i:Nat) ρ θ,i<j.toNat→Inv i ρ θ→(∃ρ' θ',body (ρ.set k (.val (.int (i:Int)))) θ=.ok (.nx,ρ') θ'∧Inv (i+1) ρ' θ')∨(∃d ρ' θ',body (ρ.set k (.val (.int (i:Int)))) θ=.ok (.rt d,ρ') θ'∧Ret d)) (hk:∀i ρ θ,Inv i ρ θ→k < ρ.length) :
    (∃ρ' θ',Zf4 (Zd3 (Zc nE Zk)) (gNm k) body ρ θ=.ok (.nx,ρ') θ'∧Inv j.toNat ρ' θ')∨(∃d ρ' θ',Zf4 (Zd3 (Zc nE Zk)) (gNm k) body ρ θ=.ok (.rt d,ρ') θ'∧Ret d):=by
  obtain ⟨all,hall⟩:∃x,x=(List.range j.toNat).map fun (i:Nat)=>D.int (0+(i:Int)):=⟨_,rfl⟩
  have hm:Zf4 (Zd3 (Zc nE Zk)) (gNm k) body ρ θ=Zdu (.rng 0 j.toNat) all (gNm k) body all ρ θ:=by
    unfold Zf4
    have:Zd3 (Zc nE Zk) ρ θ=.ok (.rng 0 j.toNat) θ:=by simp [hn]; omega
    rw [this,R.bind_ok]
    simp only [ZcK,←hall]
  rw [hm]
  have key:∀(m:Nat) ρ θ,m≤j.toNat→Inv (j.toNat-m) ρ θ→(∃ρ' θ',Zdu (.rng 0 j.toNat) all (gNm k) body (all.drop (j.toNat-m)) ρ θ=.ok (.nx,ρ') θ'∧Inv j.toNat ρ' θ')∨(∃d ρ' θ',Zdu (.rng 0 j.toNat) all (gNm k) body (all.drop (j.toNat-m)) ρ θ=.ok (.rt d,ρ') θ'∧Ret d):=by
    intro m
    induction m with
    | zero=>
      intro ρ θ _ hI
      left
      refine ⟨ρ,θ,?_,by simpa using hI⟩
      rw [Nat.sub_zero,List.drop_eq_nil_of_le (by rw [hall]; simp)]
      simp [Zdu,hall]
    | succ m ih=>
      intro ρ θ hm hI
      have hlt:j.toNat-(m+1)<j.toNat:=by omega
      have hla:j.toNat-(m+1)<all.length:=by rw [hall]; simpa using hlt
      have e:j.toNat-(m+1)+1=j.toNat-m:=by omega
      have hx:all[j.toNat-(m+1)]=D.int (((j.toNat-(m+1):Nat):Int)):=by simp [hall]
      have hg:gNm k (D.int (((j.toNat-(m+1):Nat):Int))) ρ=some (ρ.set k (.val (.int ((j.toNat-(m+1):Nat):Int)))):=by
        have:=hk _ _ _ hI
        simp [gNm,this]
      have hit:(Src.rng 0 j.toNat).items θ=some all:=by rw [ZcK,hall]
      rw [List.drop_eq_getElem_cons hla,hx,e]
      simp only [Zdu,hit,if_true,hg]
      rcases step _ ρ θ hlt hI with ⟨ρ',θ',h,hI'⟩ | ⟨d,ρ',θ',h,hR⟩
      · rw [h,R.bind_ok,ZeN]
        exact ih ρ' θ' (by omega) (by rw [←e]; exact hI')
      · right
        exact ⟨d,ρ',θ',by rw [h]; rfl,hR⟩
  have:=key j.toNat ρ θ (Nat.le_refl _) (by rw [Nat.sub_self]; exact hi)
  rw [Nat.sub_self,List.drop_zero] at this
  exact this
end
end My
namespace L2.MM
open PySem L2
structure BE (X:Cx) (e:Expr) (f:EM):Prop where
  h:ME X e f
structure BA (X:Cx) (es:List Expr) (f:AM):Prop where
  h:MA X es f
structure BS (X:Cx) (st:Stmt) (f:SM):Prop where
  h:MS X st f
section
variable {X:Cx} {e:Expr} {es:List Expr} {f:EM} {fs:AM} {pos:Pos}
theorem ZvP (h:ME X e f):BE X e f:=⟨h⟩
theorem ZtZ {i j}:BE X (.Constant (.int i) j pos) (mC (.int i)):=⟨Zi⟩
theorem ZtY (h:BA X es fs):BE X (.List es pos) (ZaC fs):=⟨zo h.h⟩
theorem Zff:BA X [] Zk:=⟨Ze⟩
theorem Za2 {i j} (h:BA X es fs):BA X (.Constant (.int i) j pos::es) (Zc (mC (.int i)) fs):=⟨Za Zi h.h rfl⟩
theorem ZrY (h0:BE X e f) (h:BA X es fs):BA X (.UnaryOp .USub e pos::es) (Zc (ZpQ f) fs):=⟨Za (ZtJ h0.h) h.h rfl⟩
theorem Zi3 {c} {es':List Expr} {fs':AM} (h0:BA X es' fs') (h:BA X es fs):BA X (.Tuple es' c pos::es) (Zc (Zaa fs') fs):=⟨Za (ZZ h0.h) h.h rfl⟩
theorem Zi4 {es':List Expr} {fs':AM} (h0:BA X es' fs') (h:BA X es fs):BA X (.List es' pos::es) (Zc (ZaC fs') fs):=⟨Za (zo h0.h) h.h rfl⟩
theorem Zqr (i:Nat) {x:Str} {e1 a b:Expr} {o:Operator} {f1 f2:EM} {p1 p2 p3 p4:Pos} (hN:X.N.Nodup) (h1:BE X e1 f1) (h2:BE X (.BinOp a o b p4) f2) (hi:X.N[i]?=some x) (hx:Loc X.env.scope x) (hf:X.fn x=true∨X.env.scope.names.lookup x=some .local):BS X (.Assign [.Name x p1] (.Subscript e1 (.BinOp a o b p4) p2) p3) (Z9 i (mOp ixM f1 f2)):=⟨ZI i hN (ZA ZB h1.h h2.h (fun _ _=>rfl)) hi hx rfl hf⟩
theorem Zm4 {st:Stmt} {rest:List Stmt} {f g:SM} (h1:BS X st f) (h2:MSs X rest g):MSs X (st::rest) (Zr f g):=Zg h1.h h2
end
end L2.MM
namespace PySem.W.Fast
def tw12673716660377383936:=0
def tw17372075498939903008:=0
def tw13894557726018303008:=0
def tw17693944064762816640:=0
def tw5702713191925935328:=0
def tw13640743936129840544:=0
def tw4265728536346040832:=0
def tw1410791314640248352:=0
def tw881986483237167680:=0
def tw11872108440657972832:=0
def tw9207391763933784672:=0
def tw8305236623736301184:=0
def tw2993140119681698464:=0
def tw1198615393840945856:=0
def tw7415385149126030048:=0
def tw4109839633764492032:=0
def tw18188316235375039296:=0
def tw14814349086441312:=0
def tw15741423938180784000:=0
def tw8957381042849949568:=0
def tw6023723432777392032:=0
def tw6864548310587327392:=0
def tw7417378485154698144:=0
def tw15325679707800388544:=0
def tw16878849549384964097:=0
def tw12641898473457387553:=0
def tw3300115012503774273:=0
def tw11685548152824103009:=0
def tw17365896234550856801:=0
def tw12631372256113006721:=0
def tw7594115864126007425:=0
def tw5845579021260751073:=0
def tw3549373612760954113:=0
def tw12465722626388288801:=0
def tw17679841316796889441:=0
def tw11029423751285224897:=0
def tw17119038087068561889:=0
def tw8895714414585264641:=0
def tw5213171646274547233:=0
def tw14088750003155308097:=0
def tw14968194791189099105:=0
def tw8322402110339949217:=0
def tw11776460821348765345:=0
def tw9524714364575172289:=0
def tw14797243193439993569:=0
def tw11575185026037009121:=0
def tw4407453349408438081:=0
def tw6609776463322858369:=0
def tw12364757995223860097:=0
def tw5756915390201271201:=0
def tw7392953747200874433:=0
def tw5616217956714709985:=0
def tw15787138136186700802:=0
def tw12028828927601974306:=0
def tw818387630319404098:=0
def tw10829463838412965986:=0
def tw13205975452061044834:=0
def tw13610930216184651874:=0
def tw15207694703621698882:=0
def tw9825444702017337698:=0
def tw10395705583108131202:=0
def tw9022592092646234530:=0
def tw12495862854299427266:=0
def tw6135519915789436354:=0
def tw14004085167422314978:=0
def tw1832618069651300834:=0
def tw6681901974482744802:=0
def tw8635195034785417794:=0
def tw13297748405341148770:=0
def tw1686849671176362626:=0
def tw2507194339651792514:=0
def tw16652216002281097954:=0
def tw9164687803585009442:=0
def tw2153899384180883330:=0
def tw17491780201808842626:=0
def tw1377725573538155490:=0
def tw3055833698096518114:=0
def tw14521916694318210179:=0
def tw7982536292618713251:=0
def tw6669659106436892835:=0
def tw15829977481242907971:=0
def tw234978026516827459:=0
def tw5918534594137978243:=0
def tw12158398239625058723:=0
def tw15812761552748421635:=0
def tw17854452415874693667:=0
def tw6416842435095166499:=0
def tw13702228282127765059:=0
def tw1547711188546768515:=0
def tw6151522128484695683:=0
def tw11101813767609704163:=0
def tw13646578253835757283:=0
def tw1145645187510760259:=0
def tw14586527072654628739:=0
def tw12616415773853337475:=0
def tw5117135315656584099:=0
def tw13716637346299432867:=0
def tw642138227379097507:=0
def tw8365601554775844803:=0
def tw13035459280659466211:=0
def tw6381544637321447492:=0
def tw576866179203771524:=0
def tw14709404175226332292:=0
def tw11034359858995640516:=0
def tw17216334231683675396:=0
def tw3808921784779734308:=0
def tw16490825496460676420:=0
def tw15206806070127874372:=0
def tw8363336839565285732:=0
def tw6335165291613369700:=0
def tw5445630750518921572:=0
def tw15528683505123560836:=0
def tw14451708676963022244:=0
def tw5811803458470708740:=0
def tw15681546621605359108:=0
def tw1337878582117857796:=0
def tw1202873628319517220:=0
def tw15590752607044909668:=0
def tw8599959014797294212:=0
def tw17426234099071895172:=0
def tw14411044806086820644:=0
def tw5357019267149966116:=0
def tw6698902508866521924:=0
def tw6859604250968352612:=0
def tw3168218155170733956:=0
def tw1385687286057634756:=0
def tw12722812130901302244:=0
def tw11588055545980619781:=0
def tw13213168657729542213:=0
def tw2491061440384016485:=0
def tw12509814218530894949:=0
def tw8881487725000700037:=0
def tw13078418880083353733:=0
def tw8325172982309308613:=0
def tw17353242901832652005:=0
def tw8934125872136910085:=0
def tw7979398944593577349:=0
def tw1154663451281778149:=0
def tw8368061479185263109:=0
def tw11388979691848918533:=0
def tw9602390593981738501:=0
def tw6039231898584205893:=0
def tw6174492578772779653:=0
def tw10898543320103478949:=0
def tw13598857300950603461:=0
def tw6633328778336887493:=0
def tw16433457207493205765:=0
def tw9209725434759062341:=0
def tw17421494580903561029:=0
def tw12144757221674504037:=0
def tw15348334506632729445:=0
def tw17858030813198689189:=0
def tw11061670099678008261:=0
def tw9578694159499677637:=0
def tw5407621796552858630:=0
def tw5491371777295480870:=0
def tw5135474128529621094:=0
def tw16961795810161559654:=0
def tw8721879711144923238:=0
def tw7558537039457995942:=0
def tw9499904362516387014:=0
def tw5412039002421544166:=0
def tw4586142629937484134:=0
def tw13481211251642459494:=0
def tw10360485284349304294:=0
def tw15146317597165580774:=0
def tw12970094153908782630:=0
def tw11120973119331796550:=0
def tw11703886050688841286:=0
def tw8221876740011658854:=0
def tw13765357620480503398:=0
def tw10426300907807237830:=0
def tw10248887854564414182:=0
def tw1969725830292741958:=0
def tw6458573287451665222:=0
def tw5494067777099442150:=0
def tw12001791775324683271:=0
def tw2681390199474138151:=0
def tw16776051209092939815:=0
def tw4859663375285193799:=0
def tw13713255918695959623:=0
def tw15071405351972702407:=0
def tw5821964667209059527:=0
def tw6190333357674081607:=0
def tw4633700441601314183:=0
def tw1575811510246006183:=0
def tw16258783785686628839:=0
def tw13008436833532885511:=0
def tw103514868128182823:=0
def tw17641470388930852679:=0
def tw841806599745217383:=0
def tw16661902856049876935:=0
def tw12486643867292918727:=0
def tw15615783046436535304:=0
def tw1732816174792338568:=0
def tw14363786203757549928:=0
def tw18268292994681288040:=0
def tw7311791984054632840:=0
def tw5809287537910144392:=0
def tw1051033166340536744:=0
def tw9965624473403466312:=0
def tw17544731565362890376:=0
def tw16554759916485777064:=0
def tw3567211828457231144:=0
def tw13255233774136380232:=0
def tw5404924271985130312:=0
def tw15674384500031767432:=0
def tw12025095623150506952:=0
def tw1668583386757207016:=0
def tw3426896414915917833:=0
def tw14843961785629234217:=0
def tw10300548377390771241:=0
def tw14838810868015859849:=0
def tw7336493102962026697:=0
def tw16509969097254906089:=0
def tw14543466449811248521:=0
def tw9893768265856725417:=0
def tw16244631667261220297:=0
def tw7222090366333666857:=0
def tw5118858427861260841:=0
def tw67028278571966025:=0
def tw1793783308087546441:=0
def tw12413647234193834665:=0
def tw12608959367863783081:=0
def tw3248778042099094185:=0
def tw2822436972004276009:=0
def tw13494594249055383369:=0
def tw17884470846060007273:=0
def tw9880934842421198729:=0
def tw8260140495670333385:=0
def tw11344517295373866953:=0
def tw10456331900470035433:=0
def tw15983642747021871081:=0
def tw5040105386568323082:=0
def tw17305442009774385322:=0
def tw6808235745165701290:=0
def tw5568352258545405162:=0
def tw12014516856120249642:=0
def tw8454365297871423818:=0
def tw9917674779388504394:=0
def tw7047498757269566858:=0
def tw7007414778087793034:=0
def tw8887232380624413098:=0
def tw13144376472714506666:=0
def tw15918127579503189482:=0
def tw16432870923001352714:=0
def tw9598001824037991946:=0
def tw15221229876999671338:=0
def tw9027318614949820010:=0
def tw492435029557008010:=0
def tw455836742497237642:=0
def tw14432195841939678890:=0
def tw8532286049462141610:=0
def tw9746036701418571434:=0
def tw15434740133576787626:=0
def tw4541042948748834634:=0
def tw39054282014324586:=0
def tw3152341522100074378:=0
def tw11160193931919378346:=0
def tw9715444773644260298:=0
def tw3309567911213904874:=0
def tw2331461943821500394:=0
def tw1375692847089976427:=0
def tw5966953413183095915:=0
def tw10057775227028245707:=0
def tw4688819481047741707:=0
def tw10530321679643698443:=0
def tw11970828254339267915:=0
def tw6152660060312281451:=0
def tw1052715111534961003:=0
def tw3558054775926142347:=0
def tw3273691602482589163:=0
def tw10567199157837546091:=0
def tw15949060319796739755:=0
def tw12280598116407010987:=0
def tw6165471791182020299:=0
def tw5234706125112705771:=0
def tw10760310189782989547:=0
def tw10701956979099846411:=0
def tw18376921718513952555:=0
def tw6906407574503071563:=0
def tw4446587470122320779:=0
def tw18142824526883040139:=0
def tw3748669496614251403:=0
def tw17348679447719150507:=0
def tw13901139656413119403:=0
def tw15860995829049510891:=0
def tw13017574058148002795:=0
def tw14109939832624260108:=0
def tw9554783360388653100:=0
def tw16407616207467054188:=0
def tw10749165967103125644:=0
def tw11293634076431546508:=0
def tw16712112773497181356:=0
def tw5635727138124418252:=0
def tw17977780191805608172:=0
def tw9894849669869413644:=0
def tw7142494922579754348:=0
def tw3843096461289040268:=0
def tw14001220853460876684:=0
def tw17787951980273878412:=0
def tw9927863728005893580:=0
def tw16271822062142714316:=0
def tw16131073692904111596:=0
def tw7124377370717966860:=0
def tw3314809545495077580:=0
def tw15345087314036231916:=0
def tw5864571163780226796:=0
def tw894054909438292716:=0
def tw10579578220323795788:=0
def tw3179525097504778124:=0
def tw4007611856549108620:=0
def tw2829397842253251532:=0
def tw5650679969460041676:=0
def tw4756555081688061005:=0
def tw17633450939168887917:=0
def tw14286525420924183661:=0
def tw14328932219928157325:=0
def tw740191967784863949:=0
def tw14091646900358385869:=0
def tw14228779237263217901:=0
def tw14792466529643384045:=0
def tw9596960036848271629:=0
def tw8404006092865241389:=0
def tw8839080337031718189:=0
def tw1190684010163619405:=0
def tw16462384670063037037:=0
def tw11281427811943089805:=0
def tw9072749986432585389:=0
def tw4341769998175191725:=0
def tw8962340145783917229:=0
def tw6780383105245350637:=0
def tw5003534507613567725:=0
def tw2528215742491517677:=0
def tw1486220051931928365:=0
def tw575776534856876845:=0
def tw10663947546844296013:=0
def tw6501324905123915693:=0
def tw5749546051132961806:=0
def tw14090845292114426894:=0
def tw9371297126104001582:=0
def tw1421048956873721934:=0
def tw5118865734374296686:=0
def tw13364373154786414702:=0
def tw4407257865798197422:=0
def tw2750710506074791182:=0
def tw4687006370336675118:=0
def tw5944932090087053614:=0
def tw8635751390897418542:=0
def tw4043910826836223278:=0
def tw15497204342120181070:=0
def tw11678922070603823470:=0
def tw13861402974548393358:=0
def tw6860913959283274158:=0
def tw2129178176411839022:=0
def tw2130136871746952846:=0
def tw15220560551175971470:=0
def tw8950282628468175502:=0
def tw1922286474903227054:=0
def tw16144947797465711310:=0
def tw11589158250320490190:=0
def tw17326727424648179406:=0
def tw13099946501520491278:=0
def tw17727535789815661454:=0
def tw1765482210086029198:=0
def tw15802317292929070990:=0
def tw1525905563104996238:=0
def tw687364002556409838:=0
def tw1361881556947575855:=0
def tw6972421459425675407:=0
def tw6784543020593814767:=0
def tw13695101010055517423:=0
def tw11067302577874249071:=0
def tw9779412995680004463:=0
def tw258667611188249999:=0
def tw5302065057506755151:=0
def tw15165963158462697135:=0
def tw7847540400390252271:=0
def tw1405890349414197999:=0
def tw9211013637373371183:=0
def tw15879668886650747727:=0
def tw10159652114820270959:=0
def tw1798011340144691151:=0
def tw1538401664939132911:=0
def tw6409645630289078288:=0
def tw9412286811248573552:=0
def tw553772408960475344:=0
def tw1128422924577152240:=0
def tw10718678831472535792:=0
def tw17494359520152975632:=0
def tw1087112122370261296:=0
def tw12726108892978933104:=0
def tw5229048230544601456:=0
def tw13463210724066936208:=0
def tw6083503981969750448:=0
def tw11807091080617473488:=0
def tw3216288040840085968:=0
def tw3656328807004139984:=0
def tw11577562885617058288:=0
def tw6550005323265798640:=0
def tw7790694999757202000:=0
def tw11991132343760835184:=0
def tw8493817132212696752:=0
def tw16069474667927455440:=0
def tw11852144066317124336:=0
def tw17284680793922730768:=0
def tw9887718440265939728:=0
def tw3621938971337984944:=0
def tw6010882837655077840:=0
def tw14342193950720149488:=0
def tw3804051028555762801:=0
def tw5342830775246827633:=0
def tw17370308771503275121:=0
def tw8404683213846191249:=0
def tw2590486239191363729:=0
def tw4975527386242214193:=0
def tw4168511491167860081:=0
def tw14481261381581211089:=0
def tw2890455699819023857:=0
def tw353669050802524689:=0
def tw8541725729845368337:=0
def tw17802913854317193745:=0
def tw12301529260464761393:=0
def tw18317640459317901905:=0
def tw14260063056770724497:=0
def tw14192711292052484849:=0
def tw14897392486805659409:=0
def tw18028698052389430225:=0
def tw14324432133556178929:=0
def tw9492391199836982290:=0
def tw1381438240658992178:=0
def tw13845932929123745938:=0
def tw2904032216159221906:=0
def tw16788317217002726642:=0
def tw16889356195822076210:=0
def tw13676886519789216050:=0
def tw10341664091784988050:=0
def tw1643625248401790386:=0
def tw6441870800033370610:=0
def tw17855569574578203154:=0
def tw6674417944940307026:=0
def tw3137248896073132658:=0
def tw7947926858666314418:=0
def tw9267180408693243570:=0
def tw6347170370283895474:=0
def tw1579342391292189426:=0
def tw6388649688540264210:=0
def tw16969734977752077106:=0
def tw14638581974931699506:=0
def tw8844628490363745106:=0
def tw8123395919259767666:=0
def tw329371948089487250:=0
def tw8834679789669521362:=0
def tw15945272214977435634:=0
def tw562310703956861971:=0
def tw6399190389889827891:=0
def tw2760002749098199091:=0
def tw2829645071757348915:=0
def tw16229700057838134323:=0
def tw8863505339938066547:=0
def tw9034115772561172659:=0
def tw206567979902985459:=0
def tw16958101953093523731:=0
def tw67549969653577075:=0
def tw3331324209244717427:=0
def tw14484916392675149267:=0
def tw17283441734222203347:=0
def tw10004831582687035891:=0
def tw16615672122265040371:=0
def tw1275242791404829171:=0
def tw257484964342565395:=0
def tw17239757192902447635:=0
def tw15085950612903662099:=0
def tw650618911319367187:=0
def tw11845363015863561811:=0
def tw8673198926468970067:=0
def tw8461240323437626995:=0
def tw2794743824503965299:=0
def tw875479643639419507:=0
def tw17744782018105143923:=0
def tw12252035010629618323:=0
def tw13375802129982100211:=0
def tw3953339898663844595:=0
def tw5691795647821344499:=0
def tw2097513471702148883:=0
def tw2793816569240427347:=0
def tw5594525374914886483:=0
def tw14330567091082234739:=0
def tw6140322308687209395:=0
def tw7167471998948606931:=0
def tw8524795158521791732:=0
def tw3413752305841940756:=0
def tw8985602159722245396:=0
def tw18322188527688132980:=0
def tw16121664348794566100:=0
def tw2623699357075785172:=0
def tw11050169294617727508:=0
def tw2487145992786791028:=0
def tw2075243169253462804:=0
def tw13741103554615058196:=0
def tw17093814202104218420:=0
def tw18078523068141255476:=0
def tw12892111807507994484:=0
def tw4487119150912716788:=0
def tw7976941490199097332:=0
def tw10963206608581690421:=0
def tw7749780699107783733:=0
def tw13159161810282805397:=0
def tw8766391813639446741:=0
def tw5461240602411902165:=0
def tw9955801638699485429:=0
def tw8184711621765023989:=0
def tw10614323431976252693:=0
def tw11654880407816084821:=0
def tw10095164680287993205:=0
def tw6832331814053924213:=0
def tw9746117620887644597:=0
def tw8682023453991730613:=0
def tw3063343569243825621:=0
def tw1626272781307880949:=0
def tw3235230310083972597:=0
def tw8727698593174966773:=0
def tw7102907934612932149:=0
def tw10053789350965118549:=0
def tw8145856824041465461:=0
def tw4374390454832098965:=0
def tw194607505179510453:=0
def tw8608928340418987797:=0
def tw16168685258091694997:=0
def tw2631442240941970325:=0
def tw8574356184576787445:=0
def tw9461204355803744245:=0
def tw6823101206593101813:=0
def tw10336565959608011894:=0
def tw17890987385025020054:=0
def tw10593067221652249782:=0
def tw11386667136191456470:=0
def tw10660772051989131478:=0
def tw6466700010397088022:=0
def tw10578460177347948950:=0
def tw7597392997283497430:=0
def tw5821238125821121078:=0
def tw14898262711480217142:=0
def tw5039807651293039222:=0
def tw17074070056070497942:=0
def tw4533633136990083798:=0
def tw751309196270709558:=0
def tw11532806816971940662:=0
def tw10764790036336129910:=0
def tw5114323957096978326:=0
def tw8806429989403644822:=0
def tw2422147695994104790:=0
def tw16416733835871294519:=0
def tw3533481158003139671:=0
def tw7128762935544622167:=0
def tw17368883781572182135:=0
def tw17658067374926827671:=0
def tw1100539793442045111:=0
def tw2609936629812233431:=0
def tw8096788270651288791:=0
def tw14916045760134097175:=0
def tw82806680934647095:=0
def tw15698358871626482999:=0
def tw13653831353667590487:=0
def tw11182952093954443799:=0
def tw7287817284357997079:=0
def tw6539264661122864663:=0
def tw64321572913799703:=0
def tw1258700879334860407:=0
def tw17254221498850820823:=0
def tw4726820723604624215:=0
def tw6982317884912770935:=0
def tw14009647663436572567:=0
def tw17136794112144856983:=0
def tw16186328271642500023:=0
def tw14137144225378380791:=0
def tw9895848382904956984:=0
def tw10659714505385206872:=0
def tw7170532882532663448:=0
def tw11946883209018902680:=0
def tw4462637944984402072:=0
def tw17229974809059159224:=0
def tw14047780503831266744:=0
def tw9338659116885466552:=0
def tw70209207478859224:=0
def tw12217445215626224088:=0
def tw16494831627095925272:=0
def tw722231612784254520:=0
def tw10988291364765749816:=0
def tw14747286080893743704:=0
def tw10867576307308187256:=0
def tw15982982671853935224:=0
def tw8651626397946750616:=0
def tw12319930566693014200:=0
def tw63207513888756440:=0
def tw7205199170300935896:=0
def tw1975440536294260440:=0
def tw12485267678106324728:=0
def tw9310657340769855288:=0
def tw4477438587165054808:=0
def tw4448384334330276728:=0
def tw14486027942550295448:=0
def tw5877833642083141624:=0
def tw15228683102523128921:=0
def tw9963132887190480057:=0
def tw7674411656256539897:=0
def tw1242394916562930969:=0
def tw16228893326309790009:=0
def tw1870986316243253625:=0
def tw4908936871200908697:=0
def tw2811281239967912377:=0
def tw11971756775245544921:=0
def tw3219445275094206969:=0
def tw5618265034398104057:=0
def tw2438853925229516313:=0
def tw6287599665046537785:=0
def tw15918923841220169305:=0
def tw11036002264645918297:=0
def tw9667360846028792473:=0
def tw4363066309679449849:=0
def tw2997136043364678425:=0
def tw6196706962527806329:=0
def tw80730110280350746:=0
def tw6968286014670457018:=0
def tw13873897509468017882:=0
def tw6474979388300707066:=0
def tw6884582911863748890:=0
def tw13803507493011535162:=0
def tw7061640633157512570:=0
def tw1339714007516442010:=0
def tw7517916367782654426:=0
def tw12781146415202631130:=0
def tw12004580748358248954:=0
def tw9766876133024526842:=0
def tw11912400292166163002:=0
def tw5504744084214988378:=0
def tw10342169922603961978:=0
def tw3245479658111447706:=0
def tw15062277909225237146:=0
def tw15419378601387777754:=0
def tw3677508444679722778:=0
def tw16344569482429763386:=0
def tw18096959112283766618:=0
def tw5546946978029397850:=0
def tw6186111506352116730:=0
def tw15068788631973640186:=0
def tw6660193166693535771:=0
def tw779897618318096443:=0
def tw15605838574925559899:=0
def tw2289412176996682939:=0
def tw2868572315317290203:=0
def tw9732693848090664187:=0
def tw13768214698989019419:=0
def tw3010278368788854075:=0
def tw12595902345697323387:=0
def tw17348475185897380283:=0
def tw9682587119173667291:=0
def tw6884540740251820539:=0
def tw12949774125712070139:=0
def tw16487684212836481563:=0
def tw4225216553894606363:=0
def tw10811040064871380539:=0
def tw7851147485337582171:=0
def tw17893529463060008667:=0
def tw7251860816391937755:=0
def tw17541056537761305371:=0
def tw688070664568172347:=0
def tw17693920487922726779:=0
def tw16098343883871593371:=0
def tw8052521618598451131:=0
def tw18001284989383013307:=0
def tw13412059860090254299:=0
def tw12898288062009762844:=0
def tw3347348952180676764:=0
def tw15804289207134054588:=0
def tw16152564807241507196:=0
def tw5844911678239354236:=0
def tw6853934564162099580:=0
def tw8803558603764367772:=0
def tw16862275642893677980:=0
def tw2934814266593100188:=0
def tw3201248239412007356:=0
def tw4837028780865053180:=0
def tw4138982825751897660:=0
def tw7714408324156882556:=0
def tw4909121844793328380:=0
def tw15886165037462770428:=0
def tw13503000590573663996:=0
def tw736149586544284540:=0
def tw10433842553960328060:=0
def tw13451395165559088028:=0
def tw3818672618636541852:=0
def tw1284191438677798844:=0
def tw9019183844391429084:=0
def tw4802005468541168604:=0
def tw4733535013878092764:=0
def tw8987576636936494076:=0
def tw3769544785741372412:=0
def tw12761195518399447036:=0
def tw14169357453674817629:=0
def tw433175469155025149:=0
def tw13129316074814974237:=0
def tw13662162006824352029:=0
def tw8706198569457466717:=0
def tw1979656783692953949:=0
def tw8192321935774339485:=0
def tw12714215555427353021:=0
def tw15913868867078545885:=0
def tw3157097173408262653:=0
def tw16111277419624857149:=0
def tw13319822822391304829:=0
def tw11327401686903045821:=0
def tw15341319323560257245:=0
def tw6655331232243717917:=0
def tw3153736738327467805:=0
def tw14313766523164889021:=0
def tw13825035734077655005:=0
def tw6445180571461114845:=0
def tw8455429910261388285:=0
def tw13699443318874249310:=0
def tw6436015740664130654:=0
def tw7488694192328476798:=0
def tw6266887416611584126:=0
def tw11145343718080644286:=0
def tw3275067624766119134:=0
def tw6285952286598966494:=0
def tw17769772312673824990:=0
def tw16962355315940310238:=0
def tw361358849643303166:=0
def tw16136390941257677246:=0
def tw9280959388560156094:=0
def tw14420909061358766558:=0
def tw2938861708616912382:=0
def tw7498609875095884318:=0
def tw3465357247610260030:=0
def tw13377431989191260734:=0
def tw11304211744643701310:=0
def tw17167153918871664190:=0
def tw16314930118200957534:=0
def tw14856402344029485662:=0
def tw3136805986281589374:=0
def tw8784843921206419070:=0
def tw429095083606476446:=0
def tw9559140953430277854:=0
def tw15357489163952394014:=0
def tw752451457799970718:=0
def tw9348065323050632126:=0
def tw3718133045699480542:=0
def tw1997980573247540222:=0
def tw6724247098243163134:=0
def tw8885209819043857439:=0
def tw10800627490156998687:=0
def tw10255140898550249567:=0
def tw2812893494577706143:=0
def tw15822600079784197279:=0
def tw5724597404848664767:=0
def tw13509788606552354015:=0
def tw5722838715932770559:=0
def tw3305063096216961343:=0
def tw11125709089268323679:=0
def tw17327163401480692063:=0
def tw12153543839657781599:=0
def tw14927368139839390143:=0
def tw9050779424971454975:=0
def tw17895305444876970527:=0
def tw8345953023549248063:=0
def tw663910750970885695:=0
def tw11987050405158920799:=0
def tw9809019639317721919:=0
def tw2558692172948796255:=0
def tw10030127111846679391:=0
def tw3658430908578438047:=0
def tw8205186884708572095:=0
def tw4678205244339375071:=0
def tw11019584109095806943:=0
def tw17312863833426098143:=0
def tw17954522719125475327:=0
def tw8478462852137534463:=0
def tw9576239372770103295:=0
def tw10061042482149781032:=0
end PySem.W.Fast
namespace My
open PySem L2 L2.MM
noncomputable section
def ZmI:SM:=(Zr (Z9 6 (Zaa (Zc (mCB ZbT (Zc (mOp ixM (Zd 0) (mC (.int 3))) (Zc (Zd 1) Zk))) (Zc (mCB ZbT (Zc (mOp ixM (Zd 0) (mC (.int 2))) (Zc (Zd 2) Zk))) Zk))))
  (ZJ (mCB ZcH (Zc (mCB Zdr (Zc (mOp ixM (Zd 0) (mC (.int 1))) (Zc (mOp ixM (Zd 6) (mC (.int 0))) (Zc (mOp ixM (Zd 6) (mC (.int 1))) (Zc (Zd 3) (Zc (Zd 4) (Zc (Zd 5) Zk))))))) Zk))))
def Zer:GM:=ZN 6 7 ZmI
def ZeK:SM:=(mIf (ZG (mOp eqM (Zd 1) (mC (.int 0)))) (Zr (zh (mCB zg (Zc (mOp ixM (Zd 0) (mC (.int 0))) (Zc (mCB Zer (Zc (Zd 0) (Zc (mC (.int 0)) (Zc (mC (.int 0)) (Zc (mC (.int 17)) (Zc (mC (.int 1000)) (Zc (ZaC Zk) Zk))))))) (Zc (Zd 2) Zk)))))
    (zh (mCB zg (Zc (mOp ixM (Zd 0) (mC (.int 0))) (Zc (mCB Zer (Zc (Zd 0) (Zc (mC (.int 1)) (Zc (mC (.int 1)) (Zc (mC (.int 16)) (Zc (mC (.int 1000)) (Zc (ZaC Zk) Zk))))))) (Zc (Zd 2) Zk)))))) (Zr (zh (mCB zg (Zc (mOp ixM (Zd 0) (mC (.int 0))) (Zc (mCB Zer (Zc (Zd 0) (Zc (mC (.int 0)) (Zc (mC (.int 1)) (Zc (mC (.int 16)) (Zc (mC (.int 1000)) (Zc (ZaC Zk) Zk))))))) (Zc (Zd 2) Zk)))))
    (zh (mCB zg (Zc (mOp ixM (Zd 0) (mC (.int 0))) (Zc (mCB Zer (Zc (Zd 0) (Zc (mC (.int 0)) (Zc (mC (.int 1)) (Zc (mC (.int 17)) (Zc (mC (.int 1000)) (Zc (ZaC Zk) Zk))))))) (Zc (Zd 2) Zk)))))))
def Zgl:SM:=(Zr (zh (mCB Zc5 (Zc (mOp ixM (Zd 0) (mC (.int 0))) Zk)))
  (Zr (zh (mCB ZbU (Zc (mOp ixM (Zd 0) (mC (.int 0))) (Zc (Zd 2) Zk))))
  ZeK))
def ZeS:GM:=ZN 3 3 Zgl
def Zgj:SM:=(mIf (ZG (mOp neM (mCB ZcE (Zc (Zd 2) Zk)) (mC (.str "time wait")))) (ZJ (mC (.bl false))) ZK)
def Zgi:SM:=(mIf (mOr (ZG (mOp neM (mCB ZbU (Zc (Zd 2) (Zc (Zd 4) Zk))) (ZaC (Zc (Zd 5) Zk)))) (ZG (mOp Zga (mCB Zc5 (Zc (Zd 2) Zk)) (mC (.bl false))))) (ZJ (mC (.bl false))) ZK)
def ZdD:SM:=(mIf (mOr (ZG (mOp neM (mCB ZbU (Zc (Zd 2) (Zc (Zd 4) Zk))) (ZaC Zk))) (ZG (mOp neM (mCB ZcE (Zc (Zd 2) Zk)) (mC (.str "time wait"))))) (ZJ (mC (.bl false))) ZK)
def ZdC:SM:=(mIf (ZG (mOp neM (mCB ZbU (Zc (Zd 2) (Zc (Zd 4) Zk))) (ZaC (Zc (Zd 5) Zk)))) (ZJ (mC (.bl false))) ZK)
def ZiE:SM:=(Zf4 (Zd3 (Zc (mOp Zba (mCB ZbH (Zc (Zd 0) (Zc (mC (.int 12)) Zk))) (mC (.int 5))) Zk)) (gNm 6) (Zr (Z9 4 (mOp ZV (Zd 4) (mOp ixM (ZaC (Zc (mC (.int 119999)) (Zc (mC (.int 1)) (Zc (mC (.int 60000)) (Zc (mOp Zba (mCB ZbH (Zc (Zd 0) (Zc (mOp ZV (mC (.int 13)) (Zd 6)) Zk))) (mC (.int 120000))) Zk))))) (mOp Zba (mCB ZbH (Zc (Zd 0) (Zc (mOp ZV (mC (.int 20)) (Zd 6)) Zk))) (mC (.int 4))))))
    (Zr ZdD
    (Zr (Z9 7 (mOp ixM (ZaC (Zc (Zaa (Zc (mC (.int 0)) (Zc (mC (.int 0)) (Zc (mC (.int 17)) (Zc (mC (.int 1000)) (Zc (ZaC Zk) Zk)))))) (Zc (Zaa (Zc (mC (.int 500)) (Zc (mC (.int 0)) (Zc (mC (.int 16)) (Zc (mC (.int 9)) (Zc (ZaC (Zc (mC (.int 1)) (Zc (mC (.int 2)) Zk))) Zk)))))) (Zc (Zaa (Zc (ZpQ (mC (.int 70))) (Zc (mC (.int 0)) (Zc (mC (.int 24)) (Zc (mC (.int 9)) (Zc (ZaC (Zc (mC (.int 3)) Zk)) Zk)))))) Zk)))) (mOp Zba (mCB ZbH (Zc (Zd 0) (Zc (mOp ZV (mC (.int 30)) (Zd 6)) Zk))) (mC (.int 3)))))
    (Zr (zh (mCB zg (Zc (Zd 2) (Zc (mCB Zer (Zc (Zd 1) (Zc (mOp ixM (Zd 7) (mC (.int 0))) (Zc (mOp ixM (Zd 7) (mC (.int 1))) (Zc (mOp ixM (Zd 7) (mC (.int 2))) (Zc (mOp ixM (Zd 7) (mC (.int 3))) (Zc (mOp ixM (Zd 7) (mC (.int 4))) Zk))))))) (Zc (Zd 4) Zk)))))
    ZdC)))))
def Zgh:SM:=(mIf (ZG (mOp eqM (mOp Zba (mCB ZbH (Zc (Zd 0) (Zc (mC (.int 40)) Zk))) (mC (.int 4))) (mC (.int 0)))) (ZJ (Zbu (mOp isM (mCB Zfu (Zc (Zd 2) Zk)) (mC (.bl true))) (Zbu (mOp eqM (mCB ZcE (Zc (Zd 2) Zk)) (mC (.str "closed"))) (mOp eqM (mCB ZbR (Zc (Zd 2) (Zc (Zd 4) Zk))) (ZaC Zk))))) ZK)
def ZiD:SM:=(mIf (mOr (ZG (mOp neM (mCB ZbU (Zc (Zd 2) (Zc (mOp ZV (Zd 4) (mC (.int 119999))) Zk))) (ZaC Zk))) (ZG (mOp neM (mCB ZcE (Zc (Zd 2) Zk)) (mC (.str "time wait"))))) (ZJ (mC (.bl false))) ZK)
def Zi6:SM:=(Zr (Z9 1 (mCB Zds (Zc (Zd 0) (Zc (mC (.int 0)) (Zc (mC (.int 1000)) (Zc (mC (.int 16)) Zk))))))
  (Zr (Z9 2 (mOp ixM (Zd 1) (mC (.int 0))))
  (Zr (Z9 3 (mOp ixM (Zd 1) (mC (.int 1))))
  (Zr (Z9 4 (mOp Zba (mCB ZbH (Zc (Zd 0) (Zc (mC (.int 10)) Zk))) (mC (.int 5000))))
  (Zr (zh (mCB ZeS (Zc (Zd 1) (Zc (mOp Zba (mCB ZbH (Zc (Zd 0) (Zc (mC (.int 11)) Zk))) (mC (.int 2))) (Zc (Zd 4) Zk)))))
  (Zr Zgj
  (Zr (Z9 5 (Zaa (Zc (mOp ixM (Zd 3) (mC (.int 0))) (Zc (mOp ixM (Zd 3) (mC (.int 1))) (Zc (mCB ZbT (Zc (mOp ixM (Zd 1) (mC (.int 2))) (Zc (mC (.int 1)) Zk))) (Zc (mCB ZbT (Zc (mOp ixM (Zd 1) (mC (.int 3))) (Zc (mC (.int 1)) Zk))) (Zc (mC (.int 16)) (Zc (mC (.int 64)) (Zc (mC (.int 0)) (Zc (Zaa Zk) Zk))))))))))
  (Zr Zgi
  (Zr ZiE
  (Zr Zgh
  (Zr ZiD
  (ZJ (Zbu (mOp eqM (mCB ZbU (Zc (Zd 2) (Zc (mOp ZV (Zd 4) (mC (.int 120000))) Zk))) (ZaC Zk)) (Zbu (mOp eqM (mCB ZcE (Zc (Zd 2) Zk)) (mC (.str "closed"))) (mOp eqM (mCB Zft (Zc (Zd 2) Zk)) (mC (.str "")))))))))))))))))
def ZkX:GM:=ZN 1 8 Zi6
section
variable {a b f g:Int} {ns:List Int} {B:Sto}
abbrev Zcp (a b f g:Int):D:=.tup [.ref 0,.tup [.int a,.int b],.int (Zy f 1),.int (Zy g 1)]
theorem mk1 (θ:Sto):ixM (Zcp a b f g) (.int 2) θ=.ok (.int (Zy f 1)) θ:=rfl
theorem mk2 (θ:Sto):ixM (Zcp a b f g) (.int 3) θ=.ok (.int (Zy g 1)) θ:=rfl
theorem Zee {n k fl w:Int} {x:List Int} (h:(Seg.mk b a (Zy g (1+n)) (Zy f (1+k)) fl w 0 x).Ok) (θ:Sto):Zer [Zcp a b f g,.int n,.int k,.int fl,.int w,il x] θ=.ok (il (putL (Seg.mk b a (Zy g (1+n)) (Zy f (1+k)) fl w 0 x))) θ:=by
  have hb:=Zhb h θ
  simp [Zer,ZmI,mk1,mk2,Zak,Zlr,hb]
theorem isf {q:Q} {n k fl w:Int} {x:List Int}:Zd5 (qE a b f g q) ⟨b,a,n,k,fl,w,0,x⟩=true:=by simp [Zd5,qE]
theorem arq (hl:0+3<B.length) {q:Q} {s:Seg} {t:Int} (hs:s.Ok) (hi:Zd5 (qE a b f g q) s=true) (hc:q.come=[]):zg [.ref 0,il (putL s),.int t] (upE B 0 (qE a b f g q))=.ok (.bl true) (upE B 0 (Zb6 (qE a b f g q) s t)):=ZdG hl (by show q.come.length≤64; rw [hc]; simp) hs hi (by simp [qE])
def Zlq (w:Int):Int:=if w=0 then 2 else 1
theorem Zqs (hl:0+3<B.length) (ha:0≤a∧a≤65535) (hb:0≤b∧b≤65535) {w now:Int} :
    ZeS [Zcp a b f g,.int w,.int now] (upE B 0 (qE a b f g (qO 1000 16 0)))=.ok .non (upE B 0 (qE a b f g (qT 1000 16 (Zlq w) true now))):=by
  have k1:(Seg.mk b a (Zy g (1+0)) (Zy f (1+0)) 17 1000 0 []).Ok:=Zen hb ha (zy _ _) (zy _ _) (by omega) (by omega) (.inl rfl) ZcG
  have k2:(Seg.mk b a (Zy g (1+1)) (Zy f (1+1)) 16 1000 0 []).Ok:=Zen hb ha (zy _ _) (zy _ _) (by omega) (by omega) (.inl rfl) ZcG
  have k3:(Seg.mk b a (Zy g (1+0)) (Zy f (1+1)) 16 1000 0 []).Ok:=Zen hb ha (zy _ _) (zy _ _) (by omega) (by omega) (.inl rfl) ZcG
  have k4:(Seg.mk b a (Zy g (1+0)) (Zy f (1+1)) 17 1000 0 []).Ok:=Zen hb ha (zy _ _) (zy _ _) (by omega) (by omega) (.inl rfl) ZcG
  have r1:=fun θ=>Zee k1 θ
  have r2:=fun θ=>Zee k2 θ
  have r3:=fun θ=>Zee k3 θ
  have r4:=fun θ=>Zee k4 θ
  have cl1:=Zl0 (θ:=B) (l:=0) (e:=qE a b f g (qO 1000 16 0)) hl
  rw [Zzl] at cl1
  have gA1:=ZeO (θ:=B) (l:=0) (t:=now) hl (.cons (ZvA (a:=a) (b:=b) (f:=f) (g:=g) (W:=1000) (m:=16) (by omega)) (ZqC ha hb (by omega)) (Zp1 (ZyM (by omega)) rfl)) (by simp)
  have a1:=arq (B:=B) (f:=f) (g:=g) (q:=qA 1000 16 2 now) (t:=now) hl k1 isf rfl
  have a2:=arq (B:=B) (f:=f) (g:=g) (q:=qC 1000 16 true now) (t:=now) hl k2 isf rfl
  have a3:=arq (B:=B) (f:=f) (g:=g) (q:=qA 1000 16 2 now) (t:=now) hl k3 isf rfl
  have a4:=arq (B:=B) (f:=f) (g:=g) (q:=qB 1000 16 now) (t:=now) hl k4 isf rfl
  simp only [Int.add_zero,Int.reduceAdd] at a1 a2 a3 a4 r1 r2 r3 r4
  rw [ZrT (by omega)] at a1
  rw [ZrS (by omega)] at a2
  rw [Zqk (by omega)] at a3
  rw [ZrU (by omega)] at a4
  have i0:∀θ:Sto,ixM (Zcp a b f g) (.int 0) θ=.ok (.ref 0) θ:=fun θ=>rfl
  obtain ⟨md,hmd⟩:∃x,x=Zcp a b f g:=⟨_,rfl⟩
  rw [←hmd]
  simp only [←hmd] at i0 r1 r2 r3 r4
  unfold Zlq
  by_cases c:w=0
  · simp [ZeS,Zgl,i0,cl1,gA1,ZeK,c,Zbl,r1,a1,r2,a2]
  · simp [ZeS,Zgl,i0,cl1,gA1,ZeK,c,Zbl,r3,a3,r4,a4]
theorem Zqv {u s t num ans fl w:Int} {x:List Int} (hn:num < -2∧-1000<num∧x.length=1∨100<num∧num<1000∧0<x.length∧x.length<10) (hfl:0≤fl∧fl≤31) (h4:fl/4 % 2=0) (h2:fl/2 % 2=0) (h1:fl % 2=0) :
    Zb6 (qE a b f g (qT 1000 16 u false s)) ⟨b,a,Zy g (1+num),ans,fl,w,0,x⟩ t=qE a b f g (qT 1000 16 u true t):=by
  rw [Zlc (by simp [qE,qT])]
  obtain ⟨sg,hs⟩:∃s:Seg,s=⟨b,a,Zy g (1+num),ans,fl,w,0,x⟩:=⟨_,rfl⟩
  have b4:bears sg 4=false:=by rw [hs]; simp [hfl.1,hfl.2,h4]
  have ls:ZlH sg=x.length:=by rw [hs]; simp [hfl.1,hfl.2,h2,h1]
  have sn:sg.num=Zy g (1+num):=by rw [hs]
  have ft:ZcX (qE a b f g (qT 1000 16 u false s)) sg=false:=by
    unfold ZcX inWin
    rw [ls,if_neg (by omega),sn]
    show ((decide (0≤ZW (Zy g (1+num)) (Zy g 2)) && decide (ZW (Zy g (1+num)) (Zy g 2)<64)) || (decide (0≤ZW (Zy (Zy g (1+num)) ((x.length:Int)-1)) (Zy g 2)) && decide (ZW (Zy (Zy g (1+num)) ((x.length:Int)-1)) (Zy g 2)<64)))=false
    rw [Zak,ZeP (by omega),ZeP (by omega)]
    simp
    omega
  rw [←hs]
  unfold zS ZcN
  rw [ft,b4]
  simp [qE,qT]
theorem ZrZ {u s t ans w:Int}:Zb6 (qE a b f g (qT 1000 16 u false s)) ⟨b,a,Zy g 1,ans,17,w,0,[]⟩ t=qE a b f g (qT 1000 16 u true t):=by
  rw [Zlc (by simp [qE,qT])]
  simp [zS,ZcN,ZcX,inWin,ZS,qE,qT,Zvn,Zak]
end
def Ze7 (ns:List Int) (i:Nat):Int:=gt [119999,1,60000,mix ns (13+(i:Int)) % 120000] (mix ns (20+(i:Int)) % 4).toNat
theorem Zq0 (ns:List Int) (i:Nat):0≤Ze7 ns i∧Ze7 ns i<120000:=by
  unfold Ze7
  have h:(mix ns (20+(i:Int)) % 4).toNat<4:=by omega
  match (mix ns (20+(i:Int)) % 4).toNat,h with
  | 0,_=>simp [gt]
  | 1,_=>simp [gt]
  | 2,_=>simp [gt]
  | 3,_=>simp [gt]; omega
abbrev body24:SM:=Zr (Z9 4 (mOp ZV (Zd 4) (mOp ixM (ZaC (Zc (mC (.int 119999)) (Zc (mC (.int 1)) (Zc (mC (.int 60000)) (Zc (mOp Zba (mCB ZbH (Zc (Zd 0) (Zc (mOp ZV (mC (.int 13)) (Zd 6)) Zk))) (mC (.int 120000))) Zk))))) (mOp Zba (mCB ZbH (Zc (Zd 0) (Zc (mOp ZV (mC (.int 20)) (Zd 6)) Zk))) (mC (.int 4))))))
    (Zr ZdD
    (Zr (Z9 7 (mOp ixM (ZaC (Zc (Zaa (Zc (mC (.int 0)) (Zc (mC (.int 0)) (Zc (mC (.int 17)) (Zc (mC (.int 1000)) (Zc (ZaC Zk) Zk)))))) (Zc (Zaa (Zc (mC (.int 500)) (Zc (mC (.int 0)) (Zc (mC (.int 16)) (Zc (mC (.int 9)) (Zc (ZaC (Zc (mC (.int 1)) (Zc (mC (.int 2)) Zk))) Zk)))))) (Zc (Zaa (Zc (ZpQ (mC (.int 70))) (Zc (mC (.int 0)) (Zc (mC (.int 24)) (Zc (mC (.int 9)) (Zc (ZaC (Zc (mC (.int 3)) Zk)) Zk)))))) Zk)))) (mOp Zba (mCB ZbH (Zc (Zd 0) (Zc (mOp ZV (mC (.int 30)) (Zd 6)) Zk))) (mC (.int 3)))))
    (Zr (zh (mCB zg (Zc (Zd 2) (Zc (mCB Zer (Zc (Zd 1) (Zc (mOp ixM (Zd 7) (mC (.int 0))) (Zc (mOp ixM (Zd 7) (mC (.int 1))) (Zc (mOp ixM (Zd 7) (mC (.int 2))) (Zc (mOp ixM (Zd 7) (mC (.int 3))) (Zc (mOp ixM (Zd 7) (mC (.int 4))) Zk))))))) (Zc (Zd 4) Zk)))))
    ZdC)))
section
variable {a b f g:Int} {ns:List Int} {B:Sto}
theorem ZrV (hl:0+3<B.length) (ha:0≤a∧a≤65535) (hb:0≤b∧b≤65535) {u now:Int} {i:Nat} {x:Sl} :
    ∃y,body24 [.val (.scr ns),.val (Zcp a b f g),.val (.ref 0),.val (.tup [.int a,.int b]),.val (.int now),.val (ZeX a b f g 2 2 16).d,.val (.int (i:Int)),x] (upE B 0 (qE a b f g (qT 1000 16 u false now))) =
      .ok (.nx,[.val (.scr ns),.val (Zcp a b f g),.val (.ref 0),.val (.tup [.int a,.int b]),.val (.int (now+Ze7 ns i)),.val (ZeX a b f g 2 2 16).d,.val (.int (i:Int)),y]) (upE B 0 (qE a b f g (qT 1000 16 u false (now+Ze7 ns i)))):=by
  have ist:=fun θ=>ZbW (a:=[119999,1,60000,mix ns (13+(i:Int)) % 120000]) (i:=mix ns (20+(i:Int)) % 4) (θ:=θ) (by omega) (by simp; omega)
  have hst:gt [119999,1,60000,mix ns (13+(i:Int)) % 120000] (mix ns (20+(i:Int)) % 4).toNat=Ze7 ns i:=rfl
  have sin:=Zq0 ns i
  obtain ⟨t,ht⟩:∃t,t=now+Ze7 ns i:=⟨_,rfl⟩
  simp only [hst] at ist
  have g0:=ZeO (θ:=B) (l:=0) (t:=t) hl (Zp1 (a:=a) (b:=b) (f:=f) (g:=g) (Zq1 (W:=1000) (m:=16) (s:=now) (u:=u) (oa:=false) (by omega)) rfl) (by decide)
  have g1:=ZeO (θ:=B) (l:=0) (t:=t) hl (Zp2 (a:=a) (b:=b) (f:=f) (g:=g) (Zq1 (W:=1000) (m:=16) (s:=t) (u:=u) (oa:=true) (by omega)) rfl rfl ha hb) (by simp)
  have e1:({ qT 1000 16 u true t with oa:=false }:Q)=qT 1000 16 u false t:=rfl
  rw [e1] at g1
  have nil0:D.lst (([]:List Seg).map Seg.d)=il []:=rfl
  rw [nil0] at g0
  have n2:(qT 1000 16 u true t).nxt=2∧(qT 1000 16 u true t).rcv=2:=⟨rfl,rfl⟩
  rw [n2.1,n2.2] at g1
  have nn:∀θ,neM (.lst ([ZeX a b f g 2 2 16].map Seg.d)) (.lst ([ZeX a b f g 2 2 16].map Seg.d)) θ=.ok (.bl false) θ:=fun θ=>by rw [Zmo]; simp
  simp only [List.map_cons,List.map_nil] at nn g1
  obtain ⟨R,hR⟩:∃x,x=D.lst [.tup [.int 0,.int 0,.int 17,.int 1000,il []],.tup [.int 500,.int 0,.int 16,.int 9,il [1,2]],.tup [.int (-70),.int 0,.int 24,.int 9,il [3]]]:=⟨_,rfl⟩
  have r0:∀θ:Sto,ixM R (.int 0) θ=.ok (.tup [.int 0,.int 0,.int 17,.int 1000,il []]) θ:=fun θ=>by rw [hR]; rfl
  have r1:∀θ:Sto,ixM R (.int 1) θ=.ok (.tup [.int 500,.int 0,.int 16,.int 9,il [1,2]]) θ:=fun θ=>by rw [hR]; rfl
  have r2:∀θ:Sto,ixM R (.int 2) θ=.ok (.tup [.int (-70),.int 0,.int 24,.int 9,il [3]]) θ:=fun θ=>by rw [hR]; rfl
  have t5:∀(v w x y z:D) (θ:Sto),ixM (.tup [v,w,x,y,z]) (.int 2) θ=.ok x θ∧ixM (.tup [v,w,x,y,z]) (.int 3) θ=.ok y θ∧ixM (.tup [v,w,x,y,z]) (.int 4) θ=.ok z θ:=fun v w x y z θ=>⟨rfl,rfl,rfl⟩
  have t2:=fun v w x y z θ=>(t5 v w x y z θ).1
  have t3:=fun v w x y z θ=>(t5 v w x y z θ).2.1
  have t4:=fun v w x y z θ=>(t5 v w x y z θ).2.2
  have ro:=fun (n k fl w:Int) (x:List Int) (h:(Seg.mk b a (Zy g (1+n)) (Zy f (1+k)) fl w 0 x).Ok) θ=>Zee h θ
  have k0:(Seg.mk b a (Zy g (1+0)) (Zy f (1+0)) 17 1000 0 []).Ok:=Zen hb ha (zy _ _) (zy _ _) (by omega) (by omega) (.inl rfl) ZcG
  have k1:(Seg.mk b a (Zy g (1+500)) (Zy f (1+0)) 16 9 0 [1,2]).Ok:=Zen hb ha (zy _ _) (zy _ _) (by omega) (by omega) (.inl rfl) (by simp)
  have k2:(Seg.mk b a (Zy g (1 + -70)) (Zy f (1+0)) 24 9 0 [3]).Ok:=Zen hb ha (zy _ _) (zy _ _) (by omega) (by omega) (.inl rfl) (by simp)
  have o0:=fun θ=>Zee k0 θ
  have o1:=fun θ=>Zee k1 θ
  have o2:=fun θ=>Zee k2 θ
  have a0:=arq (B:=B) (f:=f) (g:=g) (q:=qT 1000 16 u false now) (t:=t) hl k0 isf rfl
  have a1:=arq (B:=B) (f:=f) (g:=g) (q:=qT 1000 16 u false now) (t:=t) hl k1 isf rfl
  have a2:=arq (B:=B) (f:=f) (g:=g) (q:=qT 1000 16 u false now) (t:=t) hl k2 isf rfl
  rw [Zqv (.inr (by simp)) (by omega) (by omega) (by omega) (by omega)] at a1
  rw [Zqv (.inl (by simp)) (by omega) (by omega) (by omega) (by omega)] at a2
  have p1:Zy g (1+0)=Zy g 1:=by simp
  rw [p1] at a0 k0
  simp only [p1] at o0
  rw [ZrZ] at a0
  obtain ⟨s0,hs0⟩:∃s,s=putL (Seg.mk b a (Zy g 1) (Zy f (1+0)) 17 1000 0 []):=⟨_,rfl⟩
  obtain ⟨s1,hs1⟩:∃s,s=putL (Seg.mk b a (Zy g (1+500)) (Zy f (1+0)) 16 9 0 [1,2]):=⟨_,rfl⟩
  obtain ⟨s2,hs2⟩:∃s,s=putL (Seg.mk b a (Zy g (1 + -70)) (Zy f (1+0)) 24 9 0 [3]):=⟨_,rfl⟩
  rw [←hs0] at a0
  rw [←hs1] at a1
  rw [←hs2] at a2
  simp only [←hs0] at o0
  simp only [←hs1] at o1
  simp only [←hs2] at o2
  have sT:∀(oa:Bool) (z:Int),(qE a b f g (qT 1000 16 u oa z)).state=.timeWait:=fun _ _=>rfl
  obtain ⟨md,hmd⟩:∃x,x=Zcp a b f g:=⟨_,rfl⟩
  obtain ⟨tl,htl⟩:∃x,x=D.tup [.int a,.int b]:=⟨_,rfl⟩
  rw [←ht,←htl,←hmd]
  simp only [←hmd] at o0 o1 o2
  have c3:mix ns (30+(i:Int)) % 3=0∨mix ns (30+(i:Int)) % 3=1∨mix ns (30+(i:Int)) % 3=2:=by omega
  rcases c3 with c | c | c
  · refine ⟨.val (.tup [.int 0,.int 0,.int 17,.int 1000,il []]),?_⟩
    simp [ist,←ht,ZdD,g0,Zbl,hl,sT,←hR,c,r0,t2,t3,t4,o0,a0,ZdC,g1,nn]
  · refine ⟨.val (.tup [.int 500,.int 0,.int 16,.int 9,il [1,2]]),?_⟩
    simp [ist,←ht,ZdD,g0,Zbl,hl,sT,←hR,c,r1,t2,t3,t4,o1,a1,ZdC,g1,nn]
  · refine ⟨.val (.tup [.int (-70),.int 0,.int 24,.int 9,il [3]]),?_⟩
    simp [ist,←ht,ZdD,g0,Zbl,hl,sT,←hR,c,r2,t2,t3,t4,o2,a2,ZdC,g1,nn]
end
theorem law_true (ns:List Int) (hn:ns.length≤63):∃θ',ZkX [.scr ns] []=.ok (.bl true) θ':=by
  obtain ⟨a,ha⟩:∃x,x=mix ns 0 % 65536:=⟨_,rfl⟩
  obtain ⟨b,hb⟩:∃x,x=mix ns 1 % 65536:=⟨_,rfl⟩
  obtain ⟨f,hf⟩:∃x,x=Zbi (mix ns 2):=⟨_,rfl⟩
  obtain ⟨g,hg⟩:∃x,x=Zbi (mix ns 3):=⟨_,rfl⟩
  have ra:0≤a∧a≤65535:=by omega
  have rb:0≤b∧b≤65535:=by omega
  have lo:=ZmO (ns:=ns) (base:=0) (W:=1000) (m:=16) [] (by omega) (.inr (by omega))
  simp only [Int.zero_add,←ha,←hb,←hf,←hg,List.length_nil,List.nil_append] at lo
  have eo:Zc7 a b f g 1000 16 0=qE a b f g (qO 1000 16 0):=by simp [Zc7,qE,qO,newEnd]
  rw [eo] at lo
  obtain ⟨B,hB⟩:∃y,y=cells 0 (qE a b f g (qO 1000 16 0)):=⟨_,rfl⟩
  have hl:0+3<B.length:=by rw [hB]; simp [cells]
  have up:B=upE B 0 (qE a b f g (qO 1000 16 0)):=by rw [hB]; exact Zql _
  rw [←hB,up] at lo
  obtain ⟨now,hnow⟩:∃x,x=mix ns 10 % 5000:=⟨_,rfl⟩
  obtain ⟨u,hu⟩:∃u,u=Zlq (mix ns 11 % 2):=⟨_,rfl⟩
  have br:=Zqs (a:=a) (b:=b) (f:=f) (g:=g) (B:=B) (w:=mix ns 11 % 2) (now:=now) hl ra rb
  rw [←hu] at br
  have g1:=ZeO (θ:=B) (l:=0) (t:=now) hl (Zp2 (a:=a) (b:=b) (f:=f) (g:=g) (Zq1 (W:=1000) (m:=16) (s:=now) (u:=u) (oa:=true) (by omega)) rfl rfl ra rb) (by simp)
  have e1:({ qT 1000 16 u true now with oa:=false }:Q)=qT 1000 16 u false now:=rfl
  have n2:(qT 1000 16 u true now).nxt=2∧(qT 1000 16 u true now).rcv=2:=⟨rfl,rfl⟩
  rw [e1,n2.1,n2.2] at g1
  have nn:∀θ,neM (.lst ([ZeX a b f g 2 2 16].map Seg.d)) (.lst ([ZeX a b f g 2 2 16].map Seg.d)) θ=.ok (.bl false) θ:=fun θ=>by rw [Zmo]; simp
  simp only [List.map_cons,List.map_nil] at nn g1
  have cl:Zev (qE a b f g (qT 1000 16 u false now))=(false,qE a b f g (qT 1000 16 u false now)):=by simp [Zev,qE,qT]
  have tc:=Zl0 (θ:=B) (l:=0) (e:=qE a b f g (qT 1000 16 u false now)) hl
  rw [cl] at tc
  have sT:∀(oa:Bool) (z:Int),(qE a b f g (qT 1000 16 u oa z)).state=.timeWait:=fun _ _=>rfl
  have ad:D.tup [.int a,.int b,.int (Zy f 2),.int (Zy g 2),.int 16,.int 64,.int 0,.tup []]=(ZeX a b f g 2 2 16).d:=rfl
  have loop:=ZrK (nE:=mOp Zba (mCB ZbH (Zc (Zd 0) (Zc (mC (.int 12)) Zk))) (mC (.int 5))) (body:=body24) (k:=6) (ρ:=[.val (.scr ns),.val (Zcp a b f g),.val (.ref 0),.val (.tup [.int a,.int b]),.val (.int now),.val (ZeX a b f g 2 2 16).d,.no,.no]) (θ:=upE B 0 (qE a b f g (qT 1000 16 u false now))) (j:=mix ns 12 % 5)
    (fun _ ρ θ=>∃t x y,ρ=[.val (.scr ns),.val (Zcp a b f g),.val (.ref 0),.val (.tup [.int a,.int b]),.val (.int t),.val (ZeX a b f g 2 2 16).d,x,y]∧θ=upE B 0 (qE a b f g (qT 1000 16 u false t))) (fun _=>False) (by simp) (by omega) (by omega) ⟨now,_,_,rfl,rfl⟩
    (by
      rintro i ρ θ hi ⟨t,x,y,rfl,rfl⟩
      obtain ⟨z,hz⟩:=ZrV (a:=a) (b:=b) (f:=f) (g:=g) (ns:=ns) (B:=B) (u:=u) (now:=t) (i:=i) (x:=y) hl ra rb
      exact .inl ⟨_,_,hz,_,_,_,rfl,rfl⟩)
    (by rintro i ρ θ ⟨t,x,y,rfl,rfl⟩; simp)
  rcases loop with ⟨ρ',θ',hlp,t,x,y,rfl,rfl⟩ | ⟨_,_,_,_,hF⟩
  · have hlp':ZiE [.val (.scr ns),.val (Zcp a b f g),.val (.ref 0),.val (.tup [.int a,.int b]),.val (.int now),.val (ZeX a b f g 2 2 16).d,.no,.no] (upE B 0 (qE a b f g (qT 1000 16 u false now)))=_:=hlp
    have ab:ZhQ (qE a b f g (qT 1000 16 u false t))=(true,{ qE a b f g (qT 1000 16 u false t) with state:=.closed }):=by simp [ZhQ,qE,qT]
    have ta:=ZqY (θ:=B) (l:=0) (e:=qE a b f g (qT 1000 16 u false t)) hl
    rw [ab] at ta
    obtain ⟨e1,he1⟩:∃e:Zt,e={ qE a b f g (qT 1000 16 u false t) with state:=.closed }:=⟨_,rfl⟩
    have o1:e1.owed_reset=none:=by rw [he1]; rfl
    have s1:e1.state=.closed:=by rw [he1]
    have x1:e1.error=.none:=by rw [he1]; rfl
    have sd:=Zia (t:=t) hl (Zng o1 s1)
    have g2:=ZeO (θ:=B) (l:=0) (t:=t+119999) hl (Zp1 (a:=a) (b:=b) (f:=f) (g:=g) (Zq1 (W:=1000) (m:=16) (s:=t) (u:=u) (oa:=false) (by omega)) rfl) (by decide)
    have go3:z8 (qE a b f g (qT 1000 16 u false t)) (t+120000)=(none,e1):=by
      rw [he1]
      simp [z8,qE,qT,show (120000:Int)≤t+120000-t by omega]
    have g3:=ZeO (θ:=B) (l:=0) (t:=t+120000) hl (.nil go3) (by decide)
    have nil0:D.lst (([]:List Seg).map Seg.d)=il []:=rfl
    rw [nil0] at g2 g3
    rw [←he1] at ta
    have m2:∀θ:Sto,ixM (Zcp a b f g) (.int 2) θ=.ok (.int (Zy f 1)) θ:=fun θ=>rfl
    have m3:∀θ:Sto,ixM (Zcp a b f g) (.int 3) θ=.ok (.int (Zy g 1)) θ:=fun θ=>rfl
    have m0:∀θ:Sto,ixM (Zcp a b f g) (.int 0) θ=.ok (.ref 0) θ:=fun θ=>rfl
    have m1:∀θ:Sto,ixM (Zcp a b f g) (.int 1) θ=.ok (.tup [.int a,.int b]) θ:=fun θ=>rfl
    obtain ⟨md,hmd⟩:∃x,x=Zcp a b f g:=⟨_,rfl⟩
    rw [←hmd] at br hlp'
    simp only [←hmd] at m0 m1 m2 m3
    have lo':Zds [.scr ns,.int 0,.int 1000,.int 16] []=.ok md (upE B 0 (qE a b f g (qO 1000 16 0))):=by rw [hmd]; exact lo
    clear he1 hmd lo
    by_cases c:mix ns 40 % 4=0
    · simp [ZkX,Zi6,lo',m0,m1,m2,m3,←hnow,br,Zgj,hl,sT,Zak,ad,Zgi,g1,nn,tc,hlp',Zgh,c,ta,s1,sd,Zbl]
    · simp [ZkX,Zi6,lo',m0,m1,m2,m3,←hnow,br,Zgj,hl,sT,Zak,ad,Zgi,g1,nn,tc,hlp',Zgh,c,ZiD,g2,g3,s1,x1,Zbl]
  · exact hF.elim
end
def top (i:Nat):Stmt:=PySem.Challenge.pw_wirestream_k24_time_wait.main.body.getD i (.Pass ⟨0,0,0,0⟩)
abbrev zs0:Stmt:=Zmv (top 2) 0
abbrev zs1:Stmt:=top 3
abbrev zs2:Stmt:=top 4
abbrev zs3:Stmt:=top 5
abbrev zs4:Stmt:=top 9
abbrev zs5:Stmt:=top 10
abbrev zs6:Stmt:=top 11
abbrev zs7:Stmt:=Zmv (top 30) 0
abbrev zs8:Stmt:=top 31
abbrev zs9:Stmt:=top 32
abbrev Zks:Stmt:=top 33
abbrev Zkr:Stmt:=top 34
abbrev Zkq:Stmt:=top 35
abbrev Zkp:Stmt:=top 42
abbrev Zko:Stmt:=top 43
abbrev Zkn:Stmt:=top 64
abbrev Zkm:Stmt:=top 65
abbrev Zkl:Stmt:=top 66
abbrev Zkk:Stmt:=top 67
abbrev Zkj:Stmt:=top 68
abbrev Zki:Stmt:=top 69
abbrev Zkh:Stmt:=top 70
abbrev Zkg:Stmt:=top 71
abbrev Zkf:Stmt:=top 72
abbrev Zke:Stmt:=top 73
abbrev Zkd:Stmt:=top 74
abbrev Zkc:Stmt:=top 75
abbrev Zkb:Stmt:=top 76
abbrev Zka:Stmt:=top 77
abbrev Zj9:Stmt:=top 78
abbrev Zj8:Stmt:=top 83
abbrev Zj7:Stmt:=top 84
abbrev Zj6:Stmt:=top 85
abbrev Zj5:Stmt:=top 86
abbrev Zj4:Stmt:=top 87
abbrev Zj3:Stmt:=top 88
abbrev Zj2:Stmt:=top 89
abbrev Zj1:Stmt:=top 90
abbrev Zj0:Stmt:=top 91
abbrev ZjZ:Stmt:=top 92
abbrev ZjY:Stmt:=top 93
abbrev ZjX:Stmt:=top 94
abbrev ZjW:Stmt:=top 95
abbrev ZjV:Stmt:=top 96
abbrev ZjU:Stmt:=top 97
abbrev ZjT:Stmt:=top 98
abbrev ZjS:Stmt:=top 99
abbrev ZjR:Stmt:=top 100
abbrev ZjQ:Stmt:=top 101
abbrev ZjP:Stmt:=top 103
abbrev ZjO:Stmt:=top 104
abbrev ZjN:Stmt:=top 105
abbrev ZjM:Stmt:=top 106
abbrev ZjL:Stmt:=top 107
abbrev ZjK:Stmt:=top 108
abbrev ZjJ:Stmt:=top 109
abbrev ZjI:Stmt:=top 110
abbrev ZjH:Stmt:=top 111
abbrev ZjG:Stmt:=top 113
abbrev ZjF:Stmt:=top 114
abbrev ZjE:Stmt:=top 115
abbrev ZjD:Stmt:=top 116
abbrev ZjC:Stmt:=top 117
abbrev ZjB:Stmt:=top 118
abbrev ZjA:Stmt:=top 119
abbrev Zjz:Stmt:=top 120
abbrev Zjy:Stmt:=top 121
abbrev Zjx:Stmt:=top 122
abbrev Zjw:Stmt:=top 123
abbrev Zjv:Stmt:=top 124
abbrev Zju:Stmt:=top 125
abbrev Zjt:Stmt:=top 126
abbrev Zjs:Stmt:=top 127
abbrev Zjr:Stmt:=top 128
abbrev Zjq:Stmt:=top 129
abbrev Zjp:Stmt:=top 130
abbrev Zjo:Stmt:=top 132
abbrev Zjn:Stmt:=top 133
abbrev Zjm:Stmt:=top 134
abbrev Zjl:Stmt:=top 136
abbrev Zjk:Stmt:=top 137
abbrev Zjj:Stmt:=top 140
abbrev Zji:Stmt:=top 141
abbrev Zjh:Stmt:=top 142
abbrev ZhS:Stmt:=top 143
abbrev Zjg:Stmt:=top 144
abbrev Zjf:Stmt:=top 145
abbrev Zje:Stmt:=top 146
abbrev Zjd:Stmt:=top 147
abbrev Zjc:Stmt:=top 148
abbrev Zjb:Stmt:=top 149
abbrev Zja:Stmt:=top 150
abbrev Zi9:Stmt:=top 151
abbrev Zg2:Stmt:=top 152
abbrev zP0:List Str:=["self"]
theorem zc0:Zo ["self"] zP0 (Zf zs0):=⟨rfl,rfl,rfl,by decide +kernel,rfl,by decide +kernel,by decide +kernel⟩
abbrev zP1:List Str:=["pile"]
theorem zc1:Zo ["pile"] zP1 (Zf zs1):=⟨rfl,rfl,rfl,by decide +kernel,rfl,by decide +kernel,by decide +kernel⟩
abbrev zP2:List Str:=["pile","row"]
theorem zc2:Zo ["pile","row","laid"] zP2 (Zf zs2):=⟨rfl,rfl,rfl,by decide +kernel,rfl,by decide +kernel,by decide +kernel⟩
abbrev zP3:List Str:=["pile","many"]
theorem zc3:Zo ["pile","many","size","taken"] zP3 (Zf zs3):=⟨rfl,rfl,rfl,by decide +kernel,rfl,by decide +kernel,by decide +kernel⟩
abbrev zP4:List Str:=["number","step"]
theorem zc4:Zo ["number","step"] zP4 (Zf zs4):=⟨rfl,rfl,rfl,by decide +kernel,rfl,by decide +kernel,by decide +kernel⟩
abbrev zP5:List Str:=["number","base"]
theorem zc5:Zo ["number","base"] zP5 (Zf zs5):=⟨rfl,rfl,rfl,by decide +kernel,rfl,by decide +kernel,by decide +kernel⟩
abbrev zP6:List Str:=["number","base"]
theorem zc6:Zo ["number","base"] zP6 (Zf zs6):=⟨rfl,rfl,rfl,by decide +kernel,rfl,by decide +kernel,by decide +kernel⟩
abbrev zP7:List Str:=["self","ours","theirs","first","active"]
theorem zc7:Zo ["self","ours","theirs","first","active"] zP7 (Zf zs7):=⟨rfl,rfl,rfl,by decide +kernel,rfl,by decide +kernel,by decide +kernel⟩
abbrev zP8:List Str:=["end","now"]
theorem zc8:Zo ["end","now"] zP8 (Zf zs8):=⟨rfl,rfl,rfl,by decide +kernel,rfl,by decide +kernel,by decide +kernel⟩
abbrev zP9:List Str:=["end"]
theorem zc9:Zo ["end"] zP9 (Zf zs9):=⟨rfl,rfl,rfl,by decide +kernel,rfl,by decide +kernel,by decide +kernel⟩
abbrev ZoM:List Str:=["end"]
theorem zc10:Zo ["end"] ZoM (Zf Zks):=⟨rfl,rfl,rfl,by decide +kernel,rfl,by decide +kernel,by decide +kernel⟩
abbrev ZoL:List Str:=["end"]
theorem zc11:Zo ["end"] ZoL (Zf Zkr):=⟨rfl,rfl,rfl,by decide +kernel,rfl,by decide +kernel,by decide +kernel⟩
abbrev ZoK:List Str:=["end"]
theorem zc12:Zo ["end"] ZoK (Zf Zkq):=⟨rfl,rfl,rfl,by decide +kernel,rfl,by decide +kernel,by decide +kernel⟩
abbrev ZoJ:List Str:=["row"]
theorem zc13:Zo ["row","total"] ZoJ (Zf Zkp):=⟨rfl,rfl,rfl,by decide +kernel,rfl,by decide +kernel,by decide +kernel⟩
abbrev ZoI:List Str:=["row"]
theorem zc14:Zo ["row"] ZoI (Zf Zko):=⟨rfl,rfl,rfl,by decide +kernel,rfl,by decide +kernel,by decide +kernel⟩
abbrev ZoH:List Str:=["segment"]
theorem zc15:Zo ["segment","flags"] ZoH (Zf Zkn):=⟨rfl,rfl,rfl,by decide +kernel,rfl,by decide +kernel,by decide +kernel⟩
abbrev ZoG:List Str:=["flags","flag"]
theorem zc16:Zo ["flags","flag"] ZoG (Zf Zkm):=⟨rfl,rfl,rfl,by decide +kernel,rfl,by decide +kernel,by decide +kernel⟩
abbrev ZoF:List Str:=["segment","flag"]
theorem zc17:Zo ["segment","flag"] ZoF (Zf Zkl):=⟨rfl,rfl,rfl,by decide +kernel,rfl,by decide +kernel,by decide +kernel⟩
abbrev ZoE:List Str:=["segment"]
theorem zc18:Zo ["segment","ahead","behind"] ZoE (Zf Zkk):=⟨rfl,rfl,rfl,by decide +kernel,rfl,by decide +kernel,by decide +kernel⟩
abbrev ZoD:List Str:=["segment"]
theorem zc19:Zo ["segment","ports","numbers","head"] ZoD (Zf Zkj):=⟨rfl,rfl,rfl,by decide +kernel,rfl,by decide +kernel,by decide +kernel⟩
abbrev ZoC:List Str:=["head"]
theorem zc20:Zo ["head"] ZoC (Zf Zki):=⟨rfl,rfl,rfl,by decide +kernel,rfl,by decide +kernel,by decide +kernel⟩
abbrev ZoB:List Str:=["most"]
theorem zc21:Zo ["most"] ZoB (Zf Zkh):=⟨rfl,rfl,rfl,by decide +kernel,rfl,by decide +kernel,by decide +kernel⟩
abbrev ZoA:List Str:=["number"]
theorem zc22:Zo ["number"] ZoA (Zf Zkg):=⟨rfl,rfl,rfl,by decide +kernel,rfl,by decide +kernel,by decide +kernel⟩
abbrev Zoz:List Str:=["number"]
theorem zc23:Zo ["number"] Zoz (Zf Zkf):=⟨rfl,rfl,rfl,by decide +kernel,rfl,by decide +kernel,by decide +kernel⟩
abbrev Zoy:List Str:=["row"]
theorem zc24:Zo ["row"] Zoy (Zf Zke):=⟨rfl,rfl,rfl,by decide +kernel,rfl,by decide +kernel,by decide +kernel⟩
abbrev Zox:List Str:=["row"]
theorem zc25:Zo ["row"] Zox (Zf Zkd):=⟨rfl,rfl,rfl,by decide +kernel,rfl,by decide +kernel,by decide +kernel⟩
abbrev Zow:List Str:=["row"]
theorem zc26:Zo ["row"] Zow (Zf Zkc):=⟨rfl,rfl,rfl,by decide +kernel,rfl,by decide +kernel,by decide +kernel⟩
abbrev Zov:List Str:=["row"]
theorem zc27:Zo ["row","head","most","ports","numbers"] Zov (Zf Zkb):=⟨rfl,rfl,rfl,by decide +kernel,rfl,by decide +kernel,by decide +kernel⟩
abbrev Zou:List Str:=["row","place"]
theorem zc28:Zo ["row","place"] Zou (Zf Zka):=⟨rfl,rfl,rfl,by decide +kernel,rfl,by decide +kernel,by decide +kernel⟩
abbrev Zot:List Str:=["row","place"]
theorem zc29:Zo ["row","place"] Zot (Zf Zj9):=⟨rfl,rfl,rfl,by decide +kernel,rfl,by decide +kernel,by decide +kernel⟩
abbrev Zos:List Str:=["end","now"]
theorem zc30:Zo ["end","now","segment"] Zos (Zf Zj8):=⟨rfl,rfl,rfl,by decide +kernel,rfl,by decide +kernel,by decide +kernel⟩
abbrev Zor:List Str:=["end","now"]
theorem zc31:Zo ["end","now","segment"] Zor (Zf Zj7):=⟨rfl,rfl,rfl,by decide +kernel,rfl,by decide +kernel,by decide +kernel⟩
abbrev Zoq:List Str:=["end"]
theorem zc32:Zo ["end","segment"] Zoq (Zf Zj6):=⟨rfl,rfl,rfl,by decide +kernel,rfl,by decide +kernel,by decide +kernel⟩
abbrev Zop:List Str:=["end","now"]
theorem zc33:Zo ["end","now"] Zop (Zf Zj5):=⟨rfl,rfl,rfl,by decide +kernel,rfl,by decide +kernel,by decide +kernel⟩
abbrev Zoo:List Str:=["end","now"]
theorem zc34:Zo ["end","now","data"] Zoo (Zf Zj4):=⟨rfl,rfl,rfl,by decide +kernel,rfl,by decide +kernel,by decide +kernel⟩
abbrev Zon:List Str:=["end"]
theorem zc35:Zo ["end"] Zon (Zf Zj3):=⟨rfl,rfl,rfl,by decide +kernel,rfl,by decide +kernel,by decide +kernel⟩
abbrev Zom:List Str:=["end"]
theorem zc36:Zo ["end"] Zom (Zf Zj2):=⟨rfl,rfl,rfl,by decide +kernel,rfl,by decide +kernel,by decide +kernel⟩
abbrev Zol:List Str:=["end","number","flags","data"]
theorem zc37:Zo ["end","number","flags","data"] Zol (Zf Zj1):=⟨rfl,rfl,rfl,by decide +kernel,rfl,by decide +kernel,by decide +kernel⟩
abbrev Zok:List Str:=["end","now"]
theorem zc38:Zo ["end","now","room"] Zok (Zf Zj0):=⟨rfl,rfl,rfl,by decide +kernel,rfl,by decide +kernel,by decide +kernel⟩
abbrev Zoj:List Str:=["end","now"]
theorem zc39:Zo ["end","now"] Zoj (Zf ZjZ):=⟨rfl,rfl,rfl,by decide +kernel,rfl,by decide +kernel,by decide +kernel⟩
abbrev Zoi:List Str:=["end"]
theorem zc40:Zo ["end"] Zoi (Zf ZjY):=⟨rfl,rfl,rfl,by decide +kernel,rfl,by decide +kernel,by decide +kernel⟩
abbrev Zoh:List Str:=["end"]
theorem zc41:Zo ["end"] Zoh (Zf ZjX):=⟨rfl,rfl,rfl,by decide +kernel,rfl,by decide +kernel,by decide +kernel⟩
abbrev Zog:List Str:=["end"]
theorem zc42:Zo ["end"] Zog (Zf ZjW):=⟨rfl,rfl,rfl,by decide +kernel,rfl,by decide +kernel,by decide +kernel⟩
abbrev Zof:List Str:=["end"]
theorem zc43:Zo ["end"] Zof (Zf ZjV):=⟨rfl,rfl,rfl,by decide +kernel,rfl,by decide +kernel,by decide +kernel⟩
abbrev Zoe:List Str:=["end","room"]
theorem Zyd:Zo ["end","room"] Zoe (Zf ZjU):=⟨rfl,rfl,rfl,by decide +kernel,rfl,by decide +kernel,by decide +kernel⟩
abbrev Zod:List Str:=["end","room"]
theorem zc45:Zo ["end","room","number","many","place"] Zod (Zf ZjT):=⟨rfl,rfl,rfl,by decide +kernel,rfl,by decide +kernel,by decide +kernel⟩
abbrev Zoc:List Str:=["end"]
theorem zc46:Zo ["end","number"] Zoc (Zf ZjS):=⟨rfl,rfl,rfl,by decide +kernel,rfl,by decide +kernel,by decide +kernel⟩
abbrev Zob:List Str:=["end","now"]
theorem Zyc:Zo ["end","now"] Zob (Zf ZjR):=⟨rfl,rfl,rfl,by decide +kernel,rfl,by decide +kernel,by decide +kernel⟩
abbrev Zoa:List Str:=["end"]
theorem Zyb:Zo ["end"] Zoa (Zf ZjQ):=⟨rfl,rfl,rfl,by decide +kernel,rfl,by decide +kernel,by decide +kernel⟩
abbrev Zn9:List Str:=["segment"]
theorem zc49:Zo ["segment","ports"] Zn9 (Zf ZjP):=⟨rfl,rfl,rfl,by decide +kernel,rfl,by decide +kernel,by decide +kernel⟩
abbrev Zn8:List Str:=["end","segment"]
theorem Zya:Zo ["end","segment"] Zn8 (Zf ZjO):=⟨rfl,rfl,rfl,by decide +kernel,rfl,by decide +kernel,by decide +kernel⟩
abbrev Zn7:List Str:=["end","segment"]
theorem Zx9:Zo ["end","segment"] Zn7 (Zf ZjN):=⟨rfl,rfl,rfl,by decide +kernel,rfl,by decide +kernel,by decide +kernel⟩
abbrev Zn6:List Str:=["end","segment"]
theorem Zx8:Zo ["end","segment"] Zn6 (Zf ZjM):=⟨rfl,rfl,rfl,by decide +kernel,rfl,by decide +kernel,by decide +kernel⟩
abbrev Zn5:List Str:=["end","segment"]
theorem Zx7:Zo ["end","segment"] Zn5 (Zf ZjL):=⟨rfl,rfl,rfl,by decide +kernel,rfl,by decide +kernel,by decide +kernel⟩
abbrev Zn4:List Str:=["end","segment","now"]
theorem Zx6:Zo ["end","segment","now"] Zn4 (Zf ZjK):=⟨rfl,rfl,rfl,by decide +kernel,rfl,by decide +kernel,by decide +kernel⟩
abbrev Zn3:List Str:=["end","segment"]
theorem Zx5:Zo ["end","segment"] Zn3 (Zf ZjJ):=⟨rfl,rfl,rfl,by decide +kernel,rfl,by decide +kernel,by decide +kernel⟩
abbrev Zn2:List Str:=["end","segment"]
theorem Zx4:Zo ["end","segment"] Zn2 (Zf ZjI):=⟨rfl,rfl,rfl,by decide +kernel,rfl,by decide +kernel,by decide +kernel⟩
abbrev Zn1:List Str:=["end","segment","now"]
theorem Zx3:Zo ["end","segment","now"] Zn1 (Zf ZjH):=⟨rfl,rfl,rfl,by decide +kernel,rfl,by decide +kernel,by decide +kernel⟩
abbrev Zn0:List Str:=["end","row","now"]
theorem zc58:Zo ["end","row","now","segment"] Zn0 (Zf ZjG):=⟨rfl,rfl,rfl,by decide +kernel,rfl,by decide +kernel,by decide +kernel⟩
abbrev ZnZ:List Str:=["end","segment"]
theorem Zx2:Zo ["end","segment"] ZnZ (Zf ZjF):=⟨rfl,rfl,rfl,by decide +kernel,rfl,by decide +kernel,by decide +kernel⟩
abbrev ZnY:List Str:=["end","segment","now"]
theorem Zx1:Zo ["end","segment","now"] ZnY (Zf ZjE):=⟨rfl,rfl,rfl,by decide +kernel,rfl,by decide +kernel,by decide +kernel⟩
abbrev ZnX:List Str:=["end","segment"]
theorem zc61:Zo ["end","segment","size","last"] ZnX (Zf ZjD):=⟨rfl,rfl,rfl,by decide +kernel,rfl,by decide +kernel,by decide +kernel⟩
abbrev ZnW:List Str:=["end","number"]
theorem Zx0:Zo ["end","number"] ZnW (Zf ZjC):=⟨rfl,rfl,rfl,by decide +kernel,rfl,by decide +kernel,by decide +kernel⟩
abbrev ZnV:List Str:=["end","segment","now"]
theorem ZxZ:Zo ["end","segment","now"] ZnV (Zf ZjB):=⟨rfl,rfl,rfl,by decide +kernel,rfl,by decide +kernel,by decide +kernel⟩
abbrev ZnU:List Str:=["end","segment"]
theorem ZxY:Zo ["end","segment"] ZnU (Zf ZjA):=⟨rfl,rfl,rfl,by decide +kernel,rfl,by decide +kernel,by decide +kernel⟩
abbrev ZnT:List Str:=["end","segment","now"]
theorem ZxX:Zo ["end","segment","now"] ZnT (Zf Zjz):=⟨rfl,rfl,rfl,by decide +kernel,rfl,by decide +kernel,by decide +kernel⟩
abbrev ZnS:List Str:=["end","segment"]
theorem ZxW:Zo ["end","segment"] ZnS (Zf Zjy):=⟨rfl,rfl,rfl,by decide +kernel,rfl,by decide +kernel,by decide +kernel⟩
abbrev ZnR:List Str:=["end","segment"]
theorem ZxV:Zo ["end","segment"] ZnR (Zf Zjx):=⟨rfl,rfl,rfl,by decide +kernel,rfl,by decide +kernel,by decide +kernel⟩
abbrev ZnQ:List Str:=["end","segment","now"]
theorem zc68:Zo ["end","segment","now","answer","has_gone_on","was_shut"] ZnQ (Zf Zjw):=⟨rfl,rfl,rfl,by decide +kernel,rfl,by decide +kernel,by decide +kernel⟩
abbrev ZnP:List Str:=["end","segment"]
theorem ZxU:Zo ["end","segment"] ZnP (Zf Zjv):=⟨rfl,rfl,rfl,by decide +kernel,rfl,by decide +kernel,by decide +kernel⟩
abbrev ZnO:List Str:=["end","now"]
theorem ZxT:Zo ["end","now"] ZnO (Zf Zju):=⟨rfl,rfl,rfl,by decide +kernel,rfl,by decide +kernel,by decide +kernel⟩
abbrev ZnN:List Str:=["end","segment","now"]
theorem ZxS:Zo ["end","segment","now"] ZnN (Zf Zjt):=⟨rfl,rfl,rfl,by decide +kernel,rfl,by decide +kernel,by decide +kernel⟩
abbrev ZnM:List Str:=["end","segment"]
theorem zc72:Zo ["end","segment","place","byte","number"] ZnM (Zf Zjs):=⟨rfl,rfl,rfl,by decide +kernel,rfl,by decide +kernel,by decide +kernel⟩
abbrev ZnL:List Str:=["end","segment"]
theorem zc73:Zo ["end","segment","number"] ZnL (Zf Zjr):=⟨rfl,rfl,rfl,by decide +kernel,rfl,by decide +kernel,by decide +kernel⟩
abbrev ZnK:List Str:=["end"]
theorem zc74:Zo ["end","row"] ZnK (Zf Zjq):=⟨rfl,rfl,rfl,by decide +kernel,rfl,by decide +kernel,by decide +kernel⟩
abbrev ZnJ:List Str:=["end","now"]
theorem ZxR:Zo ["end","now"] ZnJ (Zf Zjp):=⟨rfl,rfl,rfl,by decide +kernel,rfl,by decide +kernel,by decide +kernel⟩
abbrev ZnI:List Str:=["ours","theirs","first","active"]
theorem ZxQ:Zo ["ours","theirs","first","active"] ZnI (Zf Zjo):=⟨rfl,rfl,rfl,by decide +kernel,rfl,by decide +kernel,by decide +kernel⟩
abbrev ZnH:List Str:=["end"]
theorem ZxP:Zo ["end"] ZnH (Zf Zjn):=⟨rfl,rfl,rfl,by decide +kernel,rfl,by decide +kernel,by decide +kernel⟩
abbrev ZnG:List Str:=["end"]
theorem ZxO:Zo ["end"] ZnG (Zf Zjm):=⟨rfl,rfl,rfl,by decide +kernel,rfl,by decide +kernel,by decide +kernel⟩
abbrev ZnF:List Str:=["_law_script","_law_k"]
theorem ZxN:Zo ["_law_script","_law_k"] ZnF (Zf Zjl):=⟨rfl,rfl,rfl,by decide +kernel,rfl,by decide +kernel,by decide +kernel⟩
abbrev ZnE:List Str:=["_law_script","_law_k"]
theorem zc80:Zo ["_law_script","_law_k","_law_number"] ZnE (Zf Zjk):=⟨rfl,rfl,rfl,by decide +kernel,rfl,by decide +kernel,by decide +kernel⟩
abbrev ZnD:List Str:=["_law_number"]
theorem ZxM:Zo ["_law_number"] ZnD (Zf Zjj):=⟨rfl,rfl,rfl,by decide +kernel,rfl,by decide +kernel,by decide +kernel⟩
abbrev ZnC:List Str:=["_law_row_here"]
theorem zc82:Zo ["_law_row_here","_law_total","_law_k"] ZnC (Zf Zji):=⟨rfl,rfl,rfl,by decide +kernel,rfl,by decide +kernel,by decide +kernel⟩
abbrev ZnB:List Str:=["_law_segment_here"]
theorem zc83:Zo ["_law_segment_here","_law_row_here","_law_number"] ZnB (Zf Zjh):=⟨rfl,rfl,rfl,by decide +kernel,rfl,by decide +kernel,by decide +kernel⟩
abbrev ZnA:List Str:=["_law_row_here"]
theorem zc84:Zo ["_law_row_here","_law_head","_law_most","_law_words","_law_found"] ZnA (Zf ZhS):=⟨rfl,rfl,rfl,by decide +kernel,rfl,by decide +kernel,by decide +kernel⟩
abbrev Znz:List Str:=["_law_byte_here"]
theorem ZxL:Zo ["_law_byte_here"] Znz (Zf Zjg):=⟨rfl,rfl,rfl,by decide +kernel,rfl,by decide +kernel,by decide +kernel⟩
abbrev Zny:List Str:=["_law_number","_law_step"]
theorem ZxK:Zo ["_law_number","_law_step"] Zny (Zf Zjf):=⟨rfl,rfl,rfl,by decide +kernel,rfl,by decide +kernel,by decide +kernel⟩
abbrev Znx:List Str:=["_law_number"]
theorem ZxJ:Zo ["_law_number"] Znx (Zf Zje):=⟨rfl,rfl,rfl,by decide +kernel,rfl,by decide +kernel,by decide +kernel⟩
abbrev Znw:List Str:=["_law_talk","_law_number","_law_answer","_law_flags","_law_window","_law_data"]
theorem ZxI:Zo ["_law_talk","_law_number","_law_answer","_law_flags","_law_window","_law_data"] Znw (Zf Zjd):=⟨rfl,rfl,rfl,by decide +kernel,rfl,by decide +kernel,by decide +kernel⟩
abbrev Znv:List Str:=["_law_end","_law_now"]
theorem zc89:Zo ["_law_end","_law_now","_law_found","_law_k","_law_row_here"] Znv (Zf Zjc):=⟨rfl,rfl,rfl,by decide +kernel,rfl,by decide +kernel,by decide +kernel⟩
abbrev Znu:List Str:=["_law_script","_law_base","_law_window","_law_most"]
theorem zc90:Zo ["_law_script","_law_base","_law_window","_law_most","_law_talk","_law_mine","_law_theirs","_law_end"] Znu (Zf Zjb):=⟨rfl,rfl,rfl,by decide +kernel,rfl,by decide +kernel,by decide +kernel⟩
abbrev Znt:List Str:=["_law_made_here","_law_number","_law_answer","_law_flags","_law_window","_law_data"]
theorem zc91:Zo ["_law_made_here","_law_number","_law_answer","_law_flags","_law_window","_law_data","_law_places"] Znt (Zf Zja):=⟨rfl,rfl,rfl,by decide +kernel,rfl,by decide +kernel,by decide +kernel⟩
abbrev Zns:List Str:=["_law_made_here","_law_way","_law_now"]
theorem ZxH:Zo ["_law_made_here","_law_way","_law_now"] Zns (Zf Zi9):=⟨rfl,rfl,rfl,by decide +kernel,rfl,by decide +kernel,by decide +kernel⟩
abbrev Znr:List Str:=["_law_script"]
theorem zc93:Zo ["_law_script","_law_made_here","_law_end","_law_talk","_law_now","_law_due","_law_k","_law_row_here"] Znr (Zf Zg2):=⟨rfl,rfl,rfl,by decide +kernel,rfl,by decide +kernel,by decide +kernel⟩
structure Glb (K:PySem.W.Frag) (mg:Str→Option Value):Prop where
  zc0:∃t,mg "ACK"=some (.int 16 t)
  zc1:∃t,mg "ANSWER"=some (.int 3 t)
  zc2:∃t,mg "CLOSED"=some (.str "closed" t)
  zc3:∃t,mg "CLOSE_WAIT"=some (.str "close wait" t)
  zc4:∃t,mg "CLOSING"=some (.str "closing" t)
  zc5:∃t,mg "DATA"=some (.int 7 t)
  zc6:∃t,mg "FIN"=some (.int 1 t)
  zc7:∃t,mg "FIRST_WAIT"=some (.int 1000 t)
  zc8:∃t,mg "FLAGS"=some (.int 4 t)
  zc9:∃t,mg "GOAL"=some (.int 1 t)
  zc10:∃t,mg "GREATEST_DATA"=some (.int 16 t)
  zc11:∃t,mg "GREATEST_FLAGS"=some (.int 31 t)
  zc12:∃t,mg "GREATEST_WORD"=some (.int 65535 t)
  zc13:∃t,mg "HALF_ROUND"=some (.int 2147483648 t)
  zc14:∃t,mg "LAST_ACK"=some (.str "last ack" t)
  zc15:∃t,mg "LAST_WAIT"=some (.int 120000 t)
  zc16:∃t,mg "LEAST_MOST"=some (.int 4 t)
  zc17:∃t,mg "LISTEN"=some (.str "listen" t)
  zc18:∃t,mg "LONGEST_WAIT"=some (.int 16000 t)
  zc19:∃t,mg "LONG_HEAD"=some (.int 24 t)
  zc20:∃t,mg "MOST"=some (.int 6 t)
  zc21:∃t,mg "MOST_TRIES"=some (.int 6 t)
  zc22:∃t,mg "MOST_UNTOLD"=some (.int 12 t)
  zc23:∃t,mg "NO_ERROR"=some (.str "" t)
  zc24:∃t,mg "NUMBER"=some (.int 2 t)
  zc25:∃t,mg "OPEN"=some (.str "open" t)
  zc26:∃t,mg "PSH"=some (.int 8 t)
  zc27:∃t,mg "REFUSED"=some (.str "refused" t)
  zc28:∃t,mg "RESET"=some (.str "reset" t)
  zc29:∃t,mg "RIGHT_SUM"=some (.int 65535 t)
  zc30:∃t,mg "ROOM"=some (.int 64 t)
  zc31:∃t,mg "ROUND"=some (.int 4294967296 t)
  zc32:∃t,mg "RST"=some (.int 4 t)
  zc33:∃t,mg "SHORT_HEAD"=some (.int 20 t)
  zc34:∃t,mg "SOURCE"=some (.int 0 t)
  zc35:∃t,mg "SYN"=some (.int 2 t)
  zc36:∃t,mg "SYN_COME"=some (.str "syn come" t)
  zc37:∃t,mg "SYN_SENT"=some (.str "syn sent" t)
  zc38:∃t,mg "TIME"=some (.str "time" t)
  zc39:∃t,mg "TIME_WAIT"=some (.str "time wait" t)
  zc40:∃t,mg "WAIT_ONE"=some (.str "wait one" t)
  zc41:∃t,mg "WAIT_TWO"=some (.str "wait two" t)
  zc42:∃t,mg "WINDOW"=some (.int 5 t)
  zc43:∃t,mg "WORDS"=some (.int 65536 t)
  b_all:mg "all"=none
  b_bool:mg "bool"=none
  b_enumerate:mg "enumerate"=none
  b_int:mg "int"=none
  b_isinstance:mg "isinstance"=none
  b_len:mg "len"=none
  b_list:mg "list"=none
  b_max:mg "max"=none
  b_min:mg "min"=none
  b_range:mg "range"=none
  b_sum:mg "sum"=none
  b_tuple:mg "tuple"=none
  k_End:Cls K (zY mg "End")
  k_Pile:Cls K (zY mg "Pile")
  zn0:NoAttr K (zY mg "End") "behind"
  zn1:NoAttr K (zY mg "End") "come"
  zn2:NoAttr K (zY mg "End") "early"
  zn3:NoAttr K (zY mg "End") "early_fin"
  zn4:NoAttr K (zY mg "End") "error"
  zn5:NoAttr K (zY mg "End") "first"
  zn6:NoAttr K (zY mg "End") "has_closed"
  zn7:NoAttr K (zY mg "End") "most"
  zn8:NoAttr K (zY mg "End") "nxt"
  zn9:NoAttr K (zY mg "End") "ours"
  zn10:NoAttr K (zY mg "End") "owed_reset"
  zn11:NoAttr K (zY mg "End") "owes_answer"
  zn12:NoAttr K (zY mg "End") "owes_syn"
  zn13:NoAttr K (zY mg "End") "probes"
  zn14:NoAttr K (zY mg "End") "rcv"
  zn15:NoAttr K (zY mg "End") "since"
  zn16:NoAttr K (zY mg "End") "state"
  zn17:NoAttr K (zY mg "End") "theirs"
  zn18:NoAttr K (zY mg "End") "told"
  zn19:NoAttr K (zY mg "End") "told_by"
  zn20:NoAttr K (zY mg "End") "tries"
  zn21:NoAttr K (zY mg "End") "una"
  zn22:NoAttr K (zY mg "End") "wait"
  zn23:NoAttr K (zY mg "End") "wnd"
  zn24:NoAttr K (zY mg "End") "written"
  zn25:NoAttr K (zY mg "Pile") "row"
section
variable {P:Program} {w:World} {K:PySem.W.Frag} {mg:Str→Option Value} {base:Heap}
theorem zo0 (D:Mk0 K mg "Pile" "Pile.__init__" zs0 zP0) (g:Glb K mg) :MMk P w K mg base 1 "Pile" ZbG:=
  mk0 D zc0 1 1 rfl rfl fun f cdv A outer s H E hr=>(Zj (Zv (Zq ⟨g.k_Pile,g.zn25⟩) (Zb 0) (zo Ze)))
theorem zo1 (D:Def0 K mg "room" zs1 zP1) (g:Glb K mg) :MDef P w K mg base 1 "room" Zfa:=
  ZT D zc1 1 1 rfl rfl fun f cdv A outer s H E hr=>(Zj (Zs (Zu Zeo (Zl g.zc30) (zb Zd7 g.b_len PySem.boot_len (Za (Zm (Zq ⟨g.k_Pile,g.zn25⟩) (Zb 0)) Ze)))))
theorem zo2 (D:Def0 K mg "lay" zs2 zP2) (g:Glb K mg) (zd1:MDef P w K mg base 1 "room" Zfa):MDef P w K mg base 2 "lay" ZkK:=
  ZT D zc2 2 3 rfl rfl fun f cdv A outer s H E hr=>(Zg (ZI 2 zc2.nd (Zbb (Zb 1) ZbS (Zal (Zh zd1 hr (by decide) (Za (Zb 0) Ze)))))
  (Zg (Zv (Zq ⟨g.k_Pile,g.zn25⟩) (Zb 0) (Zu ZM (Zm (Zq ⟨g.k_Pile,g.zn25⟩) (Zb 0)) (Zb 2)))
  (Zj (Zs (zb Zd7 g.b_len PySem.boot_len (Za (Zb 2) Ze))))))
theorem zo3 (D:Def0 K mg "take" zs3 zP3) (g:Glb K mg) :MDef P w K mg base 1 "take" Ze9:=
  ZT D zc3 2 4 rfl rfl fun f cdv A outer s H E hr=>(Zg (ZI 2 zc3.nd (zb ZvK g.b_max PyProof.Rows.boot_max (Za (Zb 1) (Za Zi Ze))))
  (Zg (ZI 3 zc3.nd (Zbb (Zm (Zq ⟨g.k_Pile,g.zn25⟩) (Zb 0)) ZbS (Zal (Zb 2))))
  (Zg (Zv (Zq ⟨g.k_Pile,g.zn25⟩) (Zb 0) (Zbb (Zm (Zq ⟨g.k_Pile,g.zn25⟩) (Zb 0)) (Zal (Zb 2)) ZbS))
  (Zj (Zs (Zb 3))))))
theorem zo4 (D:Def0 K mg "plus" zs4 zP4) (g:Glb K mg) :MDef P w K mg base 1 "plus" zC:=
  ZT D zc4 2 2 rfl rfl fun f cdv A outer s H E hr=>(Zj (Zs (Zu ZaG (Zu ZM (Zb 0) (Zb 1)) (Zl g.zc31))))
theorem zo5 (D:Def0 K mg "offset" zs5 zP5) (g:Glb K mg) :MDef P w K mg base 1 "offset" zD:=
  ZT D zc5 2 2 rfl rfl fun f cdv A outer s H E hr=>(Zj (Zs (Zu Zeo (Zu ZaG (Zu ZM (Zu Zeo (Zb 0) (Zb 1)) (Zl g.zc13)) (Zl g.zc31)) (Zl g.zc13))))
theorem zo6 (D:Def0 K mg "past" zs6 zP6) (g:Glb K mg) (zd5:MDef P w K mg base 1 "offset" zD):MDef P w K mg base 2 "past" Zb8:=
  ZT D zc6 2 2 rfl rfl fun f cdv A outer s H E hr=>(Zj (Zs (zp ZhX (Zh zd5 hr (by decide) (Za (Zb 0) (Za (Zb 1) Ze))) Zi)))
theorem zo7 (D:Mk0 K mg "End" "End.__init__" zs7 zP7) (g:Glb K mg) (zd0:MMk P w K mg base 1 "Pile" ZbG) (zd4:MDef P w K mg base 1 "plus" zC):MMk P w K mg base 3 "End" Zcc:=
  mk0 D zc7 5 5 rfl rfl fun f cdv A outer s H E hr=>(Zg (Zv (Zq ⟨g.k_End,g.zn9⟩) (Zb 0) (Zb 1))
  (Zg (Zv (Zq ⟨g.k_End,g.zn17⟩) (Zb 0) (Zb 2))
  (Zg (Zv (Zq ⟨g.k_End,g.zn16⟩) (Zb 0) (Zcv (ZE (Zb 4)) (Zz g.zc37) (Zz g.zc17)))
  (Zg (Zv (Zq ⟨g.k_End,g.zn4⟩) (Zb 0) (Zz g.zc23))
  (Zg (Zv (Zq ⟨g.k_End,g.zn5⟩) (Zb 0) (Zb 3))
  (Zg (Zv (Zq ⟨g.k_End,g.zn21⟩) (Zb 0) (Zb 3))
  (Zg (Zv (Zq ⟨g.k_End,g.zn8⟩) (Zb 0) (Zb 3))
  (Zg (Zv (Zq ⟨g.k_End,g.zn14⟩) (Zb 0) Zi)
  (Zg (Zv (Zq ⟨g.k_End,g.zn23⟩) (Zb 0) Zi)
  (Zg (Zv (Zq ⟨g.k_End,g.zn18⟩) (Zb 0) Zi)
  (Zg (Zv (Zq ⟨g.k_End,g.zn19⟩) (Zb 0) Zi)
  (Zg (Zv (Zq ⟨g.k_End,g.zn7⟩) (Zb 0) (Zl g.zc22))
  (Zg (Zv (Zq ⟨g.k_End,g.zn24⟩) (Zb 0) (ZkU zd0 hr (by decide)))
  (Zg (Zv (Zq ⟨g.k_End,g.zn1⟩) (Zb 0) (ZkU zd0 hr (by decide)))
  (Zg (Zv (Zq ⟨g.k_End,g.zn2⟩) (Zb 0) ZpO)
  (Zg (Zv (Zq ⟨g.k_End,g.zn3⟩) (Zb 0) ZaI)
  (Zg (Zv (Zq ⟨g.k_End,g.zn6⟩) (Zb 0) zA)
  (Zg (Zv (Zq ⟨g.k_End,g.zn0⟩) (Zb 0) (Zh zd4 hr (by decide) (Za (Zb 3) (Za Zi Ze))))
  (Zg (Zv (Zq ⟨g.k_End,g.zn10⟩) (Zb 0) ZaI)
  (Zg (Zv (Zq ⟨g.k_End,g.zn12⟩) (Zb 0) zA)
  (Zg (Zv (Zq ⟨g.k_End,g.zn11⟩) (Zb 0) zA)
  (Zg (Zv (Zq ⟨g.k_End,g.zn13⟩) (Zb 0) zA)
  (Zg (Zv (Zq ⟨g.k_End,g.zn15⟩) (Zb 0) Zi)
  (Zg (Zv (Zq ⟨g.k_End,g.zn22⟩) (Zb 0) (Zl g.zc7))
  (Zj (Zv (Zq ⟨g.k_End,g.zn20⟩) (Zb 0) Zi))))))))))))))))))))))))))
theorem zo8 (D:Def0 K mg "start_timer" zs8 zP8) (g:Glb K mg) :MDef P w K mg base 1 "start_timer" Z6:=
  ZT D zc8 2 2 rfl rfl fun f cdv A outer s H E hr=>(Zg (Zv (Zq ⟨g.k_End,g.zn15⟩) (Zb 0) (Zb 1))
  (Zg (Zv (Zq ⟨g.k_End,g.zn22⟩) (Zb 0) (Zl g.zc7))
  (Zj (Zv (Zq ⟨g.k_End,g.zn20⟩) (Zb 0) Zi))))
theorem zo9 (D:Def0 K mg "state" zs9 zP9) (g:Glb K mg) :MDef P w K mg base 1 "state" ZcE:=
  ZT D zc9 1 1 rfl rfl fun f cdv A outer s H E hr=>(Zj (Zs (Zm (Zq ⟨g.k_End,g.zn16⟩) (Zb 0))))
theorem ZxG (D:Def0 K mg "error" Zks ZoM) (g:Glb K mg) :MDef P w K mg base 1 "error" Zft:=
  ZT D zc10 1 1 rfl rfl fun f cdv A outer s H E hr=>(Zj (Zs (Zm (Zq ⟨g.k_End,g.zn4⟩) (Zb 0))))
theorem ZxF (D:Def0 K mg "our_window" Zkr ZoL) (g:Glb K mg) (zd1:MDef P w K mg base 1 "room" Zfa):MDef P w K mg base 2 "our_window" ZaT:=
  ZT D zc11 1 1 rfl rfl fun f cdv A outer s H E hr=>(Zj (Zs (Zh zd1 hr (by decide) (Za (Zm (Zq ⟨g.k_End,g.zn1⟩) (Zb 0)) Ze))))
theorem ZxE (D:Def0 K mg "has_sent_fin" Zkq ZoK) (g:Glb K mg) (zd6:MDef P w K mg base 2 "past" Zb8):MDef P w K mg base 3 "has_sent_fin" Za7:=
  ZT D zc12 1 1 rfl rfl fun f cdv A outer s H E hr=>(Zj (Zs (Zh zd6 hr (by decide) (Za (Zm (Zq ⟨g.k_End,g.zn8⟩) (Zb 0)) (Za (Zm (Zq ⟨g.k_End,g.zn0⟩) (Zb 0)) Ze)))))
theorem ZxD (D:Def0 K mg "folded" Zkp ZoJ) (g:Glb K mg) :MDef P w K mg base 1 "folded" ZcU:=
  ZT D zc13 1 2 rfl rfl fun f cdv A outer s H E hr=>(Zg (ZI 1 zc13.nd (Zu ZM (Zu ZcC Zi (zb ZsB g.b_sum PyProof.Rows.boot_sum (Za (Zin (Zb 0) ZbS ZbS (Zal Zi)) Ze))) (zb ZsB g.b_sum PyProof.Rows.boot_sum (Za (Zin (Zb 0) (Zal Zi) ZbS (Zal Zi)) Ze))))
  (Zg (Zhm 200 PassesOwn.never (ZC ZhX (Zb 1) (Zl g.zc12)) (Zj (ZI 1 zc13.nd (Zu ZM (Zu ZaG (Zb 1) (Zl g.zc43)) (Zu Zd2 (Zb 1) (Zl g.zc43))))))
  (Zj (Zs (Zb 1)))))
theorem ZxC (D:Def0 K mg "sum_of" Zko ZoI) (g:Glb K mg) (zd13:MDef P w K mg base 1 "folded" ZcU):MDef P w K mg base 2 "sum_of" Zei:=
  ZT D zc14 1 1 rfl rfl fun f cdv A outer s H E hr=>(Zj (Zs (Zu Zeo (Zl g.zc12) (Zh zd13 hr (by decide) (Za (Zb 0) Ze)))))
theorem ZxA (D:Def0 K mg "has" Zkm ZoG) (g:Glb K mg) :MDef P w K mg base 1 "has" ZeY:=
  ZT D zc16 2 2 rfl rfl fun f cdv A outer s H E hr=>(Zj (Zs (Zcv (ZC (Zdq hr.units) (Zu Zvo (Zb 0) (Zb 1)) Zi) Zi Zi)))
theorem ZxB (D:Def0 K mg "length" Zkn ZoH) (g:Glb K mg) (zd16:MDef P w K mg base 1 "has" ZeY):MDef P w K mg base 2 "length" Zcn:=
  ZT D zc15 1 2 rfl rfl fun f cdv A outer s H E hr=>(Zg (ZI 1 zc15.nd (ZA ZB (Zb 0) (Zl g.zc8)))
  (Zj (Zs (Zu ZM (Zu ZM (zb Zd7 g.b_len PySem.boot_len (Za (ZA ZB (Zb 0) (Zl g.zc5)) Ze)) (Zh zd16 hr (by decide) (Za (Zb 1) (Za (Zl g.zc35) Ze)))) (Zh zd16 hr (by decide) (Za (Zb 1) (Za (Zl g.zc6) Ze)))))))
theorem Zxz (D:Def0 K mg "bears" Zkl ZoF) (g:Glb K mg) (zd16:MDef P w K mg base 1 "has" ZeY):MDef P w K mg base 2 "bears" Z2:=
  ZT D zc17 2 2 rfl rfl fun f cdv A outer s H E hr=>(Zj (Zs (zp (zO hr.units) (Zh zd16 hr (by decide) (Za (ZA ZB (Zb 0) (Zl g.zc8)) (Za (Zb 1) Ze))) Zi)))
theorem Zxw (D:Def0 K mg "byte_of_head" Zki ZoC) (g:Glb K mg) :MDef P w K mg base 1 "byte_of_head" zR:=
  ZT D zc20 1 1 rfl rfl fun f cdv A outer s H E hr=>(Zj (Zs (Zu ZcC Zi (Zu Zd2 (Zb 0) Zi))))
theorem Zxu (D:Def0 K mg "two_bytes" Zkg ZoA) (g:Glb K mg) :MDef P w K mg base 1 "two_bytes" zj:=
  ZT D zc22 1 1 rfl rfl fun f cdv A outer s H E hr=>(Zj (Zs (zo (Za (Zu ZaG (Zu Zd2 (Zb 0) Zi) Zi) (Za (Zu ZaG (Zb 0) Zi) Ze)))))
theorem Zxt (D:Def0 K mg "four_bytes" Zkf Zoz) (g:Glb K mg) (zd22:MDef P w K mg base 1 "two_bytes" zj):MDef P w K mg base 2 "four_bytes" Zbg:=
  ZT D zc23 1 1 rfl rfl fun f cdv A outer s H E hr=>(Zj (Zs (Zu ZM (Zh zd22 hr (by decide) (Za (Zu Zd2 (Zb 0) Zi) Ze)) (Zh zd22 hr (by decide) (Za (Zb 0) Ze)))))
theorem Zxx (D:Def0 K mg "bytes_ahead_of_sum" Zkj ZoD) (g:Glb K mg) (zd20:MDef P w K mg base 1 "byte_of_head" zR) (zd23:MDef P w K mg base 2 "four_bytes" Zbg) (zd22:MDef P w K mg base 1 "two_bytes" zj):MDef P w K mg base 3 "bytes_ahead_of_sum" zQ:=
  ZT D zc19 1 4 rfl rfl fun f cdv A outer s H E hr=>(Zg (ZI 1 zc19.nd (Zu ZM (Zh zd22 hr (by decide) (Za (ZA ZB (Zb 0) (Zl g.zc34)) Ze)) (Zh zd22 hr (by decide) (Za (ZA ZB (Zb 0) (Zl g.zc9)) Ze))))
  (Zg (ZI 2 zc19.nd (Zu ZM (Zh zd23 hr (by decide) (Za (ZA ZB (Zb 0) (Zl g.zc24)) Ze)) (Zh zd23 hr (by decide) (Za (ZA ZB (Zb 0) (Zl g.zc1)) Ze))))
  (Zg (ZI 3 zc19.nd (Zcv (ZC (zO hr.units) (ZA ZB (Zb 0) (Zl g.zc20)) Zi) (Zl g.zc33) (Zl g.zc19)))
  (Zj (Zs (Zu ZM (Zu ZM (Zu ZM (Zb 1) (Zb 2)) (zo (Za (Zh zd20 hr (by decide) (Za (Zb 3) Ze)) (Za (ZA ZB (Zb 0) (Zl g.zc8)) Ze)))) (Zh zd22 hr (by decide) (Za (ZA ZB (Zb 0) (Zl g.zc42)) Ze))))))))
theorem Zxv (D:Def0 K mg "bytes_of_most" Zkh ZoB) (g:Glb K mg) (zd22:MDef P w K mg base 1 "two_bytes" zj):MDef P w K mg base 2 "bytes_of_most" ZaX:=
  ZT D zc21 1 1 rfl rfl fun f cdv A outer s H E hr=>(Zj (Zs (Zcv (ZC (zO hr.units) (Zb 0) Zi) (zo Ze) (Zu ZM (zo (Za Zi (Za Zi Ze))) (Zh zd22 hr (by decide) (Za (Zb 0) Ze))))))
theorem Zxy (D:Def0 K mg "put" Zkk ZoE) (g:Glb K mg) (zd19:MDef P w K mg base 3 "bytes_ahead_of_sum" zQ) (zd21:MDef P w K mg base 2 "bytes_of_most" ZaX) (zd14:MDef P w K mg base 2 "sum_of" Zei) (zd22:MDef P w K mg base 1 "two_bytes" zj):MDef P w K mg base 4 "put" ZkJ:=
  ZT D zc18 1 3 rfl rfl fun f cdv A outer s H E hr=>(Zg (ZI 1 zc18.nd (Zh zd19 hr (by decide) (Za (Zb 0) Ze)))
  (Zg (ZI 2 zc18.nd (Zu ZM (Zu ZM (zo (Za Zi (Za Zi Ze))) (Zh zd21 hr (by decide) (Za (ZA ZB (Zb 0) (Zl g.zc20)) Ze))) (Zce Zqp g.b_list PyProof.Rows.boot_list (Za (ZA ZB (Zb 0) (Zl g.zc5)) Ze))))
  (Zj (Zs (Zu ZM (Zu ZM (Zb 1) (Zh zd22 hr (by decide) (Za (Zh zd14 hr (by decide) (Za (Zu ZM (Zu ZM (Zb 1) (zo (Za Zi (Za Zi Ze)))) (Zb 2)) Ze)) Ze))) (Zb 2))))))
theorem Zxr (D:Def0 K mg "head_of" Zkd Zox) (g:Glb K mg) :MDef P w K mg base 1 "head_of" Zbf:=
  ZT D zc25 1 1 rfl rfl fun f cdv A outer s H E hr=>(Zj (Zs (Zu ZcC (Zu Zd2 (ZA ZB (Zb 0) Zi) Zi) Zi)))
theorem Zxo (D:Def0 K mg "two_at" Zka Zou) (g:Glb K mg) :MDef P w K mg base 1 "two_at" Zab:=
  ZT D zc28 2 2 rfl rfl fun f cdv A outer s H E hr=>(Zj (Zs (Zu ZM (Zu ZcC Zi (ZA ZB (Zb 0) (Zb 1))) (ZA ZB (Zb 0) (Zu ZM (Zb 1) Zi)))))
theorem Zxq (D:Def0 K mg "is_right_long_head" Zkc Zow) (g:Glb K mg) (zd16:MDef P w K mg base 1 "has" ZeY) (zd28:MDef P w K mg base 1 "two_at" Zab):MDef P w K mg base 2 "is_right_long_head" zP:=
  ZT D zc26 1 1 rfl rfl fun f cdv A outer s H E hr=>(Zj (Zs (ZaU (zp (zO hr.units) (Zh zd16 hr (by decide) (Za (ZA ZB (Zb 0) Zi) (Za (Zl g.zc35) Ze))) Zi) (ZaU (zp (zO hr.units) (ZA ZB (Zb 0) Zi) Zi) (ZaU (zp (zO hr.units) (ZA ZB (Zb 0) Zi) Zi) (Zcd (zp Zrt (Zh zd28 hr (by decide) (Za (Zb 0) (Za Zi Ze))) (Zl g.zc16))))))))
theorem Zxs (D:Def0 K mg "is_right" Zke Zoy) (g:Glb K mg) (zd20:MDef P w K mg base 1 "byte_of_head" zR) (zd13:MDef P w K mg base 1 "folded" ZcU) (zd25:MDef P w K mg base 1 "head_of" Zbf) (zd26:MDef P w K mg base 2 "is_right_long_head" zP) (zd28:MDef P w K mg base 1 "two_at" Zab):MDef P w K mg base 3 "is_right" Zad:=
  ZT D zc24 1 1 rfl rfl fun f cdv A outer s H E hr=>(Zj (Zs (ZaU (zp Zrt (zb Zd7 g.b_len PySem.boot_len (Za (Zb 0) Ze)) (Zl g.zc33)) (ZaU (zp ZkO (ZA ZB (Zb 0) Zi) (ZZ (Za (Zh zd20 hr (by decide) (Za (Zl g.zc33) Ze)) (Za (Zh zd20 hr (by decide) (Za (Zl g.zc19) Ze)) Ze))) (by with_unfolding_all rfl)) (ZaU (zp Zhj (ZA ZB (Zb 0) Zi) (Zl g.zc11)) (ZaU (Zfz Zhj Zhj Zi (Zu Zeo (zb Zd7 g.b_len PySem.boot_len (Za (Zb 0) Ze)) (Zh zd25 hr (by decide) (Za (Zb 0) Ze))) (Zl g.zc10)) (ZaU (zp (zO hr.units) (Zh zd28 hr (by decide) (Za (Zb 0) (Za Zi Ze))) Zi) (ZaU (Zmq (zp (zO hr.units) (Zh zd25 hr (by decide) (Za (Zb 0) Ze)) (Zl g.zc33)) (Zcd (Zh zd26 hr (by decide) (Za (Zb 0) Ze)))) (Zcd (zp (zO hr.units) (Zh zd13 hr (by decide) (Za (Zb 0) Ze)) (Zl g.zc29)))))))))))
theorem Zxn (D:Def0 K mg "four_at" Zj9 Zot) (g:Glb K mg) (zd28:MDef P w K mg base 1 "two_at" Zab):MDef P w K mg base 2 "four_at" ZcM:=
  ZT D zc29 2 2 rfl rfl fun f cdv A outer s H E hr=>(Zj (Zs (Zu ZM (Zu ZcC Zi (Zh zd28 hr (by decide) (Za (Zb 0) (Za (Zb 1) Ze)))) (Zh zd28 hr (by decide) (Za (Zb 0) (Za (Zu ZM (Zb 1) Zi) Ze))))))
theorem Zxp (D:Def0 K mg "get" Zkb Zov) (g:Glb K mg) (zd29:MDef P w K mg base 2 "four_at" ZcM) (zd25:MDef P w K mg base 1 "head_of" Zbf) (zd24:MDef P w K mg base 3 "is_right" Zad) (zd28:MDef P w K mg base 1 "two_at" Zab):MDef P w K mg base 4 "get" Zif:=
  ZT D zc27 1 5 rfl rfl fun f cdv A outer s H E hr=>(Zg (ZH (Za9 (ZE (Zh zd24 hr (by decide) (Za (Zb 0) Ze)))) (Zj ZpI) Zx)
  (Zg (ZI 1 zc27.nd (Zh zd25 hr (by decide) (Za (Zb 0) Ze)))
  (Zg (ZI 2 zc27.nd (Zcv (ZC (zO hr.units) (Zb 1) (Zl g.zc19)) (Zh zd28 hr (by decide) (Za (Zb 0) (Za Zi Ze))) Zi))
  (Zg (ZI 3 zc27.nd (ZZ (Za (Zh zd28 hr (by decide) (Za (Zb 0) (Za Zi Ze))) (Za (Zh zd28 hr (by decide) (Za (Zb 0) (Za Zi Ze))) Ze))))
  (Zg (ZI 4 zc27.nd (ZZ (Za (Zh zd29 hr (by decide) (Za (Zb 0) (Za Zi Ze))) (Za (Zh zd29 hr (by decide) (Za (Zb 0) (Za Zi Ze))) Ze))))
  (Zj (Zs (Zu ZM (Zu ZM (Zb 3) (Zb 4)) (ZZ (Za (ZA ZB (Zb 0) Zi) (Za (Zh zd28 hr (by decide) (Za (Zb 0) (Za Zi Ze))) (Za (Zb 2) (Za (Zce Zg1 g.b_tuple PyProof.Rows.boot_tuple (Za (Zbb (Zb 0) (Zal (Zb 1)) ZbS) Ze)) Ze)))))))))))))
theorem Zxh (D:Def0 K mg "most_at_once" Zj3 Zon) (g:Glb K mg) :MDef P w K mg base 1 "most_at_once" Zac:=
  ZT D zc35 1 1 rfl rfl fun f cdv A outer s H E hr=>(Zj (Zs (zb ZmC g.b_min PyProof.Rows.boot_min (Za (Zm (Zq ⟨g.k_End,g.zn7⟩) (Zb 0)) (Za (Zl g.zc10) Ze)))))
theorem Zxg (D:Def0 K mg "paid_syn" Zj2 Zom) (g:Glb K mg) :MDef P w K mg base 1 "paid_syn" Zbz:=
  ZT D zc36 1 1 rfl rfl fun f cdv A outer s H E hr=>(Zg (Zv (Zq ⟨g.k_End,g.zn12⟩) (Zb 0) zA)
  (Zg (ZH (ZC (zO hr.units) (Zm (Zq ⟨g.k_End,g.zn16⟩) (Zb 0)) (Zz g.zc37)) (Zj (Zs (ZZ (Za (Zm (Zq ⟨g.k_End,g.zn9⟩) (Zb 0)) (Za (Zm (Zq ⟨g.k_End,g.zn17⟩) (Zb 0)) (Za (Zm (Zq ⟨g.k_End,g.zn5⟩) (Zb 0)) (Za Zi (Za (Zl g.zc35) (Za (Zl g.zc30) (Za (Zl g.zc10) (Za (ZZ Ze) Ze))))))))))) Zx)
  (Zj (Zs (ZZ (Za (Zm (Zq ⟨g.k_End,g.zn9⟩) (Zb 0)) (Za (Zm (Zq ⟨g.k_End,g.zn17⟩) (Zb 0)) (Za (Zm (Zq ⟨g.k_End,g.zn5⟩) (Zb 0)) (Za (Zm (Zq ⟨g.k_End,g.zn14⟩) (Zb 0)) (Za (Zu ZM (Zl g.zc35) (Zl g.zc0)) (Za (Zl g.zc30) (Za (Zl g.zc10) (Za (ZZ Ze) Ze)))))))))))))
theorem Zxf (D:Def0 K mg "segment_of" Zj1 Zol) (g:Glb K mg) (zd11:MDef P w K mg base 2 "our_window" ZaT):MDef P w K mg base 3 "segment_of" zB:=
  ZT D zc37 4 4 rfl rfl fun f cdv A outer s H E hr=>(Zj (Zs (ZZ (Za (Zm (Zq ⟨g.k_End,g.zn9⟩) (Zb 0)) (Za (Zm (Zq ⟨g.k_End,g.zn17⟩) (Zb 0)) (Za (Zb 1) (Za (Zm (Zq ⟨g.k_End,g.zn14⟩) (Zb 0)) (Za (Zu ZM (Zb 2) (Zl g.zc0)) (Za (Zh zd11 hr (by decide) (Za (Zb 0) Ze)) (Za Zi (Za (Zce Zg1 g.b_tuple PyProof.Rows.boot_tuple (Za (Zb 3) Ze)) Ze)))))))))))
theorem Zxi (D:Def0 K mg "again" Zj4 Zoo) (g:Glb K mg) (zd35:MDef P w K mg base 1 "most_at_once" Zac) (zd5:MDef P w K mg base 1 "offset" zD) (zd36:MDef P w K mg base 1 "paid_syn" Zbz) (zd37:MDef P w K mg base 3 "segment_of" zB):MDef P w K mg base 4 "again" Zc6:=
  ZT D zc34 2 3 rfl rfl fun f cdv A outer s H E hr=>(Zg (ZH (ZC (zO hr.units) (Zm (Zq ⟨g.k_End,g.zn20⟩) (Zb 0)) (Zl g.zc21)) (Zg (Zv (Zq ⟨g.k_End,g.zn16⟩) (Zb 0) (Zz g.zc2))
    (Zg (Zv (Zq ⟨g.k_End,g.zn4⟩) (Zb 0) (Zz g.zc38))
    (Zj (Zs ZaI)))) Zx)
  (Zg (Zv (Zq ⟨g.k_End,g.zn20⟩) (Zb 0) (Zu ZM (Zm (Zq ⟨g.k_End,g.zn20⟩) (Zb 0)) Zi))
  (Zg (Zv (Zq ⟨g.k_End,g.zn22⟩) (Zb 0) (zb ZmC g.b_min PyProof.Rows.boot_min (Za (Zu ZcC Zi (Zm (Zq ⟨g.k_End,g.zn22⟩) (Zb 0))) (Za (Zl g.zc18) Ze))))
  (Zg (Zv (Zq ⟨g.k_End,g.zn15⟩) (Zb 0) (Zb 1))
  (Zg (ZH (ZC ZkO (Zm (Zq ⟨g.k_End,g.zn16⟩) (Zb 0)) (ZZ (Za (Zz g.zc37) (Za (Zz g.zc36) Ze))) (by with_unfolding_all rfl)) (Zj (Zs (Zh zd36 hr (by decide) (Za (Zb 0) Ze)))) Zx)
  (Zg (ZI 2 zc34.nd (Zbb (Zm (Zq ⟨g.k_Pile,g.zn25⟩) (Zm (Zq ⟨g.k_End,g.zn24⟩) (Zb 0))) ZbS (Zal (zb ZmC g.b_min PyProof.Rows.boot_min (Za (Zh zd5 hr (by decide) (Za (Zm (Zq ⟨g.k_End,g.zn8⟩) (Zb 0)) (Za (Zm (Zq ⟨g.k_End,g.zn21⟩) (Zb 0)) Ze))) (Za (Zh zd35 hr (by decide) (Za (Zb 0) Ze)) Ze))))))
  (Zj (Zs (Zh zd37 hr (by decide) (Za (Zb 0) (Za (Zm (Zq ⟨g.k_End,g.zn21⟩) (Zb 0)) (Za (Zcv (ZC ZhX (zb Zd7 g.b_len PySem.boot_len (Za (Zb 2) Ze)) Zi) Zi (Zl g.zc6)) (Za (Zb 2) Ze)))))))))))))
theorem Zw4 (D:Def0 K mg "going_as_answer" ZjQ Zoa) (g:Glb K mg) (zd37:MDef P w K mg base 3 "segment_of" zB):MDef P w K mg base 4 "going_as_answer" zV:=
  ZT D Zyb 1 1 rfl rfl fun f cdv A outer s H E hr=>(Zg (ZH (Za9 (ZE (Zm (Zq ⟨g.k_End,g.zn11⟩) (Zb 0)))) (Zj (Zs ZaI)) Zx)
  (Zg (Zv (Zq ⟨g.k_End,g.zn11⟩) (Zb 0) zA)
  (Zj (Zs (Zh zd37 hr (by decide) (Za (Zb 0) (Za (Zm (Zq ⟨g.k_End,g.zn8⟩) (Zb 0)) (Za Zi (Za (zo Ze) Ze)))))))))
theorem Zxa (D:Def0 K mg "unsent" ZjW Zog) (g:Glb K mg) (zd5:MDef P w K mg base 1 "offset" zD):MDef P w K mg base 2 "unsent" Zbq:=
  ZT D zc42 1 1 rfl rfl fun f cdv A outer s H E hr=>(Zj (Zs (Zh zd5 hr (by decide) (Za (Zm (Zq ⟨g.k_End,g.zn0⟩) (Zb 0)) (Za (Zm (Zq ⟨g.k_End,g.zn8⟩) (Zb 0)) Ze)))))
theorem Zxb (D:Def0 K mg "has_new_data" ZjX Zoh) (g:Glb K mg) (zd42:MDef P w K mg base 2 "unsent" Zbq):MDef P w K mg base 3 "has_new_data" Zae:=
  ZT D zc41 1 1 rfl rfl fun f cdv A outer s H E hr=>(Zj (Zs (ZaU (zp ZkO (Zm (Zq ⟨g.k_End,g.zn16⟩) (Zb 0)) (ZZ (Za (Zz g.zc25) (Za (Zz g.zc40) (Za (Zz g.zc3) (Za (Zz g.zc4) (Za (Zz g.zc14) Ze)))))) (by with_unfolding_all rfl)) (Zcd (zp ZhX (Zh zd42 hr (by decide) (Za (Zb 0) Ze)) Zi)))))
theorem Zw9 (D:Def0 K mg "has_new_fin" ZjV Zof) (g:Glb K mg) (zd42:MDef P w K mg base 2 "unsent" Zbq):MDef P w K mg base 3 "has_new_fin" Zbr:=
  ZT D zc43 1 1 rfl rfl fun f cdv A outer s H E hr=>(Zj (Zs (ZaU (zp ZkO (Zm (Zq ⟨g.k_End,g.zn16⟩) (Zb 0)) (ZZ (Za (Zz g.zc40) (Za (Zz g.zc4) (Za (Zz g.zc14) Ze)))) (by with_unfolding_all rfl)) (Zcd (zp (zO hr.units) (Zh zd42 hr (by decide) (Za (Zb 0) Ze)) Zi)))))
theorem Zxc (D:Def0 K mg "has_more" ZjY Zoi) (g:Glb K mg) (zd41:MDef P w K mg base 3 "has_new_data" Zae) (zd43:MDef P w K mg base 3 "has_new_fin" Zbr):MDef P w K mg base 4 "has_more" ZbB:=
  ZT D zc40 1 1 rfl rfl fun f cdv A outer s H E hr=>(Zj (Zs (Zmq (Zh zd41 hr (by decide) (Za (Zb 0) Ze)) (Zcd (Zh zd43 hr (by decide) (Za (Zb 0) Ze))))))
theorem Zw7 (D:Def0 K mg "new_data" ZjT Zod) (g:Glb K mg) (zd35:MDef P w K mg base 1 "most_at_once" Zac) (zd5:MDef P w K mg base 1 "offset" zD) (zd4:MDef P w K mg base 1 "plus" zC) (zd37:MDef P w K mg base 3 "segment_of" zB) (zd42:MDef P w K mg base 2 "unsent" Zbq):MDef P w K mg base 4 "new_data" Zb9:=
  ZT D zc45 2 5 rfl rfl fun f cdv A outer s H E hr=>(Zg (ZI 2 zc45.nd (Zm (Zq ⟨g.k_End,g.zn8⟩) (Zb 0)))
  (Zg (ZI 3 zc45.nd (zb ZmC g.b_min PyProof.Rows.boot_min (Za (Zh zd35 hr (by decide) (Za (Zb 0) Ze)) (Za (Zh zd42 hr (by decide) (Za (Zb 0) Ze)) (Za (Zb 1) Ze)))))
  (Zg (ZI 4 zc45.nd (Zh zd5 hr (by decide) (Za (Zb 2) (Za (Zm (Zq ⟨g.k_End,g.zn21⟩) (Zb 0)) Ze))))
  (Zg (Zv (Zq ⟨g.k_End,g.zn8⟩) (Zb 0) (Zh zd4 hr (by decide) (Za (Zb 2) (Za (Zb 3) Ze))))
  (Zj (Zs (Zh zd37 hr (by decide) (Za (Zb 0) (Za (Zb 2) (Za (Zcv (ZC (zO hr.units) (Zh zd42 hr (by decide) (Za (Zb 0) Ze)) Zi) (Zl g.zc26) Zi) (Za (Zbb (Zm (Zq ⟨g.k_Pile,g.zn25⟩) (Zm (Zq ⟨g.k_End,g.zn24⟩) (Zb 0))) (Zal (Zb 4)) (Zal (Zu ZM (Zb 4) (Zb 3)))) Ze)))))))))))
theorem Zw6 (D:Def0 K mg "new_fin" ZjS Zoc) (g:Glb K mg) (zd4:MDef P w K mg base 1 "plus" zC) (zd37:MDef P w K mg base 3 "segment_of" zB):MDef P w K mg base 4 "new_fin" Zdp:=
  ZT D zc46 1 2 rfl rfl fun f cdv A outer s H E hr=>(Zg (ZI 1 zc46.nd (Zm (Zq ⟨g.k_End,g.zn8⟩) (Zb 0)))
  (Zg (Zv (Zq ⟨g.k_End,g.zn8⟩) (Zb 0) (Zh zd4 hr (by decide) (Za (Zb 1) (Za Zi Ze))))
  (Zj (Zs (Zh zd37 hr (by decide) (Za (Zb 0) (Za (Zb 1) (Za (Zl g.zc6) (Za (zo Ze) Ze)))))))))
theorem Zw8 (D:Def0 K mg "new_piece" ZjU Zoe) (g:Glb K mg) (zd41:MDef P w K mg base 3 "has_new_data" Zae) (zd45:MDef P w K mg base 4 "new_data" Zb9) (zd46:MDef P w K mg base 4 "new_fin" Zdp):MDef P w K mg base 5 "new_piece" ZaQ:=
  ZT D Zyd 2 2 rfl rfl fun f cdv A outer s H E hr=>(Zg (Zv (Zq ⟨g.k_End,g.zn13⟩) (Zb 0) zA)
  (Zj (Zs (Zcv (ZE (Zh zd41 hr (by decide) (Za (Zb 0) Ze))) (Zh zd45 hr (by decide) (Za (Zb 0) (Za (Zb 1) Ze))) (Zh zd46 hr (by decide) (Za (Zb 0) Ze))))))
theorem Zxd (D:Def0 K mg "new_syn" ZjZ Zoj) (g:Glb K mg) (zd36:MDef P w K mg base 1 "paid_syn" Zbz) (zd4:MDef P w K mg base 1 "plus" zC) (zd8:MDef P w K mg base 1 "start_timer" Z6):MDef P w K mg base 2 "new_syn" ZcL:=
  ZT D zc39 2 2 rfl rfl fun f cdv A outer s H E hr=>(Zg (ZH (ZC (zO hr.units) (Zm (Zq ⟨g.k_End,g.zn8⟩) (Zb 0)) (Zm (Zq ⟨g.k_End,g.zn21⟩) (Zb 0))) (Zj (ZL (Zh zd8 hr (by decide) (Za (Zb 0) (Za (Zb 1) Ze))))) Zx)
  (Zg (Zv (Zq ⟨g.k_End,g.zn8⟩) (Zb 0) (Zh zd4 hr (by decide) (Za (Zm (Zq ⟨g.k_End,g.zn5⟩) (Zb 0)) (Za Zi Ze))))
  (Zj (Zs (Zh zd36 hr (by decide) (Za (Zb 0) Ze))))))
theorem Zxe (D:Def0 K mg "going_as_new" Zj0 Zok) (g:Glb K mg) (zd40:MDef P w K mg base 4 "has_more" ZbB) (zd44:MDef P w K mg base 5 "new_piece" ZaQ) (zd39:MDef P w K mg base 2 "new_syn" ZcL) (zd5:MDef P w K mg base 1 "offset" zD) (zd8:MDef P w K mg base 1 "start_timer" Z6):MDef P w K mg base 6 "going_as_new" Z4:=
  ZT D zc38 2 3 rfl rfl fun f cdv A outer s H E hr=>(Zg (ZH (ZC ZkO (Zm (Zq ⟨g.k_End,g.zn16⟩) (Zb 0)) (ZZ (Za (Zz g.zc37) (Za (Zz g.zc36) Ze))) (by with_unfolding_all rfl)) (Zj (Zs (Zcv (MW.mt (Zco (ZC (zO hr.units) (Zm (Zq ⟨g.k_End,g.zn8⟩) (Zb 0)) (Zm (Zq ⟨g.k_End,g.zn5⟩) (Zb 0))) (zW (ZE (Zm (Zq ⟨g.k_End,g.zn12⟩) (Zb 0)))))) (Zh zd39 hr (by decide) (Za (Zb 0) (Za (Zb 1) Ze))) ZaI))) Zx)
  (Zg (ZI 2 zc38.nd (Zu Zeo (Zm (Zq ⟨g.k_End,g.zn23⟩) (Zb 0)) (Zh zd5 hr (by decide) (Za (Zm (Zq ⟨g.k_End,g.zn8⟩) (Zb 0)) (Za (Zm (Zq ⟨g.k_End,g.zn21⟩) (Zb 0)) Ze)))))
  (Zg (ZH (MW.mt (Zco (ZC Zhj (Zb 2) Zi) (zW (Za9 (ZE (Zh zd40 hr (by decide) (Za (Zb 0) Ze))))))) (Zj (Zs ZaI)) Zx)
  (Zg (ZH (ZC (zO hr.units) (Zm (Zq ⟨g.k_End,g.zn8⟩) (Zb 0)) (Zm (Zq ⟨g.k_End,g.zn21⟩) (Zb 0))) (Zj (ZL (Zh zd8 hr (by decide) (Za (Zb 0) (Za (Zb 1) Ze))))) Zx)
  (Zg (Zv (Zq ⟨g.k_End,g.zn11⟩) (Zb 0) zA)
  (Zj (Zs (Zh zd44 hr (by decide) (Za (Zb 0) (Za (Zb 2) Ze))))))))))
theorem Zxj (D:Def0 K mg "is_due" Zj5 Zop) (g:Glb K mg) :MDef P w K mg base 1 "is_due" ZcT:=
  ZT D zc33 2 2 rfl rfl fun f cdv A outer s H E hr=>(Zj (Zs (zp Zrt (Zu Zeo (Zb 1) (Zm (Zq ⟨g.k_End,g.zn15⟩) (Zb 0))) (Zm (Zq ⟨g.k_End,g.zn22⟩) (Zb 0)))))
theorem Zw5 (D:Def0 K mg "going_as_probe" ZjR Zob) (g:Glb K mg) (zd40:MDef P w K mg base 4 "has_more" ZbB) (zd33:MDef P w K mg base 1 "is_due" ZcT) (zd44:MDef P w K mg base 5 "new_piece" ZaQ) (zd8:MDef P w K mg base 1 "start_timer" Z6):MDef P w K mg base 6 "going_as_probe" Z7:=
  ZT D Zyc 2 2 rfl rfl fun f cdv A outer s H E hr=>(Zg (ZH (MW.mt (Zco (ZC (Zdq hr.units) (Zm (Zq ⟨g.k_End,g.zn8⟩) (Zb 0)) (Zm (Zq ⟨g.k_End,g.zn21⟩) (Zb 0))) (Zco (ZC (Zdq hr.units) (Zm (Zq ⟨g.k_End,g.zn23⟩) (Zb 0)) Zi) (zW (Za9 (ZE (Zh zd40 hr (by decide) (Za (Zb 0) Ze)))))))) (Zg (Zv (Zq ⟨g.k_End,g.zn13⟩) (Zb 0) zA)
    (Zj (Zs ZaI))) Zx)
  (Zg (ZH (Za9 (ZE (Zm (Zq ⟨g.k_End,g.zn13⟩) (Zb 0)))) (Zg (Zv (Zq ⟨g.k_End,g.zn13⟩) (Zb 0) zA)
    (Zj (ZL (Zh zd8 hr (by decide) (Za (Zb 0) (Za (Zb 1) Ze)))))) Zx)
  (Zg (ZH (Za9 (ZE (Zh zd33 hr (by decide) (Za (Zb 0) (Za (Zb 1) Ze))))) (Zj (Zs ZaI)) Zx)
  (Zg (Zv (Zq ⟨g.k_End,g.zn15⟩) (Zb 0) (Zb 1))
  (Zj (Zs (Zh zd44 hr (by decide) (Za (Zb 0) (Za Zi Ze)))))))))
theorem Zxk (D:Def0 K mg "paid_reset" Zj6 Zoq) (g:Glb K mg) :MDef P w K mg base 1 "paid_reset" ZcF:=
  ZT D zc32 1 2 rfl rfl fun f cdv A outer s H E hr=>(Zg (ZI 1 zc32.nd (Zm (Zq ⟨g.k_End,g.zn10⟩) (Zb 0)))
  (Zg (Zv (Zq ⟨g.k_End,g.zn10⟩) (Zb 0) ZaI)
  (Zj (Zs (Zb 1)))))
theorem Zxl (D:Def0 K mg "going" Zj7 Zor) (g:Glb K mg) (zd34:MDef P w K mg base 4 "again" Zc6) (zd48:MDef P w K mg base 4 "going_as_answer" zV) (zd38:MDef P w K mg base 6 "going_as_new" Z4) (zd47:MDef P w K mg base 6 "going_as_probe" Z7) (zd33:MDef P w K mg base 1 "is_due" ZcT) (zd32:MDef P w K mg base 1 "paid_reset" ZcF):MDef P w K mg base 7 "going" ZdK:=
  ZT D zc31 2 3 rfl rfl fun f cdv A outer s H E hr=>(Zg (ZH (ZC Zmj (Zm (Zq ⟨g.k_End,g.zn10⟩) (Zb 0)) ZaI) (Zj (Zs (Zh zd32 hr (by decide) (Za (Zb 0) Ze)))) Zx)
  (Zg (ZH (MW.mt (Zep (ZC (zO hr.units) (Zm (Zq ⟨g.k_End,g.zn16⟩) (Zb 0)) (Zz g.zc39)) (ZbC (ZC Zrt (Zu Zeo (Zb 1) (Zm (Zq ⟨g.k_End,g.zn15⟩) (Zb 0))) (Zl g.zc15))))) (Zj (Zv (Zq ⟨g.k_End,g.zn16⟩) (Zb 0) (Zz g.zc2))) Zx)
  (Zg (ZH (ZC ZkO (Zm (Zq ⟨g.k_End,g.zn16⟩) (Zb 0)) (ZZ (Za (Zz g.zc2) (Za (Zz g.zc17) Ze))) (by with_unfolding_all rfl)) (Zj (Zs ZaI)) Zx)
  (Zg (ZH (MW.mt (Zep (ZC (Zdq hr.units) (Zm (Zq ⟨g.k_End,g.zn8⟩) (Zb 0)) (Zm (Zq ⟨g.k_End,g.zn21⟩) (Zb 0))) (ZbC (ZE (Zh zd33 hr (by decide) (Za (Zb 0) (Za (Zb 1) Ze))))))) (Zj (Zs (Zh zd34 hr (by decide) (Za (Zb 0) (Za (Zb 1) Ze))))) Zx)
  (Zg (ZI 2 zc31.nd (Zh zd38 hr (by decide) (Za (Zb 0) (Za (Zb 1) Ze))))
  (Zg (ZH (ZC ZpA (Zb 2) ZaI) (Zj (ZI 2 zc31.nd (Zh zd47 hr (by decide) (Za (Zb 0) (Za (Zb 1) Ze))))) Zx)
  (Zg (ZH (ZC ZpA (Zb 2) ZaI) (Zj (ZI 2 zc31.nd (Zh zd48 hr (by decide) (Za (Zb 0) Ze)))) Zx)
  (Zj (Zs (Zb 2))))))))))
theorem Zxm (D:Def0 K mg "send" Zj8 Zos) (g:Glb K mg) (zd31:MDef P w K mg base 7 "going" ZdK) (zd18:MDef P w K mg base 4 "put" ZkJ):MDef P w K mg base 8 "send" ZbR:=
  ZT D zc30 2 3 rfl rfl fun f cdv A outer s H E hr=>(Zg (ZI 2 zc30.nd (Zh zd31 hr (by decide) (Za (Zb 0) (Za (Zb 1) Ze))))
  (Zj (Zs (Zcv (ZC ZpA (Zb 2) ZaI) (zo Ze) (Zh zd18 hr (by decide) (Za (Zb 2) Ze))))))
theorem Zw3 (D:Def0 K mg "reset_for" ZjP Zn9) (g:Glb K mg) (zd17:MDef P w K mg base 2 "bears" Z2) (zd15:MDef P w K mg base 2 "length" Zcn) (zd4:MDef P w K mg base 1 "plus" zC):MDef P w K mg base 3 "reset_for" ZbE:=
  ZT D zc49 1 2 rfl rfl fun f cdv A outer s H E hr=>(Zg (ZI 1 zc49.nd (ZZ (Za (ZA ZB (Zb 0) (Zl g.zc9)) (Za (ZA ZB (Zb 0) (Zl g.zc34)) Ze))))
  (Zg (ZH (ZE (Zh zd17 hr (by decide) (Za (Zb 0) (Za (Zl g.zc0) Ze)))) (Zj (Zs (Zu ZM (Zb 1) (ZZ (Za (ZA ZB (Zb 0) (Zl g.zc1)) (Za Zi (Za (Zl g.zc32) (Za Zi (Za Zi (Za (ZZ Ze) Ze)))))))))) Zx)
  (Zj (Zs (Zu ZM (Zb 1) (ZZ (Za Zi (Za (Zh zd4 hr (by decide) (Za (ZA ZB (Zb 0) (Zl g.zc24)) (Za (Zh zd15 hr (by decide) (Za (Zb 0) Ze)) Ze))) (Za (Zu ZM (Zl g.zc32) (Zl g.zc0)) (Za Zi (Za Zi (Za (ZZ Ze) Ze))))))))))))
theorem Zw2 (D:Def0 K mg "owe_reset_for" ZjO Zn8) (g:Glb K mg) (zd17:MDef P w K mg base 2 "bears" Z2) (zd49:MDef P w K mg base 3 "reset_for" ZbE):MDef P w K mg base 4 "owe_reset_for" ZX:=
  ZT D Zya 2 2 rfl rfl fun f cdv A outer s H E hr=>(Zj (ZH (Za9 (ZE (Zh zd17 hr (by decide) (Za (Zb 1) (Za (Zl g.zc32) Ze))))) (Zj (Zv (Zq ⟨g.k_End,g.zn10⟩) (Zb 0) (Zh zd49 hr (by decide) (Za (Zb 1) Ze)))) Zx))
theorem Zw1 (D:Def0 K mg "come_to_closed" ZjN Zn7) (g:Glb K mg) (zd50:MDef P w K mg base 4 "owe_reset_for" ZX):MDef P w K mg base 5 "come_to_closed" ZaF:=
  ZT D Zx9 2 2 rfl rfl fun f cdv A outer s H E hr=>(Zj (ZL (Zh zd50 hr (by decide) (Za (Zb 0) (Za (Zb 1) Ze)))))
theorem ZwZ (D:Def0 K mg "hear_syn" ZjL Zn5) (g:Glb K mg) (zd17:MDef P w K mg base 2 "bears" Z2) (zd4:MDef P w K mg base 1 "plus" zC):MDef P w K mg base 3 "hear_syn" ZbA:=
  ZT D Zx7 2 2 rfl rfl fun f cdv A outer s H E hr=>(Zg (Zv (Zq ⟨g.k_End,g.zn14⟩) (Zb 0) (Zh zd4 hr (by decide) (Za (ZA ZB (Zb 1) (Zl g.zc24)) (Za Zi Ze))))
  (Zg (Zv (Zq ⟨g.k_End,g.zn23⟩) (Zb 0) (ZA ZB (Zb 1) (Zl g.zc42)))
  (Zg (Zv (Zq ⟨g.k_End,g.zn18⟩) (Zb 0) (ZA ZB (Zb 1) (Zl g.zc24)))
  (Zg (Zv (Zq ⟨g.k_End,g.zn19⟩) (Zb 0) (Zcv (ZE (Zh zd17 hr (by decide) (Za (Zb 1) (Za (Zl g.zc0) Ze)))) (ZA ZB (Zb 1) (Zl g.zc1)) Zi))
  (Zj (ZH (ZC (Zdq hr.units) (ZA ZB (Zb 1) (Zl g.zc20)) Zi) (Zj (Zv (Zq ⟨g.k_End,g.zn7⟩) (Zb 0) (ZA ZB (Zb 1) (Zl g.zc20)))) Zx))))))
theorem Zw0 (D:Def0 K mg "come_to_listen" ZjM Zn6) (g:Glb K mg) (zd17:MDef P w K mg base 2 "bears" Z2) (zd53:MDef P w K mg base 3 "hear_syn" ZbA) (zd50:MDef P w K mg base 4 "owe_reset_for" ZX):MDef P w K mg base 5 "come_to_listen" zw:=
  ZT D Zx8 2 2 rfl rfl fun f cdv A outer s H E hr=>(Zg (ZH (ZE (Zh zd17 hr (by decide) (Za (Zb 1) (Za (Zl g.zc32) Ze)))) (Zj ZdL) Zx)
  (Zj (ZH (ZE (Zh zd17 hr (by decide) (Za (Zb 1) (Za (Zl g.zc0) Ze)))) (Zj (ZL (Zh zd50 hr (by decide) (Za (Zb 0) (Za (Zb 1) Ze))))) (Zj (ZH (ZE (Zh zd17 hr (by decide) (Za (Zb 1) (Za (Zl g.zc35) Ze)))) (Zg (Zv (Zq ⟨g.k_End,g.zn17⟩) (Zb 0) (ZA ZB (Zb 1) (Zl g.zc34)))
      (Zg (ZL (Zh zd53 hr (by decide) (Za (Zb 0) (Za (Zb 1) Ze))))
      (Zj (Zv (Zq ⟨g.k_End,g.zn16⟩) (Zb 0) (Zz g.zc36))))) Zx)))))
theorem ZwX (D:Def0 K mg "answers_syn" ZjJ Zn3) (g:Glb K mg) (zd4:MDef P w K mg base 1 "plus" zC):MDef P w K mg base 2 "answers_syn" Zbs:=
  ZT D Zx5 2 2 rfl rfl fun f cdv A outer s H E hr=>(Zj (Zs (ZaU (zp (Zdq hr.units) (Zm (Zq ⟨g.k_End,g.zn8⟩) (Zb 0)) (Zm (Zq ⟨g.k_End,g.zn5⟩) (Zb 0))) (Zcd (zp (zO hr.units) (ZA ZB (Zb 1) (Zl g.zc1)) (Zh zd4 hr (by decide) (Za (Zm (Zq ⟨g.k_End,g.zn5⟩) (Zb 0)) (Za Zi Ze))))))))
theorem ZwV (D:Def0 K mg "go_on_from_syn_sent" ZjH Zn1) (g:Glb K mg) (zd17:MDef P w K mg base 2 "bears" Z2) (zd8:MDef P w K mg base 1 "start_timer" Z6):MDef P w K mg base 3 "go_on_from_syn_sent" zJ:=
  ZT D Zx3 3 3 rfl rfl fun f cdv A outer s H E hr=>(Zj (ZH (ZE (Zh zd17 hr (by decide) (Za (Zb 1) (Za (Zl g.zc0) Ze)))) (Zg (Zv (Zq ⟨g.k_End,g.zn21⟩) (Zb 0) (ZA ZB (Zb 1) (Zl g.zc1)))
    (Zg (Zv (Zq ⟨g.k_End,g.zn16⟩) (Zb 0) (Zz g.zc25))
    (Zj (Zv (Zq ⟨g.k_End,g.zn11⟩) (Zb 0) zA)))) (Zg (Zv (Zq ⟨g.k_End,g.zn16⟩) (Zb 0) (Zz g.zc36))
    (Zg (ZL (Zh zd8 hr (by decide) (Za (Zb 0) (Za (Zb 2) Ze))))
    (Zj (Zv (Zq ⟨g.k_End,g.zn12⟩) (Zb 0) zA))))))
theorem ZwW (D:Def0 K mg "refuse" ZjI Zn2) (g:Glb K mg) (zd17:MDef P w K mg base 2 "bears" Z2):MDef P w K mg base 3 "refuse" Zej:=
  ZT D Zx4 2 2 rfl rfl fun f cdv A outer s H E hr=>(Zj (ZH (ZE (Zh zd17 hr (by decide) (Za (Zb 1) (Za (Zl g.zc0) Ze)))) (Zg (Zv (Zq ⟨g.k_End,g.zn16⟩) (Zb 0) (Zz g.zc2))
    (Zj (Zv (Zq ⟨g.k_End,g.zn4⟩) (Zb 0) (Zz g.zc27)))) Zx))
theorem ZwY (D:Def0 K mg "come_to_syn_sent" ZjK Zn4) (g:Glb K mg) (zd55:MDef P w K mg base 2 "answers_syn" Zbs) (zd17:MDef P w K mg base 2 "bears" Z2) (zd57:MDef P w K mg base 3 "go_on_from_syn_sent" zJ) (zd53:MDef P w K mg base 3 "hear_syn" ZbA) (zd50:MDef P w K mg base 4 "owe_reset_for" ZX) (zd56:MDef P w K mg base 3 "refuse" Zej):MDef P w K mg base 5 "come_to_syn_sent" ZR:=
  ZT D Zx6 3 3 rfl rfl fun f cdv A outer s H E hr=>(Zj (ZH (MW.mt (Zep (ZE (Zh zd17 hr (by decide) (Za (Zb 1) (Za (Zl g.zc0) Ze)))) (ZbC (Za9 (ZE (Zh zd55 hr (by decide) (Za (Zb 0) (Za (Zb 1) Ze)))))))) (Zj (ZL (Zh zd50 hr (by decide) (Za (Zb 0) (Za (Zb 1) Ze))))) (Zj (ZH (ZE (Zh zd17 hr (by decide) (Za (Zb 1) (Za (Zl g.zc32) Ze)))) (Zj (ZL (Zh zd56 hr (by decide) (Za (Zb 0) (Za (Zb 1) Ze))))) (Zj (ZH (ZE (Zh zd17 hr (by decide) (Za (Zb 1) (Za (Zl g.zc35) Ze)))) (Zg (ZL (Zh zd53 hr (by decide) (Za (Zb 0) (Za (Zb 1) Ze))))
        (Zj (ZL (Zh zd57 hr (by decide) (Za (Zb 0) (Za (Zb 1) (Za (Zb 2) Ze))))))) Zx))))))
theorem ZwQ (D:Def0 K mg "is_in_window" ZjC ZnW) (g:Glb K mg) (zd5:MDef P w K mg base 1 "offset" zD) (zd11:MDef P w K mg base 2 "our_window" ZaT):MDef P w K mg base 3 "is_in_window" zk:=
  ZT D Zx0 2 2 rfl rfl fun f cdv A outer s H E hr=>(Zj (Zs (Zfz Zhj ZtH Zi (Zh zd5 hr (by decide) (Za (Zb 1) (Za (Zm (Zq ⟨g.k_End,g.zn14⟩) (Zb 0)) Ze))) (Zh zd11 hr (by decide) (Za (Zb 0) Ze)))))
theorem ZwR (D:Def0 K mg "fits" ZjD ZnX) (g:Glb K mg) (zd62:MDef P w K mg base 3 "is_in_window" zk) (zd15:MDef P w K mg base 2 "length" Zcn) (zd5:MDef P w K mg base 1 "offset" zD) (zd4:MDef P w K mg base 1 "plus" zC):MDef P w K mg base 4 "fits" Zf0:=
  ZT D zc61 2 4 rfl rfl fun f cdv A outer s H E hr=>(Zg (ZI 2 zc61.nd (Zh zd15 hr (by decide) (Za (Zb 1) Ze)))
  (Zg (ZH (ZC (zO hr.units) (Zb 2) Zi) (Zj (Zs (Zfz Zhj Zhj Zi (Zh zd5 hr (by decide) (Za (ZA ZB (Zb 1) (Zl g.zc24)) (Za (Zm (Zq ⟨g.k_End,g.zn14⟩) (Zb 0)) Ze))) (Zl g.zc30)))) Zx)
  (Zg (ZI 3 zc61.nd (Zh zd4 hr (by decide) (Za (ZA ZB (Zb 1) (Zl g.zc24)) (Za (Zu Zeo (Zb 2) Zi) Ze))))
  (Zj (Zs (Zmq (Zh zd62 hr (by decide) (Za (Zb 0) (Za (ZA ZB (Zb 1) (Zl g.zc24)) Ze))) (Zcd (Zh zd62 hr (by decide) (Za (Zb 0) (Za (Zb 3) Ze))))))))))
theorem ZwI (D:Def0 K mg "end_what_is_acknowledged" Zju ZnO) (g:Glb K mg) (zd12:MDef P w K mg base 3 "has_sent_fin" Za7):MDef P w K mg base 4 "end_what_is_acknowledged" ZQ:=
  ZT D ZxT 2 2 rfl rfl fun f cdv A outer s H E hr=>(Zg (ZH (MW.mt (Zco (Za9 (ZE (Zh zd12 hr (by decide) (Za (Zb 0) Ze)))) (zW (ZC (Zdq hr.units) (Zm (Zq ⟨g.k_End,g.zn21⟩) (Zb 0)) (Zm (Zq ⟨g.k_End,g.zn8⟩) (Zb 0)))))) (Zj ZdL) Zx)
  (Zj (ZH (ZC (zO hr.units) (Zm (Zq ⟨g.k_End,g.zn16⟩) (Zb 0)) (Zz g.zc40)) (Zj (Zv (Zq ⟨g.k_End,g.zn16⟩) (Zb 0) (Zz g.zc41))) (Zj (ZH (ZC (zO hr.units) (Zm (Zq ⟨g.k_End,g.zn16⟩) (Zb 0)) (Zz g.zc4)) (Zg (Zv (Zq ⟨g.k_End,g.zn16⟩) (Zb 0) (Zz g.zc39))
      (Zj (Zv (Zq ⟨g.k_End,g.zn15⟩) (Zb 0) (Zb 1)))) (Zj (ZH (ZC (zO hr.units) (Zm (Zq ⟨g.k_End,g.zn16⟩) (Zb 0)) (Zz g.zc14)) (Zj (Zv (Zq ⟨g.k_End,g.zn16⟩) (Zb 0) (Zz g.zc2))) Zx)))))))
theorem ZwL (D:Def0 K mg "take_window" Zjx ZnR) (g:Glb K mg) :MDef P w K mg base 1 "take_window" ZaA:=
  ZT D ZxV 2 2 rfl rfl fun f cdv A outer s H E hr=>(Zg (Zv (Zq ⟨g.k_End,g.zn23⟩) (Zb 0) (ZA ZB (Zb 1) (Zl g.zc42)))
  (Zg (Zv (Zq ⟨g.k_End,g.zn18⟩) (Zb 0) (ZA ZB (Zb 1) (Zl g.zc24)))
  (Zj (Zv (Zq ⟨g.k_End,g.zn19⟩) (Zb 0) (ZA ZB (Zb 1) (Zl g.zc1))))))
theorem ZwM (D:Def0 K mg "has_answered_syn" Zjy ZnS) (g:Glb K mg) (zd50:MDef P w K mg base 4 "owe_reset_for" ZX) (zd67:MDef P w K mg base 1 "take_window" ZaA):MDef P w K mg base 5 "has_answered_syn" zn:=
  ZT D ZxW 2 2 rfl rfl fun f cdv A outer s H E hr=>(Zg (ZH (MW.mt (Zco (ZC (zO hr.units) (Zm (Zq ⟨g.k_End,g.zn8⟩) (Zb 0)) (Zm (Zq ⟨g.k_End,g.zn5⟩) (Zb 0))) (zW (ZC (Zdq hr.units) (ZA ZB (Zb 1) (Zl g.zc1)) (Zm (Zq ⟨g.k_End,g.zn8⟩) (Zb 0)))))) (Zg (ZL (Zh zd50 hr (by decide) (Za (Zb 0) (Za (Zb 1) Ze))))
    (Zj (Zs zA))) Zx)
  (Zg (Zv (Zq ⟨g.k_End,g.zn21⟩) (Zb 0) (ZA ZB (Zb 1) (Zl g.zc1)))
  (Zg (Zv (Zq ⟨g.k_End,g.zn16⟩) (Zb 0) (Zcv (ZE (Zm (Zq ⟨g.k_End,g.zn6⟩) (Zb 0))) (Zz g.zc40) (Zz g.zc25)))
  (Zg (ZL (Zh zd67 hr (by decide) (Za (Zb 0) (Za (Zb 1) Ze))))
  (Zj (Zs zA))))))
theorem ZwJ (D:Def0 K mg "is_newer" Zjv ZnP) (g:Glb K mg) (zd6:MDef P w K mg base 2 "past" Zb8):MDef P w K mg base 3 "is_newer" ZcS:=
  ZT D ZxU 2 2 rfl rfl fun f cdv A outer s H E hr=>(Zg (ZH (ZC (zO hr.units) (ZA ZB (Zb 1) (Zl g.zc24)) (Zm (Zq ⟨g.k_End,g.zn18⟩) (Zb 0))) (Zj (Zs (ZpM (Zh zd6 hr (by decide) (Za (Zm (Zq ⟨g.k_End,g.zn19⟩) (Zb 0)) (Za (ZA ZB (Zb 1) (Zl g.zc1)) Ze)))))) Zx)
  (Zj (Zs (Zh zd6 hr (by decide) (Za (ZA ZB (Zb 1) (Zl g.zc24)) (Za (Zm (Zq ⟨g.k_End,g.zn18⟩) (Zb 0)) Ze))))))
theorem ZwK (D:Def0 K mg "hear_answer" Zjw ZnQ) (g:Glb K mg) (zd69:MDef P w K mg base 3 "is_newer" ZcS) (zd5:MDef P w K mg base 1 "offset" zD) (zd6:MDef P w K mg base 2 "past" Zb8) (zd8:MDef P w K mg base 1 "start_timer" Z6) (zd3:MDef P w K mg base 1 "take" Ze9) (zd67:MDef P w K mg base 1 "take_window" ZaA):MDef P w K mg base 4 "hear_answer" zN:=
  ZT D zc68 3 6 rfl rfl fun f cdv A outer s H E hr=>(Zg (ZI 3 zc68.nd (ZA ZB (Zb 1) (Zl g.zc1)))
  (Zg (ZI 4 zc68.nd (Zh zd6 hr (by decide) (Za (Zb 3) (Za (Zm (Zq ⟨g.k_End,g.zn21⟩) (Zb 0)) Ze))))
  (Zg (ZH (ZE (Zb 4)) (Zg (ZL (Zh zd3 hr (by decide) (Za (Zm (Zq ⟨g.k_End,g.zn24⟩) (Zb 0)) (Za (Zh zd5 hr (by decide) (Za (Zb 3) (Za (Zm (Zq ⟨g.k_End,g.zn21⟩) (Zb 0)) Ze))) Ze))))
    (Zg (Zv (Zq ⟨g.k_End,g.zn21⟩) (Zb 0) (Zb 3))
    (Zj (ZH (ZC (Zdq hr.units) (Zm (Zq ⟨g.k_End,g.zn21⟩) (Zb 0)) (Zm (Zq ⟨g.k_End,g.zn8⟩) (Zb 0))) (Zj (ZL (Zh zd8 hr (by decide) (Za (Zb 0) (Za (Zb 2) Ze))))) Zx)))) Zx)
  (Zg (ZH (ZE (Zh zd6 hr (by decide) (Za (Zm (Zq ⟨g.k_End,g.zn21⟩) (Zb 0)) (Za (Zb 3) Ze)))) (Zj ZdL) Zx)
  (Zg (ZI 5 zc68.nd (zp (zO hr.units) (Zm (Zq ⟨g.k_End,g.zn23⟩) (Zb 0)) Zi))
  (Zg (ZH (MW.mt (Zco (ZE (Zb 4)) (zW (ZE (Zh zd69 hr (by decide) (Za (Zb 0) (Za (Zb 1) Ze))))))) (Zj (ZL (Zh zd67 hr (by decide) (Za (Zb 0) (Za (Zb 1) Ze))))) Zx)
  (Zj (ZH (MW.mt (Zco (ZE (Zb 5)) (zW (ZC (zO hr.units) (Zm (Zq ⟨g.k_End,g.zn23⟩) (Zb 0)) Zi)))) (Zj (Zv (Zq ⟨g.k_End,g.zn20⟩) (Zb 0) Zi)) Zx))))))))
theorem ZwN (D:Def0 K mg "goes_on_behind_answer" Zjz ZnT) (g:Glb K mg) (zd70:MDef P w K mg base 4 "end_what_is_acknowledged" ZQ) (zd66:MDef P w K mg base 5 "has_answered_syn" zn) (zd68:MDef P w K mg base 4 "hear_answer" zN) (zd6:MDef P w K mg base 2 "past" Zb8):MDef P w K mg base 6 "goes_on_behind_answer" ZY:=
  ZT D ZxX 3 3 rfl rfl fun f cdv A outer s H E hr=>(Zg (ZH (ZC (zO hr.units) (Zm (Zq ⟨g.k_End,g.zn16⟩) (Zb 0)) (Zz g.zc36)) (Zj (Zs (Zh zd66 hr (by decide) (Za (Zb 0) (Za (Zb 1) Ze))))) Zx)
  (Zg (ZH (ZE (Zh zd6 hr (by decide) (Za (ZA ZB (Zb 1) (Zl g.zc1)) (Za (Zm (Zq ⟨g.k_End,g.zn8⟩) (Zb 0)) Ze)))) (Zg (Zv (Zq ⟨g.k_End,g.zn11⟩) (Zb 0) zA)
    (Zj (Zs zA))) Zx)
  (Zg (ZL (Zh zd68 hr (by decide) (Za (Zb 0) (Za (Zb 1) (Za (Zb 2) Ze)))))
  (Zg (ZL (Zh zd70 hr (by decide) (Za (Zb 0) (Za (Zb 2) Ze))))
  (Zj (Zs (zp (Zdq hr.units) (Zm (Zq ⟨g.k_End,g.zn16⟩) (Zb 0)) (Zz g.zc2))))))))
theorem ZwO (D:Def0 K mg "hear_reset" ZjA ZnU) (g:Glb K mg) :MDef P w K mg base 1 "hear_reset" Zbe:=
  ZT D ZxY 2 2 rfl rfl fun f cdv A outer s H E hr=>(Zg (ZH (ZC (zO hr.units) (Zm (Zq ⟨g.k_End,g.zn16⟩) (Zb 0)) (Zz g.zc39)) (Zj ZdL) Zx)
  (Zj (ZH (ZC (zO hr.units) (ZA ZB (Zb 1) (Zl g.zc24)) (Zm (Zq ⟨g.k_End,g.zn14⟩) (Zb 0))) (Zg (Zv (Zq ⟨g.k_End,g.zn16⟩) (Zb 0) (Zz g.zc2))
    (Zj (Zv (Zq ⟨g.k_End,g.zn4⟩) (Zb 0) (Zz g.zc28)))) (Zj (Zv (Zq ⟨g.k_End,g.zn11⟩) (Zb 0) zA)))))
theorem ZwE (D:Def0 K mg "draw_in_order" Zjq ZnK) (g:Glb K mg) (zd2:MDef P w K mg base 2 "lay" ZkK) (zd4:MDef P w K mg base 1 "plus" zC):MDef P w K mg base 3 "draw_in_order" ZaW:=
  ZT D zc74 1 2 rfl rfl fun f cdv A outer s H E hr=>(Zg (Zik 1 zc74.nd Ze)
  (Zg (Zhm 200 PassesOwn.never (MW.mt (Zep (ZC (Zdq hr.units) (Zm (Zq ⟨g.k_End,g.zn14⟩) (Zb 0)) (Zm (Zq ⟨g.k_End,g.zn3⟩) (Zb 0))) (ZbC (ZtI hr (Zm (Zq ⟨g.k_End,g.zn14⟩) (Zb 0)) (Zm (Zq ⟨g.k_End,g.zn2⟩) (Zb 0)))))) (Zg (Zil 1 (Zmr (Zm (Zq ⟨g.k_End,g.zn2⟩) (Zb 0)) (Zm (Zq ⟨g.k_End,g.zn14⟩) (Zb 0)) ⟨rfl,rfl,rfl,rfl⟩) (hpe:=fun h=>Zsq PySem.F.plainAttrs_list PySem.F.slot_list_append PySem.F.type_list_append Zij h (ZiN (Zmr (Zm (Zq ⟨g.k_End,g.zn2⟩) (Zb 0)) (Zm (Zq ⟨g.k_End,g.zn14⟩) (Zb 0)) ⟨rfl,rfl,rfl,rfl⟩) ZlA)))
    (Zj (Zv (Zq ⟨g.k_End,g.zn14⟩) (Zb 0) (Zh zd4 hr (by decide) (Za (Zm (Zq ⟨g.k_End,g.zn14⟩) (Zb 0)) (Za Zi Ze)))))))
  (Zj (Zf2 1 (ZL (Zh zd2 hr (by decide) (Za (Zm (Zq ⟨g.k_End,g.zn1⟩) (Zb 0)) (Za (Zb 1) Ze))))))))
theorem ZwD (D:Def0 K mg "hear_fin" Zjp ZnJ) (g:Glb K mg) (zd4:MDef P w K mg base 1 "plus" zC):MDef P w K mg base 2 "hear_fin" Zcb:=
  ZT D ZxR 2 2 rfl rfl fun f cdv A outer s H E hr=>(Zg (Zv (Zq ⟨g.k_End,g.zn14⟩) (Zb 0) (Zh zd4 hr (by decide) (Za (Zm (Zq ⟨g.k_End,g.zn14⟩) (Zb 0)) (Za Zi Ze))))
  (Zj (ZH (ZC (zO hr.units) (Zm (Zq ⟨g.k_End,g.zn16⟩) (Zb 0)) (Zz g.zc25)) (Zj (Zv (Zq ⟨g.k_End,g.zn16⟩) (Zb 0) (Zz g.zc3))) (Zj (ZH (ZC (zO hr.units) (Zm (Zq ⟨g.k_End,g.zn16⟩) (Zb 0)) (Zz g.zc40)) (Zj (Zv (Zq ⟨g.k_End,g.zn16⟩) (Zb 0) (Zz g.zc4))) (Zg (Zv (Zq ⟨g.k_End,g.zn16⟩) (Zb 0) (Zz g.zc39))
      (Zj (Zv (Zq ⟨g.k_End,g.zn15⟩) (Zb 0) (Zb 1)))))))))
theorem ZwG (D:Def0 K mg "keep_data" Zjs ZnM) (g:Glb K mg) (zd62:MDef P w K mg base 3 "is_in_window" zk) (zd4:MDef P w K mg base 1 "plus" zC):MDef P w K mg base 4 "keep_data" ZbF:=
  ZT D zc72 2 5 rfl rfl fun f cdv A outer s H E hr=>(Zg (Zrx 2 3 zc72.nd PassesOwn.never g.b_enumerate (Za (ZA ZB (Zb 1) (Zl g.zc5)) Ze) (Zg (ZI 4 zc72.nd (Zh zd4 hr (by decide) (Za (ZA ZB (Zb 1) (Zl g.zc24)) (Za (Zb 2) Ze))))
    (Zj (ZH (ZE (Zh zd62 hr (by decide) (Za (Zb 0) (Za (Zb 4) Ze)))) (Zj (ZL (ZpN (Zm (Zq ⟨g.k_End,g.zn2⟩) (Zb 0)) (Zb 4) (Zb 3) ⟨rfl,rfl,rfl,rfl⟩))) Zx))))
  (Zj (ZH (ZC ZhX (zb Zd7 g.b_len PySem.boot_len (Za (ZA ZB (Zb 1) (Zl g.zc5)) Ze)) Zi) (Zj (Zv (Zq ⟨g.k_End,g.zn11⟩) (Zb 0) zA)) Zx)))
theorem ZwF (D:Def0 K mg "keep_fin" Zjr ZnL) (g:Glb K mg) (zd17:MDef P w K mg base 2 "bears" Z2) (zd62:MDef P w K mg base 3 "is_in_window" zk) (zd4:MDef P w K mg base 1 "plus" zC):MDef P w K mg base 4 "keep_fin" Zca:=
  ZT D zc73 2 3 rfl rfl fun f cdv A outer s H E hr=>(Zg (ZH (Za9 (ZE (Zh zd17 hr (by decide) (Za (Zb 1) (Za (Zl g.zc6) Ze))))) (Zj ZdL) Zx)
  (Zg (Zv (Zq ⟨g.k_End,g.zn11⟩) (Zb 0) zA)
  (Zg (ZI 2 zc73.nd (Zh zd4 hr (by decide) (Za (ZA ZB (Zb 1) (Zl g.zc24)) (Za (zb Zd7 g.b_len PySem.boot_len (Za (ZA ZB (Zb 1) (Zl g.zc5)) Ze)) Ze))))
  (Zj (ZH (MW.mt (Zep (ZC ZpA (Zm (Zq ⟨g.k_End,g.zn3⟩) (Zb 0)) ZaI) (ZbC (ZE (Zh zd62 hr (by decide) (Za (Zb 0) (Za (Zb 2) Ze))))))) (Zj (Zv (Zq ⟨g.k_End,g.zn3⟩) (Zb 0) (Zb 2))) Zx)))))
theorem ZwH (D:Def0 K mg "hear_stream" Zjt ZnN) (g:Glb K mg) (zd74:MDef P w K mg base 3 "draw_in_order" ZaW) (zd75:MDef P w K mg base 2 "hear_fin" Zcb) (zd72:MDef P w K mg base 4 "keep_data" ZbF) (zd73:MDef P w K mg base 4 "keep_fin" Zca):MDef P w K mg base 5 "hear_stream" ZaB:=
  ZT D ZxS 3 3 rfl rfl fun f cdv A outer s H E hr=>(Zg (ZH (ZC ZgT (Zm (Zq ⟨g.k_End,g.zn16⟩) (Zb 0)) (ZZ (Za (Zz g.zc25) (Za (Zz g.zc40) (Za (Zz g.zc41) Ze)))) (by with_unfolding_all rfl)) (Zj ZdL) Zx)
  (Zg (ZL (Zh zd72 hr (by decide) (Za (Zb 0) (Za (Zb 1) Ze))))
  (Zg (ZL (Zh zd73 hr (by decide) (Za (Zb 0) (Za (Zb 1) Ze))))
  (Zg (ZL (Zh zd74 hr (by decide) (Za (Zb 0) Ze)))
  (Zj (ZH (ZC (zO hr.units) (Zm (Zq ⟨g.k_End,g.zn14⟩) (Zb 0)) (Zm (Zq ⟨g.k_End,g.zn3⟩) (Zb 0))) (Zj (ZL (Zh zd75 hr (by decide) (Za (Zb 0) (Za (Zb 2) Ze))))) Zx))))))
theorem ZwP (D:Def0 K mg "turn_away" ZjB ZnV) (g:Glb K mg) (zd17:MDef P w K mg base 2 "bears" Z2):MDef P w K mg base 3 "turn_away" Za6:=
  ZT D ZxZ 3 3 rfl rfl fun f cdv A outer s H E hr=>(Zg (ZH (ZE (Zh zd17 hr (by decide) (Za (Zb 1) (Za (Zl g.zc32) Ze)))) (Zj ZdL) Zx)
  (Zg (ZH (MW.mt (Zep (ZC (zO hr.units) (Zm (Zq ⟨g.k_End,g.zn16⟩) (Zb 0)) (Zz g.zc36)) (Zep (ZE (Zh zd17 hr (by decide) (Za (Zb 1) (Za (Zl g.zc35) Ze)))) (ZbC (Za9 (ZE (Zh zd17 hr (by decide) (Za (Zb 1) (Za (Zl g.zc0) Ze))))))))) (Zj (Zv (Zq ⟨g.k_End,g.zn12⟩) (Zb 0) zA)) (Zj (Zv (Zq ⟨g.k_End,g.zn11⟩) (Zb 0) zA)))
  (Zj (ZH (ZC (zO hr.units) (Zm (Zq ⟨g.k_End,g.zn16⟩) (Zb 0)) (Zz g.zc39)) (Zj (Zv (Zq ⟨g.k_End,g.zn15⟩) (Zb 0) (Zb 2))) Zx))))
theorem ZwS (D:Def0 K mg "come_to_stream" ZjE ZnY) (g:Glb K mg) (zd17:MDef P w K mg base 2 "bears" Z2) (zd61:MDef P w K mg base 4 "fits" Zf0) (zd65:MDef P w K mg base 6 "goes_on_behind_answer" ZY) (zd64:MDef P w K mg base 1 "hear_reset" Zbe) (zd71:MDef P w K mg base 5 "hear_stream" ZaB) (zd63:MDef P w K mg base 3 "turn_away" Za6):MDef P w K mg base 7 "come_to_stream" Z8:=
  ZT D Zx1 3 3 rfl rfl fun f cdv A outer s H E hr=>(Zj (ZH (Za9 (ZE (Zh zd61 hr (by decide) (Za (Zb 0) (Za (Zb 1) Ze))))) (Zj (ZL (Zh zd63 hr (by decide) (Za (Zb 0) (Za (Zb 1) (Za (Zb 2) Ze)))))) (Zj (ZH (ZE (Zh zd17 hr (by decide) (Za (Zb 1) (Za (Zl g.zc32) Ze)))) (Zj (ZL (Zh zd64 hr (by decide) (Za (Zb 0) (Za (Zb 1) Ze))))) (Zj (ZH (ZE (Zh zd17 hr (by decide) (Za (Zb 1) (Za (Zl g.zc35) Ze)))) (Zj (Zv (Zq ⟨g.k_End,g.zn11⟩) (Zb 0) zA)) (Zj (ZH (MW.mt (Zep (ZE (Zh zd17 hr (by decide) (Za (Zb 1) (Za (Zl g.zc0) Ze)))) (ZbC (ZE (Zh zd65 hr (by decide) (Za (Zb 0) (Za (Zb 1) (Za (Zb 2) Ze)))))))) (Zj (ZL (Zh zd71 hr (by decide) (Za (Zb 0) (Za (Zb 1) (Za (Zb 2) Ze)))))) Zx))))))))
theorem ZwT (D:Def0 K mg "is_for" ZjF ZnZ) (g:Glb K mg) :MDef P w K mg base 1 "is_for" Zel:=
  ZT D Zx2 2 2 rfl rfl fun f cdv A outer s H E hr=>(Zj (Zs (ZaU (zp (zO hr.units) (ZA ZB (Zb 1) (Zl g.zc9)) (Zm (Zq ⟨g.k_End,g.zn9⟩) (Zb 0))) (Zcd (Zmq (zp ZkO (Zm (Zq ⟨g.k_End,g.zn16⟩) (Zb 0)) (ZZ (Za (Zz g.zc2) (Za (Zz g.zc17) Ze))) (by with_unfolding_all rfl)) (Zcd (zp (zO hr.units) (ZA ZB (Zb 1) (Zl g.zc34)) (Zm (Zq ⟨g.k_End,g.zn17⟩) (Zb 0)))))))))
theorem ZwU (D:Def0 K mg "arrive" ZjG Zn0) (g:Glb K mg) (zd51:MDef P w K mg base 5 "come_to_closed" ZaF) (zd52:MDef P w K mg base 5 "come_to_listen" zw) (zd60:MDef P w K mg base 7 "come_to_stream" Z8) (zd54:MDef P w K mg base 5 "come_to_syn_sent" ZR) (zd27:MDef P w K mg base 4 "get" Zif) (zd59:MDef P w K mg base 1 "is_for" Zel) (zd24:MDef P w K mg base 3 "is_right" Zad):MDef P w K mg base 8 "arrive" zg:=
  ZT D zc58 3 4 rfl rfl fun f cdv A outer s H E hr=>(Zg (ZH (Za9 (ZE (Zh zd24 hr (by decide) (Za (Zb 1) Ze)))) (Zj (Zs zA)) Zx)
  (Zg (ZI 3 zc58.nd (Zh zd27 hr (by decide) (Za (Zb 1) Ze)))
  (Zg (ZH (Za9 (ZE (Zh zd59 hr (by decide) (Za (Zb 0) (Za (Zb 3) Ze))))) (Zj (Zs zA)) Zx)
  (Zg (ZH (ZC (zO hr.units) (Zm (Zq ⟨g.k_End,g.zn16⟩) (Zb 0)) (Zz g.zc2)) (Zj (ZL (Zh zd51 hr (by decide) (Za (Zb 0) (Za (Zb 3) Ze))))) (Zj (ZH (ZC (zO hr.units) (Zm (Zq ⟨g.k_End,g.zn16⟩) (Zb 0)) (Zz g.zc17)) (Zj (ZL (Zh zd52 hr (by decide) (Za (Zb 0) (Za (Zb 3) Ze))))) (Zj (ZH (ZC (zO hr.units) (Zm (Zq ⟨g.k_End,g.zn16⟩) (Zb 0)) (Zz g.zc37)) (Zj (ZL (Zh zd54 hr (by decide) (Za (Zb 0) (Za (Zb 3) (Za (Zb 2) Ze)))))) (Zj (ZL (Zh zd60 hr (by decide) (Za (Zb 0) (Za (Zb 3) (Za (Zb 2) Ze)))))))))))
  (Zj (Zs zA))))))
theorem ZwC (D:Def0 K mg "opened" Zjo ZnI) (g:Glb K mg) (zd7:MMk P w K mg base 3 "End" Zcc):MDef P w K mg base 5 "opened" Zek:=
  ZT D ZxQ 4 4 rfl rfl fun f cdv A outer s H E hr=>(Zj (Zs (Zry zd7 hr (by decide) (Za (Zb 0) (Za (Zb 1) (Za (Zb 2) (Za (Zb 3) Ze)))))))
theorem ZwB (D:Def0 K mg "close" Zjn ZnH) (g:Glb K mg) :MDef P w K mg base 1 "close" Zc5:=
  ZT D ZxP 1 1 rfl rfl fun f cdv A outer s H E hr=>(Zg (ZH (ZE (Zm (Zq ⟨g.k_End,g.zn6⟩) (Zb 0))) (Zj (Zs zA)) Zx)
  (Zg (ZH (ZC ZkO (Zm (Zq ⟨g.k_End,g.zn16⟩) (Zb 0)) (ZZ (Za (Zz g.zc17) (Za (Zz g.zc37) Ze))) (by with_unfolding_all rfl)) (Zg (Zv (Zq ⟨g.k_End,g.zn16⟩) (Zb 0) (Zz g.zc2))
    (Zj (Zs zA))) Zx)
  (Zg (ZH (ZC ZgT (Zm (Zq ⟨g.k_End,g.zn16⟩) (Zb 0)) (ZZ (Za (Zz g.zc36) (Za (Zz g.zc25) (Za (Zz g.zc3) Ze)))) (by with_unfolding_all rfl)) (Zj (Zs zA)) Zx)
  (Zg (Zv (Zq ⟨g.k_End,g.zn6⟩) (Zb 0) zA)
  (Zg (ZH (ZC (zO hr.units) (Zm (Zq ⟨g.k_End,g.zn16⟩) (Zb 0)) (Zz g.zc25)) (Zj (Zv (Zq ⟨g.k_End,g.zn16⟩) (Zb 0) (Zz g.zc40))) (Zj (ZH (ZC (zO hr.units) (Zm (Zq ⟨g.k_End,g.zn16⟩) (Zb 0)) (Zz g.zc3)) (Zj (Zv (Zq ⟨g.k_End,g.zn16⟩) (Zb 0) (Zz g.zc14))) Zx)))
  (Zj (Zs zA)))))))
theorem ZwA (D:Def0 K mg "abort" Zjm ZnG) (g:Glb K mg) :MDef P w K mg base 1 "abort" Zfu:=
  ZT D ZxO 1 1 rfl rfl fun f cdv A outer s H E hr=>(Zg (ZH (ZC (zO hr.units) (Zm (Zq ⟨g.k_End,g.zn16⟩) (Zb 0)) (Zz g.zc2)) (Zj (Zs zA)) Zx)
  (Zg (ZH (ZC ZgT (Zm (Zq ⟨g.k_End,g.zn16⟩) (Zb 0)) (ZZ (Za (Zz g.zc17) (Za (Zz g.zc37) (Za (Zz g.zc39) Ze)))) (by with_unfolding_all rfl)) (Zj (Zv (Zq ⟨g.k_End,g.zn10⟩) (Zb 0) (ZZ (Za (Zm (Zq ⟨g.k_End,g.zn9⟩) (Zb 0)) (Za (Zm (Zq ⟨g.k_End,g.zn17⟩) (Zb 0)) (Za (Zm (Zq ⟨g.k_End,g.zn8⟩) (Zb 0)) (Za Zi (Za (Zl g.zc32) (Za Zi (Za Zi (Za (ZZ Ze) Ze))))))))))) Zx)
  (Zg (Zv (Zq ⟨g.k_End,g.zn16⟩) (Zb 0) (Zz g.zc2))
  (Zj (Zs zA)))))
theorem Zwz (D:Def0 K mg "_law_cell" Zjl ZnF) (g:Glb K mg) :MDef P w K mg base 1 "_law_cell" Zf7:=
  ZT D ZxN 2 2 rfl rfl fun f cdv A outer s H E hr=>(Zg (ZH (ZE (Zb 0)) (Zj (Zs (ZA ZB (Zb 0) (Zu ZaG (Zb 1) (zb Zd7 g.b_len PySem.boot_len (Za (Zb 0) Ze)))))) Zx)
  (Zj (Zs Zi)))
theorem Zwy (D:Def0 K mg "_law_mix" Zjk ZnE) (g:Glb K mg) (zd79:MDef P w K mg base 1 "_law_cell" Zf7):MDef P w K mg base 2 "_law_mix" ZbH:=
  ZT D zc80 2 3 rfl rfl fun f cdv A outer s H E hr=>(Zg (ZI 2 zc80.nd (Zu ZaG (Zu ZM (Zh zd79 hr (by decide) (Za (Zb 0) (Za (Zb 1) Ze))) (Zu ZcC Zi (Zu ZM (Zb 1) Zi))) Zi))
  (Zg (ZI 2 zc80.nd (Zu ZaG (Zu ZcC (Zb 2) Zi) Zi))
  (Zj (Zs (Zu ZaG (Zu ZM (Zu ZcC (Zu Zd2 (Zb 2) Zi) Zi) (Zb 2)) Zi)))))
theorem Zwx (D:Def0 K mg "_law_two" Zjj ZnD) (g:Glb K mg) :MDef P w K mg base 1 "_law_two" Zd4:=
  ZT D ZxM 1 1 rfl rfl fun f cdv A outer s H E hr=>(Zj (Zs (zo (Za (Zu Zd2 (Zb 0) Zi) (Za (Zu ZaG (Zb 0) Zi) Ze)))))
theorem Zww (D:Def0 K mg "_law_folded" Zji ZnC) (g:Glb K mg) :MDef P w K mg base 1 "_law_folded" Zcq:=
  ZT D zc82 1 3 rfl rfl fun f cdv A outer s H E hr=>(Zg (ZI 1 zc82.nd Zi)
  (Zg (ZiR PassesOwn.never (ZeQ g.b_range (Za (zb Zd7 g.b_len PySem.boot_len (Za (Zb 0) Ze)) Ze)) (ZgV 2 zc82.nd) (Zj (ZI 1 zc82.nd (Zu ZM (Zb 1) (Zu ZcC (ZA ZB (Zb 0) (Zb 2)) (ZA ZB (zo (Za Zi (Za Zi Ze))) (Zu ZaG (Zb 2) Zi)))))))
  (Zg (Zhm 200 PassesOwn.never (ZC ZhX (Zb 1) Zi) (Zj (ZI 1 zc82.nd (Zu ZM (Zu ZaG (Zb 1) Zi) (Zu Zd2 (Zb 1) Zi)))))
  (Zj (Zs (Zb 1))))))
theorem Zwv (D:Def0 K mg "_law_bytes" Zjh ZnB) (g:Glb K mg) (zd82:MDef P w K mg base 1 "_law_folded" Zcq) (zd81:MDef P w K mg base 1 "_law_two" Zd4):MDef P w K mg base 2 "_law_bytes" ZcH:=
  ZT D zc83 1 3 rfl rfl fun f cdv A outer s H E hr=>(Zg (ZI 1 zc83.nd (Zu ZM (Zh zd81 hr (by decide) (Za (ZA ZB (Zb 0) Zi) Ze)) (Zh zd81 hr (by decide) (Za (ZA ZB (Zb 0) Zi) Ze))))
  (Zg (ZiR PassesOwn.never (ZpK (Zbb (Zb 0) (Zal Zi) (Zal Zi))) (ZgV 2 zc83.nd) (Zj (ZI 1 zc83.nd (Zu ZM (Zu ZM (Zb 1) (Zh zd81 hr (by decide) (Za (Zu Zd2 (Zb 2) Zi) Ze))) (Zh zd81 hr (by decide) (Za (Zu ZaG (Zb 2) Zi) Ze))))))
  (Zg (ZI 1 zc83.nd (Zu ZM (Zu ZM (Zu ZM (Zb 1) (zo (Za (ZA ZB (zo (Za Zi (Za Zi Ze))) (Zce ZvL g.b_int PyProof.Rows.boot_int (Za (zp ZhX (ZA ZB (Zb 0) Zi) Zi) Ze))) (Za (ZA ZB (Zb 0) Zi) Ze)))) (Zh zd81 hr (by decide) (Za (ZA ZB (Zb 0) Zi) Ze))) (zo (Za Zi (Za Zi (Za Zi (Za Zi Ze)))))))
  (Zg (ZH (ZC ZhX (ZA ZB (Zb 0) Zi) Zi) (Zj (ZI 1 zc83.nd (Zu ZM (Zu ZM (Zb 1) (zo (Za Zi (Za Zi Ze)))) (Zh zd81 hr (by decide) (Za (ZA ZB (Zb 0) Zi) Ze))))) Zx)
  (Zg (ZI 1 zc83.nd (Zu ZM (Zb 1) (Zce Zqp g.b_list PyProof.Rows.boot_list (Za (ZA ZB (Zb 0) Zi) Ze))))
  (Zj (Zs (Zu ZM (Zu ZM (Zbb (Zb 1) ZbS (Zal Zi)) (Zh zd81 hr (by decide) (Za (Zu Zeo Zi (Zh zd82 hr (by decide) (Za (Zb 1) Ze))) Ze))) (Zbb (Zb 1) (Zal Zi) ZbS)))))))))
theorem Zwt (D:Def0 K mg "_law_byte" Zjg Znz) (g:Glb K mg) :MDef P w K mg base 1 "_law_byte" Zf8:=
  ZT D ZxL 1 1 rfl rfl fun f cdv A outer s H E hr=>(Zj (Zs (ZaU (zb ZlP g.b_isinstance PyProof.Rows.boot_isinstance (Za (Zb 0) (Za (ZpL g.b_int PyProof.Rows.boot_int) Ze))) (ZaU (ZpM (zb ZlP g.b_isinstance PyProof.Rows.boot_isinstance (Za (Zb 0) (Za (ZpL g.b_bool PyProof.Rows.boot_bool) Ze)))) (Zcd (Zfz Zhj Zhj Zi (Zb 0) Zi))))))
theorem Zwu (D:Def0 K mg "_law_read" ZhS ZnA) (g:Glb K mg) (zd85:MDef P w K mg base 1 "_law_byte" Zf8) (zd82:MDef P w K mg base 1 "_law_folded" Zcq):MDef P w K mg base 2 "_law_read" Zf6:=
  ZT D zc84 1 5 rfl rfl fun f cdv A outer s H E hr=>(Zg (ZH (MW.mt (Zco (Za9 (ZE (zb ZlP g.b_isinstance PyProof.Rows.boot_isinstance (Za (Zb 0) (Za (ZpL g.b_list PyProof.Rows.boot_list) Ze))))) (zW (ZC ZtH (zb Zd7 g.b_len PySem.boot_len (Za (Zb 0) Ze)) Zi)))) (Zj (Zs ZaI)) Zx)
  (Zg (ZH (Za9 (ZE (zb ZvM g.b_all PyProof.Rows.boot_all (Za (Zvr (show ZbL _ (Zf ZhS) "_law_byte_here" ["_law_row_here","_law_head","_law_most","_law_words","_law_found"] ["_law_byte_here"] [] from ⟨rfl,by decide +kernel,by decide +kernel,by decide +kernel,by decide +kernel,by decide +kernel,rfl,by decide,by decide +kernel⟩) rfl rfl (ZpK (Zb 0)) (fun _ _ _ _ _=>(Zh zd85 hr (by decide) (Za (Zb 0) Ze)))) Ze)))) (Zj (Zs ZaI)) Zx)
  (Zg (ZI 1 zc84.nd (Zu Zd2 (ZA ZB (Zb 0) Zi) Zi))
  (Zg (ZH (MW.mt (Zco (ZC ZgT (ZA ZB (Zb 0) Zi) (ZZ (Za Zi (Za Zi Ze))) (by with_unfolding_all rfl)) (Zco (ZC ZhX (ZA ZB (Zb 0) Zi) Zi) (zW (ZC ZhX (Zu ZM (ZA ZB (Zb 0) Zi) (ZA ZB (Zb 0) Zi)) Zi))))) (Zj (Zs ZaI)) Zx)
  (Zg (ZH (MW.mt (Zco (Za9 (ZpG Zhj Zhj (Zb 1) (zb Zd7 g.b_len PySem.boot_len (Za (Zb 0) Ze)) (Zu ZM (Zb 1) Zi))) (zW (ZC (Zdq hr.units) (Zh zd82 hr (by decide) (Za (Zb 0) Ze)) Zi)))) (Zj (Zs ZaI)) Zx)
  (Zg (ZI 2 zc84.nd Zi)
  (Zg (ZH (ZC (zO hr.units) (Zb 1) Zi) (Zg (ZI 2 zc84.nd (Zu ZM (Zu ZcC (ZA ZB (Zb 0) Zi) Zi) (ZA ZB (Zb 0) Zi)))
    (Zj (ZH (MW.mt (Zco (ZC (zO hr.units) (Zu ZaG (Zu Zd2 (ZA ZB (Zb 0) Zi) Zi) Zi) Zi) (Zco (ZC (Zdq hr.units) (Zbb (Zb 0) (Zal Zi) (Zal Zi)) (zo (Za Zi (Za Zi Ze)))) (zW (ZC ZtH (Zb 2) Zi))))) (Zj (Zs ZaI)) Zx))) Zx)
  (Zg (ZpH 3 zc84.nd (show ZbL _ (Zf ZhS) "_law_k" ["_law_row_here","_law_head","_law_most","_law_words","_law_found"] ["_law_k","_law_row_here"] [0] from ⟨rfl,by decide +kernel,by decide +kernel,by decide +kernel,by decide +kernel,by decide +kernel,rfl,by decide,by decide +kernel⟩) rfl rfl (ZeQ g.b_range (Za Zi Ze)) (fun _ _ _ _ _=>(Zu ZM (Zu ZcC Zi (ZA ZB (Zb 1) (Zu ZcC Zi (Zb 0)))) (ZA ZB (Zb 1) (Zu ZM (Zu ZcC Zi (Zb 0)) Zi)))))
  (Zg (ZI 4 zc84.nd (ZZ (Za (ZA ZB (Zb 3) Zi) (Za (ZA ZB (Zb 3) Zi) (Za (Zu ZM (Zu ZcC (ZA ZB (Zb 3) Zi) Zi) (ZA ZB (Zb 3) Zi)) (Za (Zu ZM (Zu ZcC (ZA ZB (Zb 3) Zi) Zi) (ZA ZB (Zb 3) Zi)) Ze))))))
  (Zj (Zs (Zu ZM (Zb 4) (ZZ (Za (ZA ZB (Zb 0) Zi) (Za (ZA ZB (Zb 3) Zi) (Za (Zb 2) (Za (Zce Zg1 g.b_tuple PyProof.Rows.boot_tuple (Za (Zbb (Zb 0) (Zal (Zb 1)) ZbS) Ze)) Ze)))))))))))))))))
theorem Zws (D:Def0 K mg "_law_plus" Zjf Zny) (g:Glb K mg) :MDef P w K mg base 1 "_law_plus" ZbT:=
  ZT D ZxK 2 2 rfl rfl fun f cdv A outer s H E hr=>(Zj (Zs (Zu ZaG (Zu ZM (Zb 0) (Zb 1)) Zi)))
theorem Zwr (D:Def0 K mg "_law_first" Zje Znx) (g:Glb K mg) :MDef P w K mg base 1 "_law_first" ZeR:=
  ZT D ZxJ 1 1 rfl rfl fun f cdv A outer s H E hr=>(Zg (ZH (ZC (zO hr.units) (Zu ZaG (Zb 0) Zi) Zi) (Zj (Zs (Zu ZaG (Zu Zeo Zi (Zu ZaG (Zu Zd2 (Zb 0) Zi) Zi)) Zi))) Zx)
  (Zj (Zs (Zb 0))))
theorem Zwq (D:Def0 K mg "_law_segment" Zjd Znw) (g:Glb K mg) :MDef P w K mg base 1 "_law_segment" Zdr:=
  ZT D ZxI 6 6 rfl rfl fun f cdv A outer s H E hr=>(Zj (Zs (ZZ (Za (ZA ZB (Zb 0) Zi) (Za (ZA ZB (Zb 0) Zi) (Za (Zb 1) (Za (Zb 2) (Za (Zb 3) (Za (Zb 4) (Za Zi (Za (Zce Zg1 g.b_tuple PyProof.Rows.boot_tuple (Za (Zb 5) Ze)) Ze)))))))))))
theorem Zwp (D:Def0 K mg "_law_given" Zjc Znv) (g:Glb K mg) (zd84:MDef P w K mg base 2 "_law_read" Zf6) (zd30:MDef P w K mg base 8 "send" ZbR):MDef P w K mg base 9 "_law_given" ZbU:=
  ZT D zc89 2 5 rfl rfl fun f cdv A outer s H E hr=>(Zg (Zik 2 zc89.nd Ze)
  (Zg (ZiR PassesOwn.never (ZeQ g.b_range (Za Zi Ze)) (ZgV 3 zc89.nd) (Zg (ZI 4 zc89.nd (Zh zd30 hr (by decide) (Za (Zb 0) (Za (Zb 1) Ze))))
    (Zg (ZH (ZC (zO hr.units) (Zb 4) (zo Ze)) (Zj (Zf2 2 (Zs (Zb 2)))) Zx)
    (Zj (Zil 2 (Zh zd84 hr (by decide) (Za (Zb 4) Ze)) (hpe:=fun h=>Zsq PySem.F.plainAttrs_list PySem.F.slot_list_append PySem.F.type_list_append Zij h (ZiN (Zh zd84 hr (by decide) (Za (Zb 4) Ze)) ZlA)))))))
  (Zj (Zf2 2 (Zs (Zb 2))))))
theorem Zwo (D:Def0 K mg "_law_opened" Zjb Znu) (g:Glb K mg) (zd83:MDef P w K mg base 2 "_law_bytes" ZcH) (zd87:MDef P w K mg base 1 "_law_first" ZeR) (zd80:MDef P w K mg base 2 "_law_mix" ZbH) (zd86:MDef P w K mg base 1 "_law_plus" ZbT) (zd58:MDef P w K mg base 8 "arrive" zg) (zd76:MDef P w K mg base 5 "opened" Zek) (zd30:MDef P w K mg base 8 "send" ZbR):MDef P w K mg base 9 "_law_opened" Zds:=
  ZT D zc90 4 8 rfl rfl fun f cdv A outer s H E hr=>(Zg (ZI 4 zc90.nd (ZZ (Za (Zu ZaG (Zh zd80 hr (by decide) (Za (Zb 0) (Za (Zb 1) Ze))) Zi) (Za (Zu ZaG (Zh zd80 hr (by decide) (Za (Zb 0) (Za (Zu ZM (Zb 1) Zi) Ze))) Zi) Ze))))
  (Zg (ZI 5 zc90.nd (Zh zd87 hr (by decide) (Za (Zh zd80 hr (by decide) (Za (Zb 0) (Za (Zu ZM (Zb 1) Zi) Ze))) Ze)))
  (Zg (ZI 6 zc90.nd (Zh zd87 hr (by decide) (Za (Zh zd80 hr (by decide) (Za (Zb 0) (Za (Zu ZM (Zb 1) Zi) Ze))) Ze)))
  (Zg (ZI 7 zc90.nd (Zh zd76 hr (by decide) (Za (ZA ZB (Zb 4) Zi) (Za Zi (Za (Zb 5) (Za zA Ze))))))
  (Zg (ZL (Zh zd58 hr (by decide) (Za (Zb 7) (Za (Zh zd83 hr (by decide) (Za (ZZ (Za (ZA ZB (Zb 4) Zi) (Za (ZA ZB (Zb 4) Zi) (Za (Zb 6) (Za Zi (Za Zi (Za (Zb 2) (Za (Zb 3) (Za (ZZ Ze) Ze))))))))) Ze)) (Za Zi Ze)))))
  (Zg (ZL (Zh zd30 hr (by decide) (Za (Zb 7) (Za Zi Ze))))
  (Zg (ZL (Zh zd58 hr (by decide) (Za (Zb 7) (Za (Zh zd83 hr (by decide) (Za (ZZ (Za (ZA ZB (Zb 4) Zi) (Za (ZA ZB (Zb 4) Zi) (Za (Zh zd86 hr (by decide) (Za (Zb 6) (Za Zi Ze))) (Za (Zh zd86 hr (by decide) (Za (Zb 5) (Za Zi Ze))) (Za Zi (Za (Zb 2) (Za Zi (Za (ZZ Ze) Ze))))))))) Ze)) (Za Zi Ze)))))
  (Zj (Zs (ZZ (Za (Zb 7) (Za (Zb 4) (Za (Zh zd86 hr (by decide) (Za (Zb 5) (Za Zi Ze))) (Za (Zh zd86 hr (by decide) (Za (Zb 6) (Za Zi Ze))) Ze))))))))))))))
theorem Zwn (D:Def0 K mg "_law_row" Zja Znt) (g:Glb K mg) (zd83:MDef P w K mg base 2 "_law_bytes" ZcH) (zd86:MDef P w K mg base 1 "_law_plus" ZbT) (zd88:MDef P w K mg base 1 "_law_segment" Zdr):MDef P w K mg base 3 "_law_row" Zer:=
  ZT D zc91 6 7 rfl rfl fun f cdv A outer s H E hr=>(Zg (ZI 6 zc91.nd (ZZ (Za (Zh zd86 hr (by decide) (Za (ZA ZB (Zb 0) Zi) (Za (Zb 1) Ze))) (Za (Zh zd86 hr (by decide) (Za (ZA ZB (Zb 0) Zi) (Za (Zb 2) Ze))) Ze))))
  (Zj (Zs (Zh zd83 hr (by decide) (Za (Zh zd88 hr (by decide) (Za (ZA ZB (Zb 0) Zi) (Za (ZA ZB (Zb 6) Zi) (Za (ZA ZB (Zb 6) Zi) (Za (Zb 3) (Za (Zb 4) (Za (Zb 5) Ze))))))) Ze)))))
theorem Zwm (D:Def0 K mg "_law_bring" Zi9 Zns) (g:Glb K mg) (zd89:MDef P w K mg base 9 "_law_given" ZbU) (zd91:MDef P w K mg base 3 "_law_row" Zer) (zd58:MDef P w K mg base 8 "arrive" zg) (zd77:MDef P w K mg base 1 "close" Zc5):MDef P w K mg base 10 "_law_bring" ZeS:=
  ZT D ZxH 3 3 rfl rfl fun f cdv A outer s H E hr=>(Zg (ZL (Zh zd77 hr (by decide) (Za (ZA ZB (Zb 0) Zi) Ze)))
  (Zg (ZL (Zh zd89 hr (by decide) (Za (ZA ZB (Zb 0) Zi) (Za (Zb 2) Ze))))
  (Zj (ZH (ZC (zO hr.units) (Zb 1) Zi) (Zg (ZL (Zh zd58 hr (by decide) (Za (ZA ZB (Zb 0) Zi) (Za (Zh zd91 hr (by decide) (Za (Zb 0) (Za Zi (Za Zi (Za Zi (Za Zi (Za (zo Ze) Ze))))))) (Za (Zb 2) Ze)))))
    (Zj (ZL (Zh zd58 hr (by decide) (Za (ZA ZB (Zb 0) Zi) (Za (Zh zd91 hr (by decide) (Za (Zb 0) (Za Zi (Za Zi (Za Zi (Za Zi (Za (zo Ze) Ze))))))) (Za (Zb 2) Ze))))))) (Zg (ZL (Zh zd58 hr (by decide) (Za (ZA ZB (Zb 0) Zi) (Za (Zh zd91 hr (by decide) (Za (Zb 0) (Za Zi (Za Zi (Za Zi (Za Zi (Za (zo Ze) Ze))))))) (Za (Zb 2) Ze)))))
    (Zj (ZL (Zh zd58 hr (by decide) (Za (ZA ZB (Zb 0) Zi) (Za (Zh zd91 hr (by decide) (Za (Zb 0) (Za Zi (Za Zi (Za Zi (Za Zi (Za (zo Ze) Ze))))))) (Za (Zb 2) Ze)))))))))))
theorem Zwl {fl:Addr} {fdl:FuncData} (F:Fun K "law" "law" Zg2 fl fdl) (g:Glb K mg) (zd92:MDef P w K mg base 10 "_law_bring" ZeS) (zd89:MDef P w K mg base 9 "_law_given" ZbU) (zd80:MDef P w K mg base 2 "_law_mix" ZbH) (zd90:MDef P w K mg base 9 "_law_opened" Zds) (zd86:MDef P w K mg base 1 "_law_plus" ZbT) (zd91:MDef P w K mg base 3 "_law_row" Zer) (zd78:MDef P w K mg base 1 "abort" Zfu) (zd58:MDef P w K mg base 8 "arrive" zg) (zd77:MDef P w K mg base 1 "close" Zc5) (zd10:MDef P w K mg base 1 "error" Zft) (zd30:MDef P w K mg base 8 "send" ZbR) (zd9:MDef P w K mg base 1 "state" ZcE):FnOk P w K mg base CX0 11 fl fdl Znr (spM ⟨zY mg,K⟩ ZkX):=
  mfn F zc93 1 8 rfl rfl fun cdv A outer s H E hr=>(Zg (ZI 1 zc93.nd (Zh zd90 hr (by decide) (Za (Zb 0) (Za Zi (Za Zi (Za Zi Ze))))))
  (Zg (ZI 2 zc93.nd (ZA ZB (Zb 1) Zi))
  (Zg (ZI 3 zc93.nd (ZA ZB (Zb 1) Zi))
  (Zg (ZI 4 zc93.nd (Zu ZaG (Zh zd80 hr (by decide) (Za (Zb 0) (Za Zi Ze))) Zi))
  (Zg (ZL (Zh zd92 hr (by decide) (Za (Zb 1) (Za (Zu ZaG (Zh zd80 hr (by decide) (Za (Zb 0) (Za Zi Ze))) Zi) (Za (Zb 4) Ze)))))
  (Zg (ZH (ZC (Zdq hr.units) (Zh zd9 hr (by decide) (Za (Zb 2) Ze)) Zf3) (Zj (Zs zA)) Zx)
  (Zg (ZI 5 zc93.nd (ZZ (Za (ZA ZB (Zb 3) Zi) (Za (ZA ZB (Zb 3) Zi) (Za (Zh zd86 hr (by decide) (Za (ZA ZB (Zb 1) Zi) (Za Zi Ze))) (Za (Zh zd86 hr (by decide) (Za (ZA ZB (Zb 1) Zi) (Za Zi Ze))) (Za Zi (Za Zi (Za Zi (Za (ZZ Ze) Ze))))))))))
  (Zg (ZH (MW.mt (Zco (ZC (Zdq hr.units) (Zh zd89 hr (by decide) (Za (Zb 2) (Za (Zb 4) Ze))) (zo (Za (Zb 5) Ze))) (zW (ZC Zmj (Zh zd77 hr (by decide) (Za (Zb 2) Ze)) zA)))) (Zj (Zs zA)) Zx)
  (Zg (ZiR PassesOwn.never (ZeQ g.b_range (Za (Zu ZaG (Zh zd80 hr (by decide) (Za (Zb 0) (Za Zi Ze))) Zi) Ze)) (ZgV 6 zc93.nd) (Zg (ZI 4 zc93.nd (Zu ZM (Zb 4) (ZA ZB (zo (Za Zi (Za Zi (Za Zi (Za (Zu ZaG (Zh zd80 hr (by decide) (Za (Zb 0) (Za (Zu ZM Zi (Zb 6)) Ze))) Zi) Ze))))) (Zu ZaG (Zh zd80 hr (by decide) (Za (Zb 0) (Za (Zu ZM Zi (Zb 6)) Ze))) Zi))))
    (Zg (ZH (MW.mt (Zco (ZC (Zdq hr.units) (Zh zd89 hr (by decide) (Za (Zb 2) (Za (Zb 4) Ze))) (zo Ze)) (zW (ZC (Zdq hr.units) (Zh zd9 hr (by decide) (Za (Zb 2) Ze)) Zf3)))) (Zj (Zs zA)) Zx)
    (by refine Zm4 ?_ ?_; exact (Zqr 7 zc93.nd (ZtY (Zi3 (Za2 (Za2 (Za2 (Za2 (Zi4 Zff Zff))))) (Zi3 (Za2 (Za2 (Za2 (Za2 (Zi4 (Za2 (Za2 Zff)) Zff))))) (Zi3 (ZrY ZtZ (Za2 (Za2 (Za2 (Zi4 (Za2 Zff) Zff))))) Zff)))) (ZvP (Zu ZaG (Zh zd80 hr (by decide) (Za (Zb 0) (Za (Zu ZM Zi (Zb 6)) Ze))) Zi)) rfl (by first | exact Or.inl rfl | exact Or.inr rfl) (by first | exact .inl rfl | exact .inr rfl)); exact (Zg (ZL (Zh zd58 hr (by decide) (Za (Zb 2) (Za (Zh zd91 hr (by decide) (Za (Zb 1) (Za (ZA ZB (Zb 7) Zi) (Za (ZA ZB (Zb 7) Zi) (Za (ZA ZB (Zb 7) Zi) (Za (ZA ZB (Zb 7) Zi) (Za (ZA ZB (Zb 7) Zi) Ze))))))) (Za (Zb 4) Ze)))))
    (Zj (ZH (ZC (Zdq hr.units) (Zh zd89 hr (by decide) (Za (Zb 2) (Za (Zb 4) Ze))) (zo (Za (Zb 5) Ze))) (Zj (Zs zA)) Zx)))))))
  (Zg (ZH (ZC (zO hr.units) (Zu ZaG (Zh zd80 hr (by decide) (Za (Zb 0) (Za Zi Ze))) Zi) Zi) (Zj (Zs (ZaU (zp ZpA (Zh zd78 hr (by decide) (Za (Zb 2) Ze)) zA) (ZaU (zp (zO hr.units) (Zh zd9 hr (by decide) (Za (Zb 2) Ze)) Zf3) (Zcd (zp (zO hr.units) (Zh zd30 hr (by decide) (Za (Zb 2) (Za (Zb 4) Ze))) (zo Ze))))))) Zx)
  (Zg (ZH (MW.mt (Zco (ZC (Zdq hr.units) (Zh zd89 hr (by decide) (Za (Zb 2) (Za (Zu ZM (Zb 4) Zi) Ze))) (zo Ze)) (zW (ZC (Zdq hr.units) (Zh zd9 hr (by decide) (Za (Zb 2) Ze)) Zf3)))) (Zj (Zs zA)) Zx)
  (Zj (Zs (ZaU (zp (zO hr.units) (Zh zd89 hr (by decide) (Za (Zb 2) (Za (Zu ZM (Zb 4) Zi) Ze))) (zo Ze)) (ZaU (zp (zO hr.units) (Zh zd9 hr (by decide) (Za (Zb 2) Ze)) Zf3) (Zcd (zp (zO hr.units) (Zh zd10 hr (by decide) (Za (Zb 2) Ze)) Zf3)))))))))))))))))
theorem ZtG {fl:Addr} {fdl:FuncData} (F:Fun K "law" "law" Zg2 fl fdl) (zD0:Mk0 K mg "Pile" "Pile.__init__" zs0 zP0) (zD1:Def0 K mg "room" zs1 zP1) (zD2:Def0 K mg "lay" zs2 zP2) (zD3:Def0 K mg "take" zs3 zP3) (zD4:Def0 K mg "plus" zs4 zP4) (zD5:Def0 K mg "offset" zs5 zP5) (zD6:Def0 K mg "past" zs6 zP6) (zD7:Mk0 K mg "End" "End.__init__" zs7 zP7) (zD8:Def0 K mg "start_timer" zs8 zP8) (zD9:Def0 K mg "state" zs9 zP9) (zD10:Def0 K mg "error" Zks ZoM) (zD11:Def0 K mg "our_window" Zkr ZoL) (zD12:Def0 K mg "has_sent_fin" Zkq ZoK) (zD13:Def0 K mg "folded" Zkp ZoJ) (zD14:Def0 K mg "sum_of" Zko ZoI) (zD15:Def0 K mg "length" Zkn ZoH) (zD16:Def0 K mg "has" Zkm ZoG) (zD17:Def0 K mg "bears" Zkl ZoF) (zD18:Def0 K mg "put" Zkk ZoE) (zD19:Def0 K mg "bytes_ahead_of_sum" Zkj ZoD) (zD20:Def0 K mg "byte_of_head" Zki ZoC) (zD21:Def0 K mg "bytes_of_most" Zkh ZoB) (zD22:Def0 K mg "two_bytes" Zkg ZoA) (zD23:Def0 K mg "four_bytes" Zkf Zoz) (zD24:Def0 K mg "is_right" Zke Zoy) (zD25:Def0 K mg "head_of" Zkd Zox) (zD26:Def0 K mg "is_right_long_head" Zkc Zow) (zD27:Def0 K mg "get" Zkb Zov) (zD28:Def0 K mg "two_at" Zka Zou) (zD29:Def0 K mg "four_at" Zj9 Zot) (zD30:Def0 K mg "send" Zj8 Zos) (zD31:Def0 K mg "going" Zj7 Zor) (zD32:Def0 K mg "paid_reset" Zj6 Zoq) (zD33:Def0 K mg "is_due" Zj5 Zop) (zD34:Def0 K mg "again" Zj4 Zoo) (zD35:Def0 K mg "most_at_once" Zj3 Zon) (zD36:Def0 K mg "paid_syn" Zj2 Zom) (zD37:Def0 K mg "segment_of" Zj1 Zol) (zD38:Def0 K mg "going_as_new" Zj0 Zok) (zD39:Def0 K mg "new_syn" ZjZ Zoj) (zD40:Def0 K mg "has_more" ZjY Zoi) (zD41:Def0 K mg "has_new_data" ZjX Zoh) (zD42:Def0 K mg "unsent" ZjW Zog) (zD43:Def0 K mg "has_new_fin" ZjV Zof) (zD44:Def0 K mg "new_piece" ZjU Zoe) (zD45:Def0 K mg "new_data" ZjT Zod) (zD46:Def0 K mg "new_fin" ZjS Zoc) (zD47:Def0 K mg "going_as_probe" ZjR Zob) (zD48:Def0 K mg "going_as_answer" ZjQ Zoa) (zD49:Def0 K mg "reset_for" ZjP Zn9) (zD50:Def0 K mg "owe_reset_for" ZjO Zn8) (zD51:Def0 K mg "come_to_closed" ZjN Zn7) (zD52:Def0 K mg "come_to_listen" ZjM Zn6) (zD53:Def0 K mg "hear_syn" ZjL Zn5) (zD54:Def0 K mg "come_to_syn_sent" ZjK Zn4) (zD55:Def0 K mg "answers_syn" ZjJ Zn3) (zD56:Def0 K mg "refuse" ZjI Zn2) (zD57:Def0 K mg "go_on_from_syn_sent" ZjH Zn1) (zD58:Def0 K mg "arrive" ZjG Zn0) (zD59:Def0 K mg "is_for" ZjF ZnZ) (zD60:Def0 K mg "come_to_stream" ZjE ZnY) (zD61:Def0 K mg "fits" ZjD ZnX) (zD62:Def0 K mg "is_in_window" ZjC ZnW) (zD63:Def0 K mg "turn_away" ZjB ZnV) (zD64:Def0 K mg "hear_reset" ZjA ZnU) (zD65:Def0 K mg "goes_on_behind_answer" Zjz ZnT) (zD66:Def0 K mg "has_answered_syn" Zjy ZnS) (zD67:Def0 K mg "take_window" Zjx ZnR) (zD68:Def0 K mg "hear_answer" Zjw ZnQ) (zD69:Def0 K mg "is_newer" Zjv ZnP) (zD70:Def0 K mg "end_what_is_acknowledged" Zju ZnO) (zD71:Def0 K mg "hear_stream" Zjt ZnN) (zD72:Def0 K mg "keep_data" Zjs ZnM) (zD73:Def0 K mg "keep_fin" Zjr ZnL) (zD74:Def0 K mg "draw_in_order" Zjq ZnK) (zD75:Def0 K mg "hear_fin" Zjp ZnJ) (zD76:Def0 K mg "opened" Zjo ZnI) (zD77:Def0 K mg "close" Zjn ZnH) (zD78:Def0 K mg "abort" Zjm ZnG) (zD79:Def0 K mg "_law_cell" Zjl ZnF) (zD80:Def0 K mg "_law_mix" Zjk ZnE) (zD81:Def0 K mg "_law_two" Zjj ZnD) (zD82:Def0 K mg "_law_folded" Zji ZnC) (zD83:Def0 K mg "_law_bytes" Zjh ZnB) (zD84:Def0 K mg "_law_read" ZhS ZnA) (zD85:Def0 K mg "_law_byte" Zjg Znz) (zD86:Def0 K mg "_law_plus" Zjf Zny) (zD87:Def0 K mg "_law_first" Zje Znx) (zD88:Def0 K mg "_law_segment" Zjd Znw) (zD89:Def0 K mg "_law_given" Zjc Znv) (zD90:Def0 K mg "_law_opened" Zjb Znu) (zD91:Def0 K mg "_law_row" Zja Znt) (zD92:Def0 K mg "_law_bring" Zi9 Zns) (g:Glb K mg):FnOk P w K mg base CX0 11 fl fdl Znr (spM ⟨zY mg,K⟩ ZkX):=by
  have zd0:=zo0 (P:=P) (w:=w) (base:=base) zD0 g
  have zd1:=zo1 (P:=P) (w:=w) (base:=base) zD1 g
  have zd2:=zo2 (P:=P) (w:=w) (base:=base) zD2 g zd1
  have zd3:=zo3 (P:=P) (w:=w) (base:=base) zD3 g
  have zd4:=zo4 (P:=P) (w:=w) (base:=base) zD4 g
  have zd5:=zo5 (P:=P) (w:=w) (base:=base) zD5 g
  have zd6:=zo6 (P:=P) (w:=w) (base:=base) zD6 g zd5
  have zd7:=zo7 (P:=P) (w:=w) (base:=base) zD7 g zd0 zd4
  have zd8:=zo8 (P:=P) (w:=w) (base:=base) zD8 g
  have zd9:=zo9 (P:=P) (w:=w) (base:=base) zD9 g
  have zd10:=ZxG (P:=P) (w:=w) (base:=base) zD10 g
  have zd11:=ZxF (P:=P) (w:=w) (base:=base) zD11 g zd1
  have zd12:=ZxE (P:=P) (w:=w) (base:=base) zD12 g zd6
  have zd13:=ZxD (P:=P) (w:=w) (base:=base) zD13 g
  have zd14:=ZxC (P:=P) (w:=w) (base:=base) zD14 g zd13
  have zd16:=ZxA (P:=P) (w:=w) (base:=base) zD16 g
  have zd15:=ZxB (P:=P) (w:=w) (base:=base) zD15 g zd16
  have zd17:=Zxz (P:=P) (w:=w) (base:=base) zD17 g zd16
  have zd20:=Zxw (P:=P) (w:=w) (base:=base) zD20 g
  have zd22:=Zxu (P:=P) (w:=w) (base:=base) zD22 g
  have zd23:=Zxt (P:=P) (w:=w) (base:=base) zD23 g zd22
  have zd19:=Zxx (P:=P) (w:=w) (base:=base) zD19 g zd20 zd23 zd22
  have zd21:=Zxv (P:=P) (w:=w) (base:=base) zD21 g zd22
  have zd18:=Zxy (P:=P) (w:=w) (base:=base) zD18 g zd19 zd21 zd14 zd22
  have zd25:=Zxr (P:=P) (w:=w) (base:=base) zD25 g
  have zd28:=Zxo (P:=P) (w:=w) (base:=base) zD28 g
  have zd26:=Zxq (P:=P) (w:=w) (base:=base) zD26 g zd16 zd28
  have zd24:=Zxs (P:=P) (w:=w) (base:=base) zD24 g zd20 zd13 zd25 zd26 zd28
  have zd29:=Zxn (P:=P) (w:=w) (base:=base) zD29 g zd28
  have zd27:=Zxp (P:=P) (w:=w) (base:=base) zD27 g zd29 zd25 zd24 zd28
  have zd35:=Zxh (P:=P) (w:=w) (base:=base) zD35 g
  have zd36:=Zxg (P:=P) (w:=w) (base:=base) zD36 g
  have zd37:=Zxf (P:=P) (w:=w) (base:=base) zD37 g zd11
  have zd34:=Zxi (P:=P) (w:=w) (base:=base) zD34 g zd35 zd5 zd36 zd37
  have zd48:=Zw4 (P:=P) (w:=w) (base:=base) zD48 g zd37
  have zd42:=Zxa (P:=P) (w:=w) (base:=base) zD42 g zd5
  have zd41:=Zxb (P:=P) (w:=w) (base:=base) zD41 g zd42
  have zd43:=Zw9 (P:=P) (w:=w) (base:=base) zD43 g zd42
  have zd40:=Zxc (P:=P) (w:=w) (base:=base) zD40 g zd41 zd43
  have zd45:=Zw7 (P:=P) (w:=w) (base:=base) zD45 g zd35 zd5 zd4 zd37 zd42
  have zd46:=Zw6 (P:=P) (w:=w) (base:=base) zD46 g zd4 zd37
  have zd44:=Zw8 (P:=P) (w:=w) (base:=base) zD44 g zd41 zd45 zd46
  have zd39:=Zxd (P:=P) (w:=w) (base:=base) zD39 g zd36 zd4 zd8
  have zd38:=Zxe (P:=P) (w:=w) (base:=base) zD38 g zd40 zd44 zd39 zd5 zd8
  have zd33:=Zxj (P:=P) (w:=w) (base:=base) zD33 g
  have zd47:=Zw5 (P:=P) (w:=w) (base:=base) zD47 g zd40 zd33 zd44 zd8
  have zd32:=Zxk (P:=P) (w:=w) (base:=base) zD32 g
  have zd31:=Zxl (P:=P) (w:=w) (base:=base) zD31 g zd34 zd48 zd38 zd47 zd33 zd32
  have zd30:=Zxm (P:=P) (w:=w) (base:=base) zD30 g zd31 zd18
  have zd49:=Zw3 (P:=P) (w:=w) (base:=base) zD49 g zd17 zd15 zd4
  have zd50:=Zw2 (P:=P) (w:=w) (base:=base) zD50 g zd17 zd49
  have zd51:=Zw1 (P:=P) (w:=w) (base:=base) zD51 g zd50
  have zd53:=ZwZ (P:=P) (w:=w) (base:=base) zD53 g zd17 zd4
  have zd52:=Zw0 (P:=P) (w:=w) (base:=base) zD52 g zd17 zd53 zd50
  have zd55:=ZwX (P:=P) (w:=w) (base:=base) zD55 g zd4
  have zd57:=ZwV (P:=P) (w:=w) (base:=base) zD57 g zd17 zd8
  have zd56:=ZwW (P:=P) (w:=w) (base:=base) zD56 g zd17
  have zd54:=ZwY (P:=P) (w:=w) (base:=base) zD54 g zd55 zd17 zd57 zd53 zd50 zd56
  have zd62:=ZwQ (P:=P) (w:=w) (base:=base) zD62 g zd5 zd11
  have zd61:=ZwR (P:=P) (w:=w) (base:=base) zD61 g zd62 zd15 zd5 zd4
  have zd70:=ZwI (P:=P) (w:=w) (base:=base) zD70 g zd12
  have zd67:=ZwL (P:=P) (w:=w) (base:=base) zD67 g
  have zd66:=ZwM (P:=P) (w:=w) (base:=base) zD66 g zd50 zd67
  have zd69:=ZwJ (P:=P) (w:=w) (base:=base) zD69 g zd6
  have zd68:=ZwK (P:=P) (w:=w) (base:=base) zD68 g zd69 zd5 zd6 zd8 zd3 zd67
  have zd65:=ZwN (P:=P) (w:=w) (base:=base) zD65 g zd70 zd66 zd68 zd6
  have zd64:=ZwO (P:=P) (w:=w) (base:=base) zD64 g
  have zd74:=ZwE (P:=P) (w:=w) (base:=base) zD74 g zd2 zd4
  have zd75:=ZwD (P:=P) (w:=w) (base:=base) zD75 g zd4
  have zd72:=ZwG (P:=P) (w:=w) (base:=base) zD72 g zd62 zd4
  have zd73:=ZwF (P:=P) (w:=w) (base:=base) zD73 g zd17 zd62 zd4
  have zd71:=ZwH (P:=P) (w:=w) (base:=base) zD71 g zd74 zd75 zd72 zd73
  have zd63:=ZwP (P:=P) (w:=w) (base:=base) zD63 g zd17
  have zd60:=ZwS (P:=P) (w:=w) (base:=base) zD60 g zd17 zd61 zd65 zd64 zd71 zd63
  have zd59:=ZwT (P:=P) (w:=w) (base:=base) zD59 g
  have zd58:=ZwU (P:=P) (w:=w) (base:=base) zD58 g zd51 zd52 zd60 zd54 zd27 zd59 zd24
  have zd76:=ZwC (P:=P) (w:=w) (base:=base) zD76 g zd7
  have zd77:=ZwB (P:=P) (w:=w) (base:=base) zD77 g
  have zd78:=ZwA (P:=P) (w:=w) (base:=base) zD78 g
  have zd79:=Zwz (P:=P) (w:=w) (base:=base) zD79 g
  have zd80:=Zwy (P:=P) (w:=w) (base:=base) zD80 g zd79
  have zd81:=Zwx (P:=P) (w:=w) (base:=base) zD81 g
  have zd82:=Zww (P:=P) (w:=w) (base:=base) zD82 g
  have zd83:=Zwv (P:=P) (w:=w) (base:=base) zD83 g zd82 zd81
  have zd85:=Zwt (P:=P) (w:=w) (base:=base) zD85 g
  have zd84:=Zwu (P:=P) (w:=w) (base:=base) zD84 g zd85 zd82
  have zd86:=Zws (P:=P) (w:=w) (base:=base) zD86 g
  have zd87:=Zwr (P:=P) (w:=w) (base:=base) zD87 g
  have zd88:=Zwq (P:=P) (w:=w) (base:=base) zD88 g
  have zd89:=Zwp (P:=P) (w:=w) (base:=base) zD89 g zd84 zd30
  have zd90:=Zwo (P:=P) (w:=w) (base:=base) zD90 g zd83 zd87 zd80 zd86 zd58 zd76 zd30
  have zd91:=Zwn (P:=P) (w:=w) (base:=base) zD91 g zd83 zd86 zd88
  have zd92:=Zwm (P:=P) (w:=w) (base:=base) zD92 g zd89 zd91 zd58 zd77
  exact Zwl F g zd92 zd89 zd80 zd90 zd86 zd91 zd78 zd58 zd77 zd10 zd30 zd9
end
theorem us1 {p:List Value→Prop} (h:∀a,p [a]):∀us:List Value,us.length=1→p us
  | [a],_=>h a
theorem us2 {p:List Value→Prop} (h:∀a b,p [a,b]):∀us:List Value,us.length=2→p us
  | [a,b],_=>h a b
theorem us3 {p:List Value→Prop} (h:∀a b c,p [a,b,c]):∀us:List Value,us.length=3→p us
  | [a,b,c],_=>h a b c
theorem us4 {p:List Value→Prop} (h:∀a b c d,p [a,b,c,d]):∀us:List Value,us.length=4→p us
  | [a,b,c,d],_=>h a b c d
theorem us5 {p:List Value→Prop} (h:∀a b c d e,p [a,b,c,d,e]):∀us:List Value,us.length=5→p us
  | [a,b,c,d,e],_=>h a b c d e
theorem us6 {p:List Value→Prop} (h:∀a b c d e f,p [a,b,c,d,e,f]):∀us:List Value,us.length=6→p us
  | [a,b,c,d,e,f],_=>h a b c d e f
open PySem.W
theorem Zt1 {l:OpenLaw} {w:World} {K:Frag} {h:Heap} {mg:Str→Option Value} {fa:Addr} (X:K.In h) (G:h.Ns mainGlobals mg) (hfa:mg "law"=some (.ref fa))
    (aC_End:nsIn K mainGlobals "End"=some (some (.ref C_End)))
    (aC_Pile:nsIn K mainGlobals "Pile"=some (some (.ref C_Pile)))
    (a0:findIn K (.ref C_Pile) "__init__"=some (some (.ref f0))) (i0:isFn K (.ref f0)=true) (l0:K.lookup f0=some ⟨oc0,od0,.func (fnOf "__init__" "Pile.__init__" (Zp zs0) (Zn zs0) (Zf zs0) .none kV0 dc0 pm0 an0 cd0 ct0),sl0⟩) (c0:codeIn K cd0 "Pile.__init__"=true) (k0:keepIn K (.ref f0)=true)
    (a1:nsIn K mainGlobals "room"=some (some (.ref f1))) (l1:K.lookup f1=some ⟨oc1,od1,.func (fnOf "room" "room" (Zp zs1) (Zn zs1) (Zf zs1) .none kV1 dc1 pm1 an1 cd1 ct1),sl1⟩) (c1:codeIn K cd1 "room"=true) (k1:keepIn K (.ref f1)=true)
    (a2:nsIn K mainGlobals "lay"=some (some (.ref f2))) (l2:K.lookup f2=some ⟨oc2,od2,.func (fnOf "lay" "lay" (Zp zs2) (Zn zs2) (Zf zs2) .none kV2 dc2 pm2 an2 cd2 ct2),sl2⟩) (c2:codeIn K cd2 "lay"=true) (k2:keepIn K (.ref f2)=true)
    (a3:nsIn K mainGlobals "take"=some (some (.ref f3))) (l3:K.lookup f3=some ⟨oc3,od3,.func (fnOf "take" "take" (Zp zs3) (Zn zs3) (Zf zs3) .none kV3 dc3 pm3 an3 cd3 ct3),sl3⟩) (c3:codeIn K cd3 "take"=true) (k3:keepIn K (.ref f3)=true)
    (a4:nsIn K mainGlobals "plus"=some (some (.ref f4))) (l4:K.lookup f4=some ⟨oc4,od4,.func (fnOf "plus" "plus" (Zp zs4) (Zn zs4) (Zf zs4) .none kV4 dc4 pm4 an4 cd4 ct4),sl4⟩) (c4:codeIn K cd4 "plus"=true) (k4:keepIn K (.ref f4)=true)
    (a5:nsIn K mainGlobals "offset"=some (some (.ref f5))) (l5:K.lookup f5=some ⟨oc5,od5,.func (fnOf "offset" "offset" (Zp zs5) (Zn zs5) (Zf zs5) .none kV5 dc5 pm5 an5 cd5 ct5),sl5⟩) (c5:codeIn K cd5 "offset"=true) (k5:keepIn K (.ref f5)=true)
    (a6:nsIn K mainGlobals "past"=some (some (.ref f6))) (l6:K.lookup f6=some ⟨oc6,od6,.func (fnOf "past" "past" (Zp zs6) (Zn zs6) (Zf zs6) .none kV6 dc6 pm6 an6 cd6 ct6),sl6⟩) (c6:codeIn K cd6 "past"=true) (k6:keepIn K (.ref f6)=true)
    (a7:findIn K (.ref C_End) "__init__"=some (some (.ref f7))) (i7:isFn K (.ref f7)=true) (l7:K.lookup f7=some ⟨oc7,od7,.func (fnOf "__init__" "End.__init__" (Zp zs7) (Zn zs7) (Zf zs7) .none kV7 dc7 pm7 an7 cd7 ct7),sl7⟩) (c7:codeIn K cd7 "End.__init__"=true) (k7:keepIn K (.ref f7)=true)
    (a8:nsIn K mainGlobals "start_timer"=some (some (.ref f8))) (l8:K.lookup f8=some ⟨oc8,od8,.func (fnOf "start_timer" "start_timer" (Zp zs8) (Zn zs8) (Zf zs8) .none kV8 dc8 pm8 an8 cd8 ct8),sl8⟩) (c8:codeIn K cd8 "start_timer"=true) (k8:keepIn K (.ref f8)=true)
    (a9:nsIn K mainGlobals "state"=some (some (.ref f9))) (l9:K.lookup f9=some ⟨oc9,od9,.func (fnOf "state" "state" (Zp zs9) (Zn zs9) (Zf zs9) .none kV9 dc9 pm9 an9 cd9 ct9),sl9⟩) (c9:codeIn K cd9 "state"=true) (k9:keepIn K (.ref f9)=true)
    (a10:nsIn K mainGlobals "error"=some (some (.ref f10))) (l10:K.lookup f10=some ⟨oc10,od10,.func (fnOf "error" "error" (Zp Zks) (Zn Zks) (Zf Zks) .none kV10 dc10 pm10 an10 cd10 ct10),sl10⟩) (c10:codeIn K cd10 "error"=true) (k10:keepIn K (.ref f10)=true)
    (a11:nsIn K mainGlobals "our_window"=some (some (.ref f11))) (l11:K.lookup f11=some ⟨oc11,od11,.func (fnOf "our_window" "our_window" (Zp Zkr) (Zn Zkr) (Zf Zkr) .none kV11 dc11 pm11 an11 cd11 ct11),sl11⟩) (c11:codeIn K cd11 "our_window"=true) (k11:keepIn K (.ref f11)=true)
    (a12:nsIn K mainGlobals "has_sent_fin"=some (some (.ref f12))) (l12:K.lookup f12=some ⟨oc12,od12,.func (fnOf "has_sent_fin" "has_sent_fin" (Zp Zkq) (Zn Zkq) (Zf Zkq) .none kV12 dc12 pm12 an12 cd12 ct12),sl12⟩) (c12:codeIn K cd12 "has_sent_fin"=true) (k12:keepIn K (.ref f12)=true)
    (a13:nsIn K mainGlobals "folded"=some (some (.ref f13))) (l13:K.lookup f13=some ⟨oc13,od13,.func (fnOf "folded" "folded" (Zp Zkp) (Zn Zkp) (Zf Zkp) .none kV13 dc13 pm13 an13 cd13 ct13),sl13⟩) (c13:codeIn K cd13 "folded"=true) (k13:keepIn K (.ref f13)=true)
    (a14:nsIn K mainGlobals "sum_of"=some (some (.ref f14))) (l14:K.lookup f14=some ⟨oc14,od14,.func (fnOf "sum_of" "sum_of" (Zp Zko) (Zn Zko) (Zf Zko) .none kV14 dc14 pm14 an14 cd14 ct14),sl14⟩) (c14:codeIn K cd14 "sum_of"=true) (k14:keepIn K (.ref f14)=true)
    (a15:nsIn K mainGlobals "length"=some (some (.ref f15))) (l15:K.lookup f15=some ⟨oc15,od15,.func (fnOf "length" "length" (Zp Zkn) (Zn Zkn) (Zf Zkn) .none kV15 dc15 pm15 an15 cd15 ct15),sl15⟩) (c15:codeIn K cd15 "length"=true) (k15:keepIn K (.ref f15)=true)
    (a16:nsIn K mainGlobals "has"=some (some (.ref f16))) (l16:K.lookup f16=some ⟨oc16,od16,.func (fnOf "has" "has" (Zp Zkm) (Zn Zkm) (Zf Zkm) .none kV16 dc16 pm16 an16 cd16 ct16),sl16⟩) (c16:codeIn K cd16 "has"=true) (k16:keepIn K (.ref f16)=true)
    (a17:nsIn K mainGlobals "bears"=some (some (.ref f17))) (l17:K.lookup f17=some ⟨oc17,od17,.func (fnOf "bears" "bears" (Zp Zkl) (Zn Zkl) (Zf Zkl) .none kV17 dc17 pm17 an17 cd17 ct17),sl17⟩) (c17:codeIn K cd17 "bears"=true) (k17:keepIn K (.ref f17)=true)
    (a18:nsIn K mainGlobals "put"=some (some (.ref f18))) (l18:K.lookup f18=some ⟨oc18,od18,.func (fnOf "put" "put" (Zp Zkk) (Zn Zkk) (Zf Zkk) .none kV18 dc18 pm18 an18 cd18 ct18),sl18⟩) (c18:codeIn K cd18 "put"=true) (k18:keepIn K (.ref f18)=true)
    (a19:nsIn K mainGlobals "bytes_ahead_of_sum"=some (some (.ref f19))) (l19:K.lookup f19=some ⟨oc19,od19,.func (fnOf "bytes_ahead_of_sum" "bytes_ahead_of_sum" (Zp Zkj) (Zn Zkj) (Zf Zkj) .none kV19 dc19 pm19 an19 cd19 ct19),sl19⟩) (c19:codeIn K cd19 "bytes_ahead_of_sum"=true) (k19:keepIn K (.ref f19)=true)
    (a20:nsIn K mainGlobals "byte_of_head"=some (some (.ref f20))) (l20:K.lookup f20=some ⟨oc20,od20,.func (fnOf "byte_of_head" "byte_of_head" (Zp Zki) (Zn Zki) (Zf Zki) .none kV20 dc20 pm20 an20 cd20 ct20),sl20⟩) (c20:codeIn K cd20 "byte_of_head"=true) (k20:keepIn K (.ref f20)=true)
    (a21:nsIn K mainGlobals "bytes_of_most"=some (some (.ref f21))) (l21:K.lookup f21=some ⟨oc21,od21,.func (fnOf "bytes_of_most" "bytes_of_most" (Zp Zkh) (Zn Zkh) (Zf Zkh) .none kV21 dc21 pm21 an21 cd21 ct21),sl21⟩) (c21:codeIn K cd21 "bytes_of_most"=true) (k21:keepIn K (.ref f21)=true)
    (a22:nsIn K mainGlobals "two_bytes"=some (some (.ref f22))) (l22:K.lookup f22=some ⟨oc22,od22,.func (fnOf "two_bytes" "two_bytes" (Zp Zkg) (Zn Zkg) (Zf Zkg) .none kV22 dc22 pm22 an22 cd22 ct22),sl22⟩) (c22:codeIn K cd22 "two_bytes"=true) (k22:keepIn K (.ref f22)=true)
    (a23:nsIn K mainGlobals "four_bytes"=some (some (.ref f23))) (l23:K.lookup f23=some ⟨oc23,od23,.func (fnOf "four_bytes" "four_bytes" (Zp Zkf) (Zn Zkf) (Zf Zkf) .none kV23 dc23 pm23 an23 cd23 ct23),sl23⟩) (c23:codeIn K cd23 "four_bytes"=true) (k23:keepIn K (.ref f23)=true)
    (a24:nsIn K mainGlobals "is_right"=some (some (.ref f24))) (l24:K.lookup f24=some ⟨oc24,od24,.func (fnOf "is_right" "is_right" (Zp Zke) (Zn Zke) (Zf Zke) .none kV24 dc24 pm24 an24 cd24 ct24),sl24⟩) (c24:codeIn K cd24 "is_right"=true) (k24:keepIn K (.ref f24)=true)
    (a25:nsIn K mainGlobals "head_of"=some (some (.ref f25))) (l25:K.lookup f25=some ⟨oc25,od25,.func (fnOf "head_of" "head_of" (Zp Zkd) (Zn Zkd) (Zf Zkd) .none kV25 dc25 pm25 an25 cd25 ct25),sl25⟩) (c25:codeIn K cd25 "head_of"=true) (k25:keepIn K (.ref f25)=true)
    (a26:nsIn K mainGlobals "is_right_long_head"=some (some (.ref f26))) (l26:K.lookup f26=some ⟨oc26,od26,.func (fnOf "is_right_long_head" "is_right_long_head" (Zp Zkc) (Zn Zkc) (Zf Zkc) .none kV26 dc26 pm26 an26 cd26 ct26),sl26⟩) (c26:codeIn K cd26 "is_right_long_head"=true) (k26:keepIn K (.ref f26)=true)
    (a27:nsIn K mainGlobals "get"=some (some (.ref f27))) (l27:K.lookup f27=some ⟨oc27,od27,.func (fnOf "get" "get" (Zp Zkb) (Zn Zkb) (Zf Zkb) .none kV27 dc27 pm27 an27 cd27 ct27),sl27⟩) (c27:codeIn K cd27 "get"=true) (k27:keepIn K (.ref f27)=true)
    (a28:nsIn K mainGlobals "two_at"=some (some (.ref f28))) (l28:K.lookup f28=some ⟨oc28,od28,.func (fnOf "two_at" "two_at" (Zp Zka) (Zn Zka) (Zf Zka) .none kV28 dc28 pm28 an28 cd28 ct28),sl28⟩) (c28:codeIn K cd28 "two_at"=true) (k28:keepIn K (.ref f28)=true)
    (a29:nsIn K mainGlobals "four_at"=some (some (.ref f29))) (l29:K.lookup f29=some ⟨oc29,od29,.func (fnOf "four_at" "four_at" (Zp Zj9) (Zn Zj9) (Zf Zj9) .none kV29 dc29 pm29 an29 cd29 ct29),sl29⟩) (c29:codeIn K cd29 "four_at"=true) (k29:keepIn K (.ref f29)=true)
    (a30:nsIn K mainGlobals "send"=some (some (.ref f30))) (l30:K.lookup f30=some ⟨oc30,od30,.func (fnOf "send" "send" (Zp Zj8) (Zn Zj8) (Zf Zj8) .none kV30 dc30 pm30 an30 cd30 ct30),sl30⟩) (c30:codeIn K cd30 "send"=true) (k30:keepIn K (.ref f30)=true)
    (a31:nsIn K mainGlobals "going"=some (some (.ref f31))) (l31:K.lookup f31=some ⟨oc31,od31,.func (fnOf "going" "going" (Zp Zj7) (Zn Zj7) (Zf Zj7) .none kV31 dc31 pm31 an31 cd31 ct31),sl31⟩) (c31:codeIn K cd31 "going"=true) (k31:keepIn K (.ref f31)=true)
    (a32:nsIn K mainGlobals "paid_reset"=some (some (.ref f32))) (l32:K.lookup f32=some ⟨oc32,od32,.func (fnOf "paid_reset" "paid_reset" (Zp Zj6) (Zn Zj6) (Zf Zj6) .none kV32 dc32 pm32 an32 cd32 ct32),sl32⟩) (c32:codeIn K cd32 "paid_reset"=true) (k32:keepIn K (.ref f32)=true)
    (a33:nsIn K mainGlobals "is_due"=some (some (.ref f33))) (l33:K.lookup f33=some ⟨oc33,od33,.func (fnOf "is_due" "is_due" (Zp Zj5) (Zn Zj5) (Zf Zj5) .none kV33 dc33 pm33 an33 cd33 ct33),sl33⟩) (c33:codeIn K cd33 "is_due"=true) (k33:keepIn K (.ref f33)=true)
    (a34:nsIn K mainGlobals "again"=some (some (.ref f34))) (l34:K.lookup f34=some ⟨oc34,od34,.func (fnOf "again" "again" (Zp Zj4) (Zn Zj4) (Zf Zj4) .none kV34 dc34 pm34 an34 cd34 ct34),sl34⟩) (c34:codeIn K cd34 "again"=true) (k34:keepIn K (.ref f34)=true)
    (a35:nsIn K mainGlobals "most_at_once"=some (some (.ref f35))) (l35:K.lookup f35=some ⟨oc35,od35,.func (fnOf "most_at_once" "most_at_once" (Zp Zj3) (Zn Zj3) (Zf Zj3) .none kV35 dc35 pm35 an35 cd35 ct35),sl35⟩) (c35:codeIn K cd35 "most_at_once"=true) (k35:keepIn K (.ref f35)=true)
    (a36:nsIn K mainGlobals "paid_syn"=some (some (.ref f36))) (l36:K.lookup f36=some ⟨oc36,od36,.func (fnOf "paid_syn" "paid_syn" (Zp Zj2) (Zn Zj2) (Zf Zj2) .none kV36 dc36 pm36 an36 cd36 ct36),sl36⟩) (c36:codeIn K cd36 "paid_syn"=true) (k36:keepIn K (.ref f36)=true)
    (a37:nsIn K mainGlobals "segment_of"=some (some (.ref f37))) (l37:K.lookup f37=some ⟨oc37,od37,.func (fnOf "segment_of" "segment_of" (Zp Zj1) (Zn Zj1) (Zf Zj1) .none kV37 dc37 pm37 an37 cd37 ct37),sl37⟩) (c37:codeIn K cd37 "segment_of"=true) (k37:keepIn K (.ref f37)=true)
    (a38:nsIn K mainGlobals "going_as_new"=some (some (.ref f38))) (l38:K.lookup f38=some ⟨oc38,od38,.func (fnOf "going_as_new" "going_as_new" (Zp Zj0) (Zn Zj0) (Zf Zj0) .none kV38 dc38 pm38 an38 cd38 ct38),sl38⟩) (c38:codeIn K cd38 "going_as_new"=true) (k38:keepIn K (.ref f38)=true)
    (a39:nsIn K mainGlobals "new_syn"=some (some (.ref f39))) (l39:K.lookup f39=some ⟨oc39,od39,.func (fnOf "new_syn" "new_syn" (Zp ZjZ) (Zn ZjZ) (Zf ZjZ) .none kV39 dc39 pm39 an39 cd39 ct39),sl39⟩) (c39:codeIn K cd39 "new_syn"=true) (k39:keepIn K (.ref f39)=true)
    (a40:nsIn K mainGlobals "has_more"=some (some (.ref f40))) (l40:K.lookup f40=some ⟨oc40,od40,.func (fnOf "has_more" "has_more" (Zp ZjY) (Zn ZjY) (Zf ZjY) .none kV40 dc40 pm40 an40 cd40 ct40),sl40⟩) (c40:codeIn K cd40 "has_more"=true) (k40:keepIn K (.ref f40)=true)
    (a41:nsIn K mainGlobals "has_new_data"=some (some (.ref f41))) (l41:K.lookup f41=some ⟨oc41,od41,.func (fnOf "has_new_data" "has_new_data" (Zp ZjX) (Zn ZjX) (Zf ZjX) .none kV41 dc41 pm41 an41 cd41 ct41),sl41⟩) (c41:codeIn K cd41 "has_new_data"=true) (k41:keepIn K (.ref f41)=true)
    (a42:nsIn K mainGlobals "unsent"=some (some (.ref f42))) (l42:K.lookup f42=some ⟨oc42,od42,.func (fnOf "unsent" "unsent" (Zp ZjW) (Zn ZjW) (Zf ZjW) .none kV42 dc42 pm42 an42 cd42 ct42),sl42⟩) (c42:codeIn K cd42 "unsent"=true) (k42:keepIn K (.ref f42)=true)
    (a43:nsIn K mainGlobals "has_new_fin"=some (some (.ref f43))) (l43:K.lookup f43=some ⟨oc43,od43,.func (fnOf "has_new_fin" "has_new_fin" (Zp ZjV) (Zn ZjV) (Zf ZjV) .none kV43 dc43 pm43 an43 cd43 ct43),sl43⟩) (c43:codeIn K cd43 "has_new_fin"=true) (k43:keepIn K (.ref f43)=true)
    (a44:nsIn K mainGlobals "new_piece"=some (some (.ref f44))) (l44:K.lookup f44=some ⟨oc44,od44,.func (fnOf "new_piece" "new_piece" (Zp ZjU) (Zn ZjU) (Zf ZjU) .none kV44 dc44 pm44 an44 cd44 ct44),sl44⟩) (c44:codeIn K cd44 "new_piece"=true) (k44:keepIn K (.ref f44)=true)
    (a45:nsIn K mainGlobals "new_data"=some (some (.ref f45))) (l45:K.lookup f45=some ⟨oc45,od45,.func (fnOf "new_data" "new_data" (Zp ZjT) (Zn ZjT) (Zf ZjT) .none kV45 dc45 pm45 an45 cd45 ct45),sl45⟩) (c45:codeIn K cd45 "new_data"=true) (k45:keepIn K (.ref f45)=true)
    (a46:nsIn K mainGlobals "new_fin"=some (some (.ref f46))) (l46:K.lookup f46=some ⟨oc46,od46,.func (fnOf "new_fin" "new_fin" (Zp ZjS) (Zn ZjS) (Zf ZjS) .none kV46 dc46 pm46 an46 cd46 ct46),sl46⟩) (c46:codeIn K cd46 "new_fin"=true) (k46:keepIn K (.ref f46)=true)
    (a47:nsIn K mainGlobals "going_as_probe"=some (some (.ref f47))) (l47:K.lookup f47=some ⟨oc47,od47,.func (fnOf "going_as_probe" "going_as_probe" (Zp ZjR) (Zn ZjR) (Zf ZjR) .none kV47 dc47 pm47 an47 cd47 ct47),sl47⟩) (c47:codeIn K cd47 "going_as_probe"=true) (k47:keepIn K (.ref f47)=true)
    (a48:nsIn K mainGlobals "going_as_answer"=some (some (.ref f48))) (l48:K.lookup f48=some ⟨oc48,od48,.func (fnOf "going_as_answer" "going_as_answer" (Zp ZjQ) (Zn ZjQ) (Zf ZjQ) .none kV48 dc48 pm48 an48 cd48 ct48),sl48⟩) (c48:codeIn K cd48 "going_as_answer"=true) (k48:keepIn K (.ref f48)=true)
    (a49:nsIn K mainGlobals "reset_for"=some (some (.ref f49))) (l49:K.lookup f49=some ⟨oc49,od49,.func (fnOf "reset_for" "reset_for" (Zp ZjP) (Zn ZjP) (Zf ZjP) .none kV49 dc49 pm49 an49 cd49 ct49),sl49⟩) (c49:codeIn K cd49 "reset_for"=true) (k49:keepIn K (.ref f49)=true)
    (a50:nsIn K mainGlobals "owe_reset_for"=some (some (.ref f50))) (l50:K.lookup f50=some ⟨oc50,od50,.func (fnOf "owe_reset_for" "owe_reset_for" (Zp ZjO) (Zn ZjO) (Zf ZjO) .none kV50 dc50 pm50 an50 cd50 ct50),sl50⟩) (c50:codeIn K cd50 "owe_reset_for"=true) (k50:keepIn K (.ref f50)=true)
    (a51:nsIn K mainGlobals "come_to_closed"=some (some (.ref f51))) (l51:K.lookup f51=some ⟨oc51,od51,.func (fnOf "come_to_closed" "come_to_closed" (Zp ZjN) (Zn ZjN) (Zf ZjN) .none kV51 dc51 pm51 an51 cd51 ct51),sl51⟩) (c51:codeIn K cd51 "come_to_closed"=true) (k51:keepIn K (.ref f51)=true)
    (a52:nsIn K mainGlobals "come_to_listen"=some (some (.ref f52))) (l52:K.lookup f52=some ⟨oc52,od52,.func (fnOf "come_to_listen" "come_to_listen" (Zp ZjM) (Zn ZjM) (Zf ZjM) .none kV52 dc52 pm52 an52 cd52 ct52),sl52⟩) (c52:codeIn K cd52 "come_to_listen"=true) (k52:keepIn K (.ref f52)=true)
    (a53:nsIn K mainGlobals "hear_syn"=some (some (.ref f53))) (l53:K.lookup f53=some ⟨oc53,od53,.func (fnOf "hear_syn" "hear_syn" (Zp ZjL) (Zn ZjL) (Zf ZjL) .none kV53 dc53 pm53 an53 cd53 ct53),sl53⟩) (c53:codeIn K cd53 "hear_syn"=true) (k53:keepIn K (.ref f53)=true)
    (a54:nsIn K mainGlobals "come_to_syn_sent"=some (some (.ref f54))) (l54:K.lookup f54=some ⟨oc54,od54,.func (fnOf "come_to_syn_sent" "come_to_syn_sent" (Zp ZjK) (Zn ZjK) (Zf ZjK) .none kV54 dc54 pm54 an54 cd54 ct54),sl54⟩) (c54:codeIn K cd54 "come_to_syn_sent"=true) (k54:keepIn K (.ref f54)=true)
    (a55:nsIn K mainGlobals "answers_syn"=some (some (.ref f55))) (l55:K.lookup f55=some ⟨oc55,od55,.func (fnOf "answers_syn" "answers_syn" (Zp ZjJ) (Zn ZjJ) (Zf ZjJ) .none kV55 dc55 pm55 an55 cd55 ct55),sl55⟩) (c55:codeIn K cd55 "answers_syn"=true) (k55:keepIn K (.ref f55)=true)
    (a56:nsIn K mainGlobals "refuse"=some (some (.ref f56))) (l56:K.lookup f56=some ⟨oc56,od56,.func (fnOf "refuse" "refuse" (Zp ZjI) (Zn ZjI) (Zf ZjI) .none kV56 dc56 pm56 an56 cd56 ct56),sl56⟩) (c56:codeIn K cd56 "refuse"=true) (k56:keepIn K (.ref f56)=true)
    (a57:nsIn K mainGlobals "go_on_from_syn_sent"=some (some (.ref f57))) (l57:K.lookup f57=some ⟨oc57,od57,.func (fnOf "go_on_from_syn_sent" "go_on_from_syn_sent" (Zp ZjH) (Zn ZjH) (Zf ZjH) .none kV57 dc57 pm57 an57 cd57 ct57),sl57⟩) (c57:codeIn K cd57 "go_on_from_syn_sent"=true) (k57:keepIn K (.ref f57)=true)
    (a58:nsIn K mainGlobals "arrive"=some (some (.ref f58))) (l58:K.lookup f58=some ⟨oc58,od58,.func (fnOf "arrive" "arrive" (Zp ZjG) (Zn ZjG) (Zf ZjG) .none kV58 dc58 pm58 an58 cd58 ct58),sl58⟩) (c58:codeIn K cd58 "arrive"=true) (k58:keepIn K (.ref f58)=true)
    (a59:nsIn K mainGlobals "is_for"=some (some (.ref f59))) (l59:K.lookup f59=some ⟨oc59,od59,.func (fnOf "is_for" "is_for" (Zp ZjF) (Zn ZjF) (Zf ZjF) .none kV59 dc59 pm59 an59 cd59 ct59),sl59⟩) (c59:codeIn K cd59 "is_for"=true) (k59:keepIn K (.ref f59)=true)
    (a60:nsIn K mainGlobals "come_to_stream"=some (some (.ref f60))) (l60:K.lookup f60=some ⟨oc60,od60,.func (fnOf "come_to_stream" "come_to_stream" (Zp ZjE) (Zn ZjE) (Zf ZjE) .none kV60 dc60 pm60 an60 cd60 ct60),sl60⟩) (c60:codeIn K cd60 "come_to_stream"=true) (k60:keepIn K (.ref f60)=true)
    (a61:nsIn K mainGlobals "fits"=some (some (.ref f61))) (l61:K.lookup f61=some ⟨oc61,od61,.func (fnOf "fits" "fits" (Zp ZjD) (Zn ZjD) (Zf ZjD) .none kV61 dc61 pm61 an61 cd61 ct61),sl61⟩) (c61:codeIn K cd61 "fits"=true) (k61:keepIn K (.ref f61)=true)
    (a62:nsIn K mainGlobals "is_in_window"=some (some (.ref f62))) (l62:K.lookup f62=some ⟨oc62,od62,.func (fnOf "is_in_window" "is_in_window" (Zp ZjC) (Zn ZjC) (Zf ZjC) .none kV62 dc62 pm62 an62 cd62 ct62),sl62⟩) (c62:codeIn K cd62 "is_in_window"=true) (k62:keepIn K (.ref f62)=true)
    (a63:nsIn K mainGlobals "turn_away"=some (some (.ref f63))) (l63:K.lookup f63=some ⟨oc63,od63,.func (fnOf "turn_away" "turn_away" (Zp ZjB) (Zn ZjB) (Zf ZjB) .none kV63 dc63 pm63 an63 cd63 ct63),sl63⟩) (c63:codeIn K cd63 "turn_away"=true) (k63:keepIn K (.ref f63)=true)
    (a64:nsIn K mainGlobals "hear_reset"=some (some (.ref f64))) (l64:K.lookup f64=some ⟨oc64,od64,.func (fnOf "hear_reset" "hear_reset" (Zp ZjA) (Zn ZjA) (Zf ZjA) .none kV64 dc64 pm64 an64 cd64 ct64),sl64⟩) (c64:codeIn K cd64 "hear_reset"=true) (k64:keepIn K (.ref f64)=true)
    (a65:nsIn K mainGlobals "goes_on_behind_answer"=some (some (.ref f65))) (l65:K.lookup f65=some ⟨oc65,od65,.func (fnOf "goes_on_behind_answer" "goes_on_behind_answer" (Zp Zjz) (Zn Zjz) (Zf Zjz) .none kV65 dc65 pm65 an65 cd65 ct65),sl65⟩) (c65:codeIn K cd65 "goes_on_behind_answer"=true) (k65:keepIn K (.ref f65)=true)
    (a66:nsIn K mainGlobals "has_answered_syn"=some (some (.ref f66))) (l66:K.lookup f66=some ⟨oc66,od66,.func (fnOf "has_answered_syn" "has_answered_syn" (Zp Zjy) (Zn Zjy) (Zf Zjy) .none kV66 dc66 pm66 an66 cd66 ct66),sl66⟩) (c66:codeIn K cd66 "has_answered_syn"=true) (k66:keepIn K (.ref f66)=true)
    (a67:nsIn K mainGlobals "take_window"=some (some (.ref f67))) (l67:K.lookup f67=some ⟨oc67,od67,.func (fnOf "take_window" "take_window" (Zp Zjx) (Zn Zjx) (Zf Zjx) .none kV67 dc67 pm67 an67 cd67 ct67),sl67⟩) (c67:codeIn K cd67 "take_window"=true) (k67:keepIn K (.ref f67)=true)
    (a68:nsIn K mainGlobals "hear_answer"=some (some (.ref f68))) (l68:K.lookup f68=some ⟨oc68,od68,.func (fnOf "hear_answer" "hear_answer" (Zp Zjw) (Zn Zjw) (Zf Zjw) .none kV68 dc68 pm68 an68 cd68 ct68),sl68⟩) (c68:codeIn K cd68 "hear_answer"=true) (k68:keepIn K (.ref f68)=true)
    (a69:nsIn K mainGlobals "is_newer"=some (some (.ref f69))) (l69:K.lookup f69=some ⟨oc69,od69,.func (fnOf "is_newer" "is_newer" (Zp Zjv) (Zn Zjv) (Zf Zjv) .none kV69 dc69 pm69 an69 cd69 ct69),sl69⟩) (c69:codeIn K cd69 "is_newer"=true) (k69:keepIn K (.ref f69)=true)
    (a70:nsIn K mainGlobals "end_what_is_acknowledged"=some (some (.ref f70))) (l70:K.lookup f70=some ⟨oc70,od70,.func (fnOf "end_what_is_acknowledged" "end_what_is_acknowledged" (Zp Zju) (Zn Zju) (Zf Zju) .none kV70 dc70 pm70 an70 cd70 ct70),sl70⟩) (c70:codeIn K cd70 "end_what_is_acknowledged"=true) (k70:keepIn K (.ref f70)=true)
    (a71:nsIn K mainGlobals "hear_stream"=some (some (.ref f71))) (l71:K.lookup f71=some ⟨oc71,od71,.func (fnOf "hear_stream" "hear_stream" (Zp Zjt) (Zn Zjt) (Zf Zjt) .none kV71 dc71 pm71 an71 cd71 ct71),sl71⟩) (c71:codeIn K cd71 "hear_stream"=true) (k71:keepIn K (.ref f71)=true)
    (a72:nsIn K mainGlobals "keep_data"=some (some (.ref f72))) (l72:K.lookup f72=some ⟨oc72,od72,.func (fnOf "keep_data" "keep_data" (Zp Zjs) (Zn Zjs) (Zf Zjs) .none kV72 dc72 pm72 an72 cd72 ct72),sl72⟩) (c72:codeIn K cd72 "keep_data"=true) (k72:keepIn K (.ref f72)=true)
    (a73:nsIn K mainGlobals "keep_fin"=some (some (.ref f73))) (l73:K.lookup f73=some ⟨oc73,od73,.func (fnOf "keep_fin" "keep_fin" (Zp Zjr) (Zn Zjr) (Zf Zjr) .none kV73 dc73 pm73 an73 cd73 ct73),sl73⟩) (c73:codeIn K cd73 "keep_fin"=true) (k73:keepIn K (.ref f73)=true)
    (a74:nsIn K mainGlobals "draw_in_order"=some (some (.ref f74))) (l74:K.lookup f74=some ⟨oc74,od74,.func (fnOf "draw_in_order" "draw_in_order" (Zp Zjq) (Zn Zjq) (Zf Zjq) .none kV74 dc74 pm74 an74 cd74 ct74),sl74⟩) (c74:codeIn K cd74 "draw_in_order"=true) (k74:keepIn K (.ref f74)=true)
    (a75:nsIn K mainGlobals "hear_fin"=some (some (.ref f75))) (l75:K.lookup f75=some ⟨oc75,od75,.func (fnOf "hear_fin" "hear_fin" (Zp Zjp) (Zn Zjp) (Zf Zjp) .none kV75 dc75 pm75 an75 cd75 ct75),sl75⟩) (c75:codeIn K cd75 "hear_fin"=true) (k75:keepIn K (.ref f75)=true)
    (a76:nsIn K mainGlobals "opened"=some (some (.ref f76))) (l76:K.lookup f76=some ⟨oc76,od76,.func (fnOf "opened" "opened" (Zp Zjo) (Zn Zjo) (Zf Zjo) .none kV76 dc76 pm76 an76 cd76 ct76),sl76⟩) (c76:codeIn K cd76 "opened"=true) (k76:keepIn K (.ref f76)=true)
    (a77:nsIn K mainGlobals "close"=some (some (.ref f77))) (l77:K.lookup f77=some ⟨oc77,od77,.func (fnOf "close" "close" (Zp Zjn) (Zn Zjn) (Zf Zjn) .none kV77 dc77 pm77 an77 cd77 ct77),sl77⟩) (c77:codeIn K cd77 "close"=true) (k77:keepIn K (.ref f77)=true)
    (a78:nsIn K mainGlobals "abort"=some (some (.ref f78))) (l78:K.lookup f78=some ⟨oc78,od78,.func (fnOf "abort" "abort" (Zp Zjm) (Zn Zjm) (Zf Zjm) .none kV78 dc78 pm78 an78 cd78 ct78),sl78⟩) (c78:codeIn K cd78 "abort"=true) (k78:keepIn K (.ref f78)=true)
    (a79:nsIn K mainGlobals "_law_cell"=some (some (.ref f79))) (l79:K.lookup f79=some ⟨oc79,od79,.func (fnOf "_law_cell" "_law_cell" (Zp Zjl) (Zn Zjl) (Zf Zjl) .none kV79 dc79 pm79 an79 cd79 ct79),sl79⟩) (c79:codeIn K cd79 "_law_cell"=true) (k79:keepIn K (.ref f79)=true)
    (a80:nsIn K mainGlobals "_law_mix"=some (some (.ref f80))) (l80:K.lookup f80=some ⟨oc80,od80,.func (fnOf "_law_mix" "_law_mix" (Zp Zjk) (Zn Zjk) (Zf Zjk) .none kV80 dc80 pm80 an80 cd80 ct80),sl80⟩) (c80:codeIn K cd80 "_law_mix"=true) (k80:keepIn K (.ref f80)=true)
    (a81:nsIn K mainGlobals "_law_two"=some (some (.ref f81))) (l81:K.lookup f81=some ⟨oc81,od81,.func (fnOf "_law_two" "_law_two" (Zp Zjj) (Zn Zjj) (Zf Zjj) .none kV81 dc81 pm81 an81 cd81 ct81),sl81⟩) (c81:codeIn K cd81 "_law_two"=true) (k81:keepIn K (.ref f81)=true)
    (a82:nsIn K mainGlobals "_law_folded"=some (some (.ref f82))) (l82:K.lookup f82=some ⟨oc82,od82,.func (fnOf "_law_folded" "_law_folded" (Zp Zji) (Zn Zji) (Zf Zji) .none kV82 dc82 pm82 an82 cd82 ct82),sl82⟩) (c82:codeIn K cd82 "_law_folded"=true) (k82:keepIn K (.ref f82)=true)
    (a83:nsIn K mainGlobals "_law_bytes"=some (some (.ref f83))) (l83:K.lookup f83=some ⟨oc83,od83,.func (fnOf "_law_bytes" "_law_bytes" (Zp Zjh) (Zn Zjh) (Zf Zjh) .none kV83 dc83 pm83 an83 cd83 ct83),sl83⟩) (c83:codeIn K cd83 "_law_bytes"=true) (k83:keepIn K (.ref f83)=true)
    (a84:nsIn K mainGlobals "_law_read"=some (some (.ref f84))) (l84:K.lookup f84=some ⟨oc84,od84,.func (fnOf "_law_read" "_law_read" (Zp ZhS) (Zn ZhS) (Zf ZhS) .none kV84 dc84 pm84 an84 cd84 ct84),sl84⟩) (c84:codeIn K cd84 "_law_read"=true) (k84:keepIn K (.ref f84)=true)
    (a85:nsIn K mainGlobals "_law_byte"=some (some (.ref f85))) (l85:K.lookup f85=some ⟨oc85,od85,.func (fnOf "_law_byte" "_law_byte" (Zp Zjg) (Zn Zjg) (Zf Zjg) .none kV85 dc85 pm85 an85 cd85 ct85),sl85⟩) (c85:codeIn K cd85 "_law_byte"=true) (k85:keepIn K (.ref f85)=true)
    (a86:nsIn K mainGlobals "_law_plus"=some (some (.ref f86))) (l86:K.lookup f86=some ⟨oc86,od86,.func (fnOf "_law_plus" "_law_plus" (Zp Zjf) (Zn Zjf) (Zf Zjf) .none kV86 dc86 pm86 an86 cd86 ct86),sl86⟩) (c86:codeIn K cd86 "_law_plus"=true) (k86:keepIn K (.ref f86)=true)
    (a87:nsIn K mainGlobals "_law_first"=some (some (.ref f87))) (l87:K.lookup f87=some ⟨oc87,od87,.func (fnOf "_law_first" "_law_first" (Zp Zje) (Zn Zje) (Zf Zje) .none kV87 dc87 pm87 an87 cd87 ct87),sl87⟩) (c87:codeIn K cd87 "_law_first"=true) (k87:keepIn K (.ref f87)=true)
    (a88:nsIn K mainGlobals "_law_segment"=some (some (.ref f88))) (l88:K.lookup f88=some ⟨oc88,od88,.func (fnOf "_law_segment" "_law_segment" (Zp Zjd) (Zn Zjd) (Zf Zjd) .none kV88 dc88 pm88 an88 cd88 ct88),sl88⟩) (c88:codeIn K cd88 "_law_segment"=true) (k88:keepIn K (.ref f88)=true)
    (a89:nsIn K mainGlobals "_law_given"=some (some (.ref f89))) (l89:K.lookup f89=some ⟨oc89,od89,.func (fnOf "_law_given" "_law_given" (Zp Zjc) (Zn Zjc) (Zf Zjc) .none kV89 dc89 pm89 an89 cd89 ct89),sl89⟩) (c89:codeIn K cd89 "_law_given"=true) (k89:keepIn K (.ref f89)=true)
    (a90:nsIn K mainGlobals "_law_opened"=some (some (.ref f90))) (l90:K.lookup f90=some ⟨oc90,od90,.func (fnOf "_law_opened" "_law_opened" (Zp Zjb) (Zn Zjb) (Zf Zjb) .none kV90 dc90 pm90 an90 cd90 ct90),sl90⟩) (c90:codeIn K cd90 "_law_opened"=true) (k90:keepIn K (.ref f90)=true)
    (a91:nsIn K mainGlobals "_law_row"=some (some (.ref f91))) (l91:K.lookup f91=some ⟨oc91,od91,.func (fnOf "_law_row" "_law_row" (Zp Zja) (Zn Zja) (Zf Zja) .none kV91 dc91 pm91 an91 cd91 ct91),sl91⟩) (c91:codeIn K cd91 "_law_row"=true) (k91:keepIn K (.ref f91)=true)
    (a92:nsIn K mainGlobals "_law_bring"=some (some (.ref f92))) (l92:K.lookup f92=some ⟨oc92,od92,.func (fnOf "_law_bring" "_law_bring" (Zp Zi9) (Zn Zi9) (Zf Zi9) .none kV92 dc92 pm92 an92 cd92 ct92),sl92⟩) (c92:codeIn K cd92 "_law_bring"=true) (k92:keepIn K (.ref f92)=true)
    (a93:nsIn K mainGlobals "law"=some (some (.ref f93))) (l93:K.lookup f93=some ⟨oc93,od93,.func (fnOf "law" "law" (Zp Zg2) (Zn Zg2) (Zf Zg2) .none kV93 dc93 pm93 an93 cd93 ct93),sl93⟩) (c93:codeIn K cd93 "law"=true) (k93:keepIn K (.ref f93)=true)
    (pg_End:plainGet K C_End Str.empty=true) (hd_End:hasDictIn K C_End=true) (po_End:plainOver K C_End=true) (sa_End:findIn K (.ref C_End) "__setattr__"=some (some (.builtin "object.__setattr__"))) (mk_End:makesIn K C_End=true) (kc_End:keepIn K (.ref C_End)=true)
    (pg_Pile:plainGet K C_Pile Str.empty=true) (hd_Pile:hasDictIn K C_Pile=true) (po_Pile:plainOver K C_Pile=true) (sa_Pile:findIn K (.ref C_Pile) "__setattr__"=some (some (.builtin "object.__setattr__"))) (mk_Pile:makesIn K C_Pile=true) (kc_Pile:keepIn K (.ref C_Pile)=true)
    (zA0:findIn K (.ref C_End) "behind"=some none)
    (zA1:findIn K (.ref C_End) "come"=some none)
    (zA2:findIn K (.ref C_End) "early"=some none)
    (zA3:findIn K (.ref C_End) "early_fin"=some none)
    (zA4:findIn K (.ref C_End) "error"=some none)
    (zA5:findIn K (.ref C_End) "first"=some none)
    (zA6:findIn K (.ref C_End) "has_closed"=some none)
    (zA7:findIn K (.ref C_End) "most"=some none)
    (zA8:findIn K (.ref C_End) "nxt"=some none)
    (zA9:findIn K (.ref C_End) "ours"=some none)
    (zA10:findIn K (.ref C_End) "owed_reset"=some none)
    (zA11:findIn K (.ref C_End) "owes_answer"=some none)
    (zA12:findIn K (.ref C_End) "owes_syn"=some none)
    (zA13:findIn K (.ref C_End) "probes"=some none)
    (zA14:findIn K (.ref C_End) "rcv"=some none)
    (zA15:findIn K (.ref C_End) "since"=some none)
    (zA16:findIn K (.ref C_End) "state"=some none)
    (zA17:findIn K (.ref C_End) "theirs"=some none)
    (zA18:findIn K (.ref C_End) "told"=some none)
    (zA19:findIn K (.ref C_End) "told_by"=some none)
    (zA20:findIn K (.ref C_End) "tries"=some none)
    (zA21:findIn K (.ref C_End) "una"=some none)
    (zA22:findIn K (.ref C_End) "wait"=some none)
    (zA23:findIn K (.ref C_End) "wnd"=some none)
    (zA24:findIn K (.ref C_End) "written"=some none)
    (zA25:findIn K (.ref C_Pile) "row"=some none)
    (zg0:nsIn K mainGlobals "ACK"=some (some (.int 16 zt0)))
    (zg1:nsIn K mainGlobals "ANSWER"=some (some (.int 3 zt1)))
    (zg2:nsIn K mainGlobals "CLOSED"=some (some (.str "closed" zt2)))
    (zg3:nsIn K mainGlobals "CLOSE_WAIT"=some (some (.str "close wait" zt3)))
    (zg4:nsIn K mainGlobals "CLOSING"=some (some (.str "closing" zt4)))
    (zg5:nsIn K mainGlobals "DATA"=some (some (.int 7 zt5)))
    (zg6:nsIn K mainGlobals "FIN"=some (some (.int 1 zt6)))
    (zg7:nsIn K mainGlobals "FIRST_WAIT"=some (some (.int 1000 zt7)))
    (zg8:nsIn K mainGlobals "FLAGS"=some (some (.int 4 zt8)))
    (zg9:nsIn K mainGlobals "GOAL"=some (some (.int 1 zt9)))
    (zg10:nsIn K mainGlobals "GREATEST_DATA"=some (some (.int 16 zt10)))
    (zg11:nsIn K mainGlobals "GREATEST_FLAGS"=some (some (.int 31 zt11)))
    (zg12:nsIn K mainGlobals "GREATEST_WORD"=some (some (.int 65535 zt12)))
    (zg13:nsIn K mainGlobals "HALF_ROUND"=some (some (.int 2147483648 zt13)))
    (zg14:nsIn K mainGlobals "LAST_ACK"=some (some (.str "last ack" zt14)))
    (zg15:nsIn K mainGlobals "LAST_WAIT"=some (some (.int 120000 zt15)))
    (zg16:nsIn K mainGlobals "LEAST_MOST"=some (some (.int 4 zt16)))
    (zg17:nsIn K mainGlobals "LISTEN"=some (some (.str "listen" zt17)))
    (zg18:nsIn K mainGlobals "LONGEST_WAIT"=some (some (.int 16000 zt18)))
    (zg19:nsIn K mainGlobals "LONG_HEAD"=some (some (.int 24 zt19)))
    (zg20:nsIn K mainGlobals "MOST"=some (some (.int 6 zt20)))
    (zg21:nsIn K mainGlobals "MOST_TRIES"=some (some (.int 6 zt21)))
    (zg22:nsIn K mainGlobals "MOST_UNTOLD"=some (some (.int 12 zt22)))
    (zg23:nsIn K mainGlobals "NO_ERROR"=some (some (.str "" zt23)))
    (zg24:nsIn K mainGlobals "NUMBER"=some (some (.int 2 zt24)))
    (zg25:nsIn K mainGlobals "OPEN"=some (some (.str "open" zt25)))
    (zg26:nsIn K mainGlobals "PSH"=some (some (.int 8 zt26)))
    (zg27:nsIn K mainGlobals "REFUSED"=some (some (.str "refused" zt27)))
    (zg28:nsIn K mainGlobals "RESET"=some (some (.str "reset" zt28)))
    (zg29:nsIn K mainGlobals "RIGHT_SUM"=some (some (.int 65535 zt29)))
    (zg30:nsIn K mainGlobals "ROOM"=some (some (.int 64 zt30)))
    (zg31:nsIn K mainGlobals "ROUND"=some (some (.int 4294967296 zt31)))
    (zg32:nsIn K mainGlobals "RST"=some (some (.int 4 zt32)))
    (zg33:nsIn K mainGlobals "SHORT_HEAD"=some (some (.int 20 zt33)))
    (zg34:nsIn K mainGlobals "SOURCE"=some (some (.int 0 zt34)))
    (zg35:nsIn K mainGlobals "SYN"=some (some (.int 2 zt35)))
    (zg36:nsIn K mainGlobals "SYN_COME"=some (some (.str "syn come" zt36)))
    (zg37:nsIn K mainGlobals "SYN_SENT"=some (some (.str "syn sent" zt37)))
    (zg38:nsIn K mainGlobals "TIME"=some (some (.str "time" zt38)))
    (zg39:nsIn K mainGlobals "TIME_WAIT"=some (some (.str "time wait" zt39)))
    (zg40:nsIn K mainGlobals "WAIT_ONE"=some (some (.str "wait one" zt40)))
    (zg41:nsIn K mainGlobals "WAIT_TWO"=some (some (.str "wait two" zt41)))
    (zg42:nsIn K mainGlobals "WINDOW"=some (some (.int 5 zt42)))
    (zg43:nsIn K mainGlobals "WORDS"=some (some (.int 65536 zt43)))
    (z_all:nsIn K mainGlobals "all"=some none)
    (z_bool:nsIn K mainGlobals "bool"=some none)
    (z_enumerate:nsIn K mainGlobals "enumerate"=some none)
    (z_int:nsIn K mainGlobals "int"=some none)
    (z_isinstance:nsIn K mainGlobals "isinstance"=some none)
    (z_len:nsIn K mainGlobals "len"=some none)
    (z_list:nsIn K mainGlobals "list"=some none)
    (z_max:nsIn K mainGlobals "max"=some none)
    (z_min:nsIn K mainGlobals "min"=some none)
    (z_range:nsIn K mainGlobals "range"=some none)
    (z_sum:nsIn K mainGlobals "sum"=some none)
    (z_tuple:nsIn K mainGlobals "tuple"=some none) :
    ∃fd:FuncData,(∀(s:Shared) (v:Value),BindsTo s fd ⟨[v],[]⟩ [("_law_script",v)])∧∀base:Heap,K.In base→base.Ns mainGlobals mg→FnOk l.prog w K mg base CX0 11 fa fd ["_law_script"] (Zl4 K):=by
  have e:=hfa.symm.trans (mg_of X G a93)
  cases e
  have eC_End:C_End=zY mg "End":=(ZmA (mg_of X G aC_End)).symm
  have eC_Pile:C_Pile=zY mg "Pile":=(ZmA (mg_of X G aC_Pile)).symm
  subst eC_End
  subst eC_Pile
  have g:Glb K mg:=⟨⟨_,mg_of X G zg0⟩,⟨_,mg_of X G zg1⟩,⟨_,mg_of X G zg2⟩,⟨_,mg_of X G zg3⟩,⟨_,mg_of X G zg4⟩,⟨_,mg_of X G zg5⟩,⟨_,mg_of X G zg6⟩,⟨_,mg_of X G zg7⟩,⟨_,mg_of X G zg8⟩,⟨_,mg_of X G zg9⟩,⟨_,mg_of X G zg10⟩,⟨_,mg_of X G zg11⟩,⟨_,mg_of X G zg12⟩,⟨_,mg_of X G zg13⟩,⟨_,mg_of X G zg14⟩,⟨_,mg_of X G zg15⟩,⟨_,mg_of X G zg16⟩,⟨_,mg_of X G zg17⟩,⟨_,mg_of X G zg18⟩,⟨_,mg_of X G zg19⟩,⟨_,mg_of X G zg20⟩,⟨_,mg_of X G zg21⟩,⟨_,mg_of X G zg22⟩,⟨_,mg_of X G zg23⟩,⟨_,mg_of X G zg24⟩,⟨_,mg_of X G zg25⟩,⟨_,mg_of X G zg26⟩,⟨_,mg_of X G zg27⟩,⟨_,mg_of X G zg28⟩,⟨_,mg_of X G zg29⟩,⟨_,mg_of X G zg30⟩,⟨_,mg_of X G zg31⟩,⟨_,mg_of X G zg32⟩,⟨_,mg_of X G zg33⟩,⟨_,mg_of X G zg34⟩,⟨_,mg_of X G zg35⟩,⟨_,mg_of X G zg36⟩,⟨_,mg_of X G zg37⟩,⟨_,mg_of X G zg38⟩,⟨_,mg_of X G zg39⟩,⟨_,mg_of X G zg40⟩,⟨_,mg_of X G zg41⟩,⟨_,mg_of X G zg42⟩,⟨_,mg_of X G zg43⟩,mg_none_of X G z_all,mg_none_of X G z_bool,mg_none_of X G z_enumerate,mg_none_of X G z_int,mg_none_of X G z_isinstance,mg_none_of X G z_len,mg_none_of X G z_list,mg_none_of X G z_max,mg_none_of X G z_min,mg_none_of X G z_range,mg_none_of X G z_sum,mg_none_of X G z_tuple,⟨pg_End,hd_End,po_End,sa_End⟩,⟨pg_Pile,hd_Pile,po_Pile,sa_Pile⟩,zA0,zA1,zA2,zA3,zA4,zA5,zA6,zA7,zA8,zA9,zA10,zA11,zA12,zA13,zA14,zA15,zA16,zA17,zA18,zA19,zA20,zA21,zA22,zA23,zA24,zA25⟩
  have F0:=Zw (st:=zs0) l0 c0 k0
  have b0:=F0.binds (ps:=zP0) fun _ _ _ _ _ _=>us1 fun _=>rfl
  have D0:Mk0 K mg "Pile" "Pile.__init__" zs0 zP0:=⟨_,_,F0,b0,⟨mk_Pile,a0,i0,kc_Pile⟩,mg_of X G aC_Pile⟩
  have F1:=Zw (st:=zs1) l1 c1 k1
  have b1:=F1.binds (ps:=zP1) fun _ _ _ _ _ _=>us1 fun _=>rfl
  have D1:Def0 K mg "room" zs1 zP1:=⟨_,_,F1,b1,mg_of X G a1⟩
  have F2:=Zw (st:=zs2) l2 c2 k2
  have b2:=F2.binds (ps:=zP2) fun _ _ _ _ _ _=>us2 fun _ _=>rfl
  have D2:Def0 K mg "lay" zs2 zP2:=⟨_,_,F2,b2,mg_of X G a2⟩
  have F3:=Zw (st:=zs3) l3 c3 k3
  have b3:=F3.binds (ps:=zP3) fun _ _ _ _ _ _=>us2 fun _ _=>rfl
  have D3:Def0 K mg "take" zs3 zP3:=⟨_,_,F3,b3,mg_of X G a3⟩
  have F4:=Zw (st:=zs4) l4 c4 k4
  have b4:=F4.binds (ps:=zP4) fun _ _ _ _ _ _=>us2 fun _ _=>rfl
  have D4:Def0 K mg "plus" zs4 zP4:=⟨_,_,F4,b4,mg_of X G a4⟩
  have F5:=Zw (st:=zs5) l5 c5 k5
  have b5:=F5.binds (ps:=zP5) fun _ _ _ _ _ _=>us2 fun _ _=>rfl
  have D5:Def0 K mg "offset" zs5 zP5:=⟨_,_,F5,b5,mg_of X G a5⟩
  have F6:=Zw (st:=zs6) l6 c6 k6
  have b6:=F6.binds (ps:=zP6) fun _ _ _ _ _ _=>us2 fun _ _=>rfl
  have D6:Def0 K mg "past" zs6 zP6:=⟨_,_,F6,b6,mg_of X G a6⟩
  have F7:=Zw (st:=zs7) l7 c7 k7
  have b7:=F7.binds (ps:=zP7) fun _ _ _ _ _ _=>us5 fun _ _ _ _ _=>rfl
  have D7:Mk0 K mg "End" "End.__init__" zs7 zP7:=⟨_,_,F7,b7,⟨mk_End,a7,i7,kc_End⟩,mg_of X G aC_End⟩
  have F8:=Zw (st:=zs8) l8 c8 k8
  have b8:=F8.binds (ps:=zP8) fun _ _ _ _ _ _=>us2 fun _ _=>rfl
  have D8:Def0 K mg "start_timer" zs8 zP8:=⟨_,_,F8,b8,mg_of X G a8⟩
  have F9:=Zw (st:=zs9) l9 c9 k9
  have b9:=F9.binds (ps:=zP9) fun _ _ _ _ _ _=>us1 fun _=>rfl
  have D9:Def0 K mg "state" zs9 zP9:=⟨_,_,F9,b9,mg_of X G a9⟩
  have F10:=Zw (st:=Zks) l10 c10 k10
  have b10:=F10.binds (ps:=ZoM) fun _ _ _ _ _ _=>us1 fun _=>rfl
  have D10:Def0 K mg "error" Zks ZoM:=⟨_,_,F10,b10,mg_of X G a10⟩
  have F11:=Zw (st:=Zkr) l11 c11 k11
  have b11:=F11.binds (ps:=ZoL) fun _ _ _ _ _ _=>us1 fun _=>rfl
  have D11:Def0 K mg "our_window" Zkr ZoL:=⟨_,_,F11,b11,mg_of X G a11⟩
  have F12:=Zw (st:=Zkq) l12 c12 k12
  have b12:=F12.binds (ps:=ZoK) fun _ _ _ _ _ _=>us1 fun _=>rfl
  have D12:Def0 K mg "has_sent_fin" Zkq ZoK:=⟨_,_,F12,b12,mg_of X G a12⟩
  have F13:=Zw (st:=Zkp) l13 c13 k13
  have b13:=F13.binds (ps:=ZoJ) fun _ _ _ _ _ _=>us1 fun _=>rfl
  have D13:Def0 K mg "folded" Zkp ZoJ:=⟨_,_,F13,b13,mg_of X G a13⟩
  have F14:=Zw (st:=Zko) l14 c14 k14
  have b14:=F14.binds (ps:=ZoI) fun _ _ _ _ _ _=>us1 fun _=>rfl
  have D14:Def0 K mg "sum_of" Zko ZoI:=⟨_,_,F14,b14,mg_of X G a14⟩
  have F15:=Zw (st:=Zkn) l15 c15 k15
  have b15:=F15.binds (ps:=ZoH) fun _ _ _ _ _ _=>us1 fun _=>rfl
  have D15:Def0 K mg "length" Zkn ZoH:=⟨_,_,F15,b15,mg_of X G a15⟩
  have F16:=Zw (st:=Zkm) l16 c16 k16
  have b16:=F16.binds (ps:=ZoG) fun _ _ _ _ _ _=>us2 fun _ _=>rfl
  have D16:Def0 K mg "has" Zkm ZoG:=⟨_,_,F16,b16,mg_of X G a16⟩
  have F17:=Zw (st:=Zkl) l17 c17 k17
  have b17:=F17.binds (ps:=ZoF) fun _ _ _ _ _ _=>us2 fun _ _=>rfl
  have D17:Def0 K mg "bears" Zkl ZoF:=⟨_,_,F17,b17,mg_of X G a17⟩
  have F18:=Zw (st:=Zkk) l18 c18 k18
  have b18:=F18.binds (ps:=ZoE) fun _ _ _ _ _ _=>us1 fun _=>rfl
  have D18:Def0 K mg "put" Zkk ZoE:=⟨_,_,F18,b18,mg_of X G a18⟩
  have F19:=Zw (st:=Zkj) l19 c19 k19
  have b19:=F19.binds (ps:=ZoD) fun _ _ _ _ _ _=>us1 fun _=>rfl
  have D19:Def0 K mg "bytes_ahead_of_sum" Zkj ZoD:=⟨_,_,F19,b19,mg_of X G a19⟩
  have F20:=Zw (st:=Zki) l20 c20 k20
  have b20:=F20.binds (ps:=ZoC) fun _ _ _ _ _ _=>us1 fun _=>rfl
  have D20:Def0 K mg "byte_of_head" Zki ZoC:=⟨_,_,F20,b20,mg_of X G a20⟩
  have F21:=Zw (st:=Zkh) l21 c21 k21
  have b21:=F21.binds (ps:=ZoB) fun _ _ _ _ _ _=>us1 fun _=>rfl
  have D21:Def0 K mg "bytes_of_most" Zkh ZoB:=⟨_,_,F21,b21,mg_of X G a21⟩
  have F22:=Zw (st:=Zkg) l22 c22 k22
  have b22:=F22.binds (ps:=ZoA) fun _ _ _ _ _ _=>us1 fun _=>rfl
  have D22:Def0 K mg "two_bytes" Zkg ZoA:=⟨_,_,F22,b22,mg_of X G a22⟩
  have F23:=Zw (st:=Zkf) l23 c23 k23
  have b23:=F23.binds (ps:=Zoz) fun _ _ _ _ _ _=>us1 fun _=>rfl
  have D23:Def0 K mg "four_bytes" Zkf Zoz:=⟨_,_,F23,b23,mg_of X G a23⟩
  have F24:=Zw (st:=Zke) l24 c24 k24
  have b24:=F24.binds (ps:=Zoy) fun _ _ _ _ _ _=>us1 fun _=>rfl
  have D24:Def0 K mg "is_right" Zke Zoy:=⟨_,_,F24,b24,mg_of X G a24⟩
  have F25:=Zw (st:=Zkd) l25 c25 k25
  have b25:=F25.binds (ps:=Zox) fun _ _ _ _ _ _=>us1 fun _=>rfl
  have D25:Def0 K mg "head_of" Zkd Zox:=⟨_,_,F25,b25,mg_of X G a25⟩
  have F26:=Zw (st:=Zkc) l26 c26 k26
  have b26:=F26.binds (ps:=Zow) fun _ _ _ _ _ _=>us1 fun _=>rfl
  have D26:Def0 K mg "is_right_long_head" Zkc Zow:=⟨_,_,F26,b26,mg_of X G a26⟩
  have F27:=Zw (st:=Zkb) l27 c27 k27
  have b27:=F27.binds (ps:=Zov) fun _ _ _ _ _ _=>us1 fun _=>rfl
  have D27:Def0 K mg "get" Zkb Zov:=⟨_,_,F27,b27,mg_of X G a27⟩
  have F28:=Zw (st:=Zka) l28 c28 k28
  have b28:=F28.binds (ps:=Zou) fun _ _ _ _ _ _=>us2 fun _ _=>rfl
  have D28:Def0 K mg "two_at" Zka Zou:=⟨_,_,F28,b28,mg_of X G a28⟩
  have F29:=Zw (st:=Zj9) l29 c29 k29
  have b29:=F29.binds (ps:=Zot) fun _ _ _ _ _ _=>us2 fun _ _=>rfl
  have D29:Def0 K mg "four_at" Zj9 Zot:=⟨_,_,F29,b29,mg_of X G a29⟩
  have F30:=Zw (st:=Zj8) l30 c30 k30
  have b30:=F30.binds (ps:=Zos) fun _ _ _ _ _ _=>us2 fun _ _=>rfl
  have D30:Def0 K mg "send" Zj8 Zos:=⟨_,_,F30,b30,mg_of X G a30⟩
  have F31:=Zw (st:=Zj7) l31 c31 k31
  have b31:=F31.binds (ps:=Zor) fun _ _ _ _ _ _=>us2 fun _ _=>rfl
  have D31:Def0 K mg "going" Zj7 Zor:=⟨_,_,F31,b31,mg_of X G a31⟩
  have F32:=Zw (st:=Zj6) l32 c32 k32
  have b32:=F32.binds (ps:=Zoq) fun _ _ _ _ _ _=>us1 fun _=>rfl
  have D32:Def0 K mg "paid_reset" Zj6 Zoq:=⟨_,_,F32,b32,mg_of X G a32⟩
  have F33:=Zw (st:=Zj5) l33 c33 k33
  have b33:=F33.binds (ps:=Zop) fun _ _ _ _ _ _=>us2 fun _ _=>rfl
  have D33:Def0 K mg "is_due" Zj5 Zop:=⟨_,_,F33,b33,mg_of X G a33⟩
  have F34:=Zw (st:=Zj4) l34 c34 k34
  have b34:=F34.binds (ps:=Zoo) fun _ _ _ _ _ _=>us2 fun _ _=>rfl
  have D34:Def0 K mg "again" Zj4 Zoo:=⟨_,_,F34,b34,mg_of X G a34⟩
  have F35:=Zw (st:=Zj3) l35 c35 k35
  have b35:=F35.binds (ps:=Zon) fun _ _ _ _ _ _=>us1 fun _=>rfl
  have D35:Def0 K mg "most_at_once" Zj3 Zon:=⟨_,_,F35,b35,mg_of X G a35⟩
  have F36:=Zw (st:=Zj2) l36 c36 k36
  have b36:=F36.binds (ps:=Zom) fun _ _ _ _ _ _=>us1 fun _=>rfl
  have D36:Def0 K mg "paid_syn" Zj2 Zom:=⟨_,_,F36,b36,mg_of X G a36⟩
  have F37:=Zw (st:=Zj1) l37 c37 k37
  have b37:=F37.binds (ps:=Zol) fun _ _ _ _ _ _=>us4 fun _ _ _ _=>rfl
  have D37:Def0 K mg "segment_of" Zj1 Zol:=⟨_,_,F37,b37,mg_of X G a37⟩
  have F38:=Zw (st:=Zj0) l38 c38 k38
  have b38:=F38.binds (ps:=Zok) fun _ _ _ _ _ _=>us2 fun _ _=>rfl
  have D38:Def0 K mg "going_as_new" Zj0 Zok:=⟨_,_,F38,b38,mg_of X G a38⟩
  have F39:=Zw (st:=ZjZ) l39 c39 k39
  have b39:=F39.binds (ps:=Zoj) fun _ _ _ _ _ _=>us2 fun _ _=>rfl
  have D39:Def0 K mg "new_syn" ZjZ Zoj:=⟨_,_,F39,b39,mg_of X G a39⟩
  have F40:=Zw (st:=ZjY) l40 c40 k40
  have b40:=F40.binds (ps:=Zoi) fun _ _ _ _ _ _=>us1 fun _=>rfl
  have D40:Def0 K mg "has_more" ZjY Zoi:=⟨_,_,F40,b40,mg_of X G a40⟩
  have F41:=Zw (st:=ZjX) l41 c41 k41
  have b41:=F41.binds (ps:=Zoh) fun _ _ _ _ _ _=>us1 fun _=>rfl
  have D41:Def0 K mg "has_new_data" ZjX Zoh:=⟨_,_,F41,b41,mg_of X G a41⟩
  have F42:=Zw (st:=ZjW) l42 c42 k42
  have b42:=F42.binds (ps:=Zog) fun _ _ _ _ _ _=>us1 fun _=>rfl
  have D42:Def0 K mg "unsent" ZjW Zog:=⟨_,_,F42,b42,mg_of X G a42⟩
  have F43:=Zw (st:=ZjV) l43 c43 k43
  have b43:=F43.binds (ps:=Zof) fun _ _ _ _ _ _=>us1 fun _=>rfl
  have D43:Def0 K mg "has_new_fin" ZjV Zof:=⟨_,_,F43,b43,mg_of X G a43⟩
  have F44:=Zw (st:=ZjU) l44 c44 k44
  have b44:=F44.binds (ps:=Zoe) fun _ _ _ _ _ _=>us2 fun _ _=>rfl
  have D44:Def0 K mg "new_piece" ZjU Zoe:=⟨_,_,F44,b44,mg_of X G a44⟩
  have F45:=Zw (st:=ZjT) l45 c45 k45
  have b45:=F45.binds (ps:=Zod) fun _ _ _ _ _ _=>us2 fun _ _=>rfl
  have D45:Def0 K mg "new_data" ZjT Zod:=⟨_,_,F45,b45,mg_of X G a45⟩
  have F46:=Zw (st:=ZjS) l46 c46 k46
  have b46:=F46.binds (ps:=Zoc) fun _ _ _ _ _ _=>us1 fun _=>rfl
  have D46:Def0 K mg "new_fin" ZjS Zoc:=⟨_,_,F46,b46,mg_of X G a46⟩
  have F47:=Zw (st:=ZjR) l47 c47 k47
  have b47:=F47.binds (ps:=Zob) fun _ _ _ _ _ _=>us2 fun _ _=>rfl
  have D47:Def0 K mg "going_as_probe" ZjR Zob:=⟨_,_,F47,b47,mg_of X G a47⟩
  have F48:=Zw (st:=ZjQ) l48 c48 k48
  have b48:=F48.binds (ps:=Zoa) fun _ _ _ _ _ _=>us1 fun _=>rfl
  have D48:Def0 K mg "going_as_answer" ZjQ Zoa:=⟨_,_,F48,b48,mg_of X G a48⟩
  have F49:=Zw (st:=ZjP) l49 c49 k49
  have b49:=F49.binds (ps:=Zn9) fun _ _ _ _ _ _=>us1 fun _=>rfl
  have D49:Def0 K mg "reset_for" ZjP Zn9:=⟨_,_,F49,b49,mg_of X G a49⟩
  have F50:=Zw (st:=ZjO) l50 c50 k50
  have b50:=F50.binds (ps:=Zn8) fun _ _ _ _ _ _=>us2 fun _ _=>rfl
  have D50:Def0 K mg "owe_reset_for" ZjO Zn8:=⟨_,_,F50,b50,mg_of X G a50⟩
  have F51:=Zw (st:=ZjN) l51 c51 k51
  have b51:=F51.binds (ps:=Zn7) fun _ _ _ _ _ _=>us2 fun _ _=>rfl
  have D51:Def0 K mg "come_to_closed" ZjN Zn7:=⟨_,_,F51,b51,mg_of X G a51⟩
  have F52:=Zw (st:=ZjM) l52 c52 k52
  have b52:=F52.binds (ps:=Zn6) fun _ _ _ _ _ _=>us2 fun _ _=>rfl
  have D52:Def0 K mg "come_to_listen" ZjM Zn6:=⟨_,_,F52,b52,mg_of X G a52⟩
  have F53:=Zw (st:=ZjL) l53 c53 k53
  have b53:=F53.binds (ps:=Zn5) fun _ _ _ _ _ _=>us2 fun _ _=>rfl
  have D53:Def0 K mg "hear_syn" ZjL Zn5:=⟨_,_,F53,b53,mg_of X G a53⟩
  have F54:=Zw (st:=ZjK) l54 c54 k54
  have b54:=F54.binds (ps:=Zn4) fun _ _ _ _ _ _=>us3 fun _ _ _=>rfl
  have D54:Def0 K mg "come_to_syn_sent" ZjK Zn4:=⟨_,_,F54,b54,mg_of X G a54⟩
  have F55:=Zw (st:=ZjJ) l55 c55 k55
  have b55:=F55.binds (ps:=Zn3) fun _ _ _ _ _ _=>us2 fun _ _=>rfl
  have D55:Def0 K mg "answers_syn" ZjJ Zn3:=⟨_,_,F55,b55,mg_of X G a55⟩
  have F56:=Zw (st:=ZjI) l56 c56 k56
  have b56:=F56.binds (ps:=Zn2) fun _ _ _ _ _ _=>us2 fun _ _=>rfl
  have D56:Def0 K mg "refuse" ZjI Zn2:=⟨_,_,F56,b56,mg_of X G a56⟩
  have F57:=Zw (st:=ZjH) l57 c57 k57
  have b57:=F57.binds (ps:=Zn1) fun _ _ _ _ _ _=>us3 fun _ _ _=>rfl
  have D57:Def0 K mg "go_on_from_syn_sent" ZjH Zn1:=⟨_,_,F57,b57,mg_of X G a57⟩
  have F58:=Zw (st:=ZjG) l58 c58 k58
  have b58:=F58.binds (ps:=Zn0) fun _ _ _ _ _ _=>us3 fun _ _ _=>rfl
  have D58:Def0 K mg "arrive" ZjG Zn0:=⟨_,_,F58,b58,mg_of X G a58⟩
  have F59:=Zw (st:=ZjF) l59 c59 k59
  have b59:=F59.binds (ps:=ZnZ) fun _ _ _ _ _ _=>us2 fun _ _=>rfl
  have D59:Def0 K mg "is_for" ZjF ZnZ:=⟨_,_,F59,b59,mg_of X G a59⟩
  have F60:=Zw (st:=ZjE) l60 c60 k60
  have b60:=F60.binds (ps:=ZnY) fun _ _ _ _ _ _=>us3 fun _ _ _=>rfl
  have D60:Def0 K mg "come_to_stream" ZjE ZnY:=⟨_,_,F60,b60,mg_of X G a60⟩
  have F61:=Zw (st:=ZjD) l61 c61 k61
  have b61:=F61.binds (ps:=ZnX) fun _ _ _ _ _ _=>us2 fun _ _=>rfl
  have D61:Def0 K mg "fits" ZjD ZnX:=⟨_,_,F61,b61,mg_of X G a61⟩
  have F62:=Zw (st:=ZjC) l62 c62 k62
  have b62:=F62.binds (ps:=ZnW) fun _ _ _ _ _ _=>us2 fun _ _=>rfl
  have D62:Def0 K mg "is_in_window" ZjC ZnW:=⟨_,_,F62,b62,mg_of X G a62⟩
  have F63:=Zw (st:=ZjB) l63 c63 k63
  have b63:=F63.binds (ps:=ZnV) fun _ _ _ _ _ _=>us3 fun _ _ _=>rfl
  have D63:Def0 K mg "turn_away" ZjB ZnV:=⟨_,_,F63,b63,mg_of X G a63⟩
  have F64:=Zw (st:=ZjA) l64 c64 k64
  have b64:=F64.binds (ps:=ZnU) fun _ _ _ _ _ _=>us2 fun _ _=>rfl
  have D64:Def0 K mg "hear_reset" ZjA ZnU:=⟨_,_,F64,b64,mg_of X G a64⟩
  have F65:=Zw (st:=Zjz) l65 c65 k65
  have b65:=F65.binds (ps:=ZnT) fun _ _ _ _ _ _=>us3 fun _ _ _=>rfl
  have D65:Def0 K mg "goes_on_behind_answer" Zjz ZnT:=⟨_,_,F65,b65,mg_of X G a65⟩
  have F66:=Zw (st:=Zjy) l66 c66 k66
  have b66:=F66.binds (ps:=ZnS) fun _ _ _ _ _ _=>us2 fun _ _=>rfl
  have D66:Def0 K mg "has_answered_syn" Zjy ZnS:=⟨_,_,F66,b66,mg_of X G a66⟩
  have F67:=Zw (st:=Zjx) l67 c67 k67
  have b67:=F67.binds (ps:=ZnR) fun _ _ _ _ _ _=>us2 fun _ _=>rfl
  have D67:Def0 K mg "take_window" Zjx ZnR:=⟨_,_,F67,b67,mg_of X G a67⟩
  have F68:=Zw (st:=Zjw) l68 c68 k68
  have b68:=F68.binds (ps:=ZnQ) fun _ _ _ _ _ _=>us3 fun _ _ _=>rfl
  have D68:Def0 K mg "hear_answer" Zjw ZnQ:=⟨_,_,F68,b68,mg_of X G a68⟩
  have F69:=Zw (st:=Zjv) l69 c69 k69
  have b69:=F69.binds (ps:=ZnP) fun _ _ _ _ _ _=>us2 fun _ _=>rfl
  have D69:Def0 K mg "is_newer" Zjv ZnP:=⟨_,_,F69,b69,mg_of X G a69⟩
  have F70:=Zw (st:=Zju) l70 c70 k70
  have b70:=F70.binds (ps:=ZnO) fun _ _ _ _ _ _=>us2 fun _ _=>rfl
  have D70:Def0 K mg "end_what_is_acknowledged" Zju ZnO:=⟨_,_,F70,b70,mg_of X G a70⟩
  have F71:=Zw (st:=Zjt) l71 c71 k71
  have b71:=F71.binds (ps:=ZnN) fun _ _ _ _ _ _=>us3 fun _ _ _=>rfl
  have D71:Def0 K mg "hear_stream" Zjt ZnN:=⟨_,_,F71,b71,mg_of X G a71⟩
  have F72:=Zw (st:=Zjs) l72 c72 k72
  have b72:=F72.binds (ps:=ZnM) fun _ _ _ _ _ _=>us2 fun _ _=>rfl
  have D72:Def0 K mg "keep_data" Zjs ZnM:=⟨_,_,F72,b72,mg_of X G a72⟩
  have F73:=Zw (st:=Zjr) l73 c73 k73
  have b73:=F73.binds (ps:=ZnL) fun _ _ _ _ _ _=>us2 fun _ _=>rfl
  have D73:Def0 K mg "keep_fin" Zjr ZnL:=⟨_,_,F73,b73,mg_of X G a73⟩
  have F74:=Zw (st:=Zjq) l74 c74 k74
  have b74:=F74.binds (ps:=ZnK) fun _ _ _ _ _ _=>us1 fun _=>rfl
  have D74:Def0 K mg "draw_in_order" Zjq ZnK:=⟨_,_,F74,b74,mg_of X G a74⟩
  have F75:=Zw (st:=Zjp) l75 c75 k75
  have b75:=F75.binds (ps:=ZnJ) fun _ _ _ _ _ _=>us2 fun _ _=>rfl
  have D75:Def0 K mg "hear_fin" Zjp ZnJ:=⟨_,_,F75,b75,mg_of X G a75⟩
  have F76:=Zw (st:=Zjo) l76 c76 k76
  have b76:=F76.binds (ps:=ZnI) fun _ _ _ _ _ _=>us4 fun _ _ _ _=>rfl
  have D76:Def0 K mg "opened" Zjo ZnI:=⟨_,_,F76,b76,mg_of X G a76⟩
  have F77:=Zw (st:=Zjn) l77 c77 k77
  have b77:=F77.binds (ps:=ZnH) fun _ _ _ _ _ _=>us1 fun _=>rfl
  have D77:Def0 K mg "close" Zjn ZnH:=⟨_,_,F77,b77,mg_of X G a77⟩
  have F78:=Zw (st:=Zjm) l78 c78 k78
  have b78:=F78.binds (ps:=ZnG) fun _ _ _ _ _ _=>us1 fun _=>rfl
  have D78:Def0 K mg "abort" Zjm ZnG:=⟨_,_,F78,b78,mg_of X G a78⟩
  have F79:=Zw (st:=Zjl) l79 c79 k79
  have b79:=F79.binds (ps:=ZnF) fun _ _ _ _ _ _=>us2 fun _ _=>rfl
  have D79:Def0 K mg "_law_cell" Zjl ZnF:=⟨_,_,F79,b79,mg_of X G a79⟩
  have F80:=Zw (st:=Zjk) l80 c80 k80
  have b80:=F80.binds (ps:=ZnE) fun _ _ _ _ _ _=>us2 fun _ _=>rfl
  have D80:Def0 K mg "_law_mix" Zjk ZnE:=⟨_,_,F80,b80,mg_of X G a80⟩
  have F81:=Zw (st:=Zjj) l81 c81 k81
  have b81:=F81.binds (ps:=ZnD) fun _ _ _ _ _ _=>us1 fun _=>rfl
  have D81:Def0 K mg "_law_two" Zjj ZnD:=⟨_,_,F81,b81,mg_of X G a81⟩
  have F82:=Zw (st:=Zji) l82 c82 k82
  have b82:=F82.binds (ps:=ZnC) fun _ _ _ _ _ _=>us1 fun _=>rfl
  have D82:Def0 K mg "_law_folded" Zji ZnC:=⟨_,_,F82,b82,mg_of X G a82⟩
  have F83:=Zw (st:=Zjh) l83 c83 k83
  have b83:=F83.binds (ps:=ZnB) fun _ _ _ _ _ _=>us1 fun _=>rfl
  have D83:Def0 K mg "_law_bytes" Zjh ZnB:=⟨_,_,F83,b83,mg_of X G a83⟩
  have F84:=Zw (st:=ZhS) l84 c84 k84
  have b84:=F84.binds (ps:=ZnA) fun _ _ _ _ _ _=>us1 fun _=>rfl
  have D84:Def0 K mg "_law_read" ZhS ZnA:=⟨_,_,F84,b84,mg_of X G a84⟩
  have F85:=Zw (st:=Zjg) l85 c85 k85
  have b85:=F85.binds (ps:=Znz) fun _ _ _ _ _ _=>us1 fun _=>rfl
  have D85:Def0 K mg "_law_byte" Zjg Znz:=⟨_,_,F85,b85,mg_of X G a85⟩
  have F86:=Zw (st:=Zjf) l86 c86 k86
  have b86:=F86.binds (ps:=Zny) fun _ _ _ _ _ _=>us2 fun _ _=>rfl
  have D86:Def0 K mg "_law_plus" Zjf Zny:=⟨_,_,F86,b86,mg_of X G a86⟩
  have F87:=Zw (st:=Zje) l87 c87 k87
  have b87:=F87.binds (ps:=Znx) fun _ _ _ _ _ _=>us1 fun _=>rfl
  have D87:Def0 K mg "_law_first" Zje Znx:=⟨_,_,F87,b87,mg_of X G a87⟩
  have F88:=Zw (st:=Zjd) l88 c88 k88
  have b88:=F88.binds (ps:=Znw) fun _ _ _ _ _ _=>us6 fun _ _ _ _ _ _=>rfl
  have D88:Def0 K mg "_law_segment" Zjd Znw:=⟨_,_,F88,b88,mg_of X G a88⟩
  have F89:=Zw (st:=Zjc) l89 c89 k89
  have b89:=F89.binds (ps:=Znv) fun _ _ _ _ _ _=>us2 fun _ _=>rfl
  have D89:Def0 K mg "_law_given" Zjc Znv:=⟨_,_,F89,b89,mg_of X G a89⟩
  have F90:=Zw (st:=Zjb) l90 c90 k90
  have b90:=F90.binds (ps:=Znu) fun _ _ _ _ _ _=>us4 fun _ _ _ _=>rfl
  have D90:Def0 K mg "_law_opened" Zjb Znu:=⟨_,_,F90,b90,mg_of X G a90⟩
  have F91:=Zw (st:=Zja) l91 c91 k91
  have b91:=F91.binds (ps:=Znt) fun _ _ _ _ _ _=>us6 fun _ _ _ _ _ _=>rfl
  have D91:Def0 K mg "_law_row" Zja Znt:=⟨_,_,F91,b91,mg_of X G a91⟩
  have F92:=Zw (st:=Zi9) l92 c92 k92
  have b92:=F92.binds (ps:=Zns) fun _ _ _ _ _ _=>us3 fun _ _ _=>rfl
  have D92:Def0 K mg "_law_bring" Zi9 Zns:=⟨_,_,F92,b92,mg_of X G a92⟩
  have F93:=Zw (st:=Zg2) l93 c93 k93
  have b93:=F93.binds (ps:=Znr) fun _ _ _ _ _ _=>us1 fun _=>rfl
  have D93:Def0 K mg "law" Zg2 Znr:=⟨_,_,F93,b93,mg_of X G a93⟩
  refine ⟨fnOf "law" "law" (Zp Zg2) (Zn Zg2) (Zf Zg2) .none kV93 dc93 pm93 an93 cd93 ct93,fun s v=>.of_eq rfl,fun base _ _=>?_⟩
  exact ZrC law_true (ZtG F93 D0 D1 D2 D3 D4 D5 D6 D7 D8 D9 D10 D11 D12 D13 D14 D15 D16 D17 D18 D19 D20 D21 D22 D23 D24 D25 D26 D27 D28 D29 D30 D31 D32 D33 D34 D35 D36 D37 D38 D39 D40 D41 D42 D43 D44 D45 D46 D47 D48 D49 D50 D51 D52 D53 D54 D55 D56 D57 D58 D59 D60 D61 D62 D63 D64 D65 D66 D67 D68 D69 D70 D71 D72 D73 D74 D75 D76 D77 D78 D79 D80 D81 D82 D83 D84 D85 D86 D87 D88 D89 D90 D91 D92 g)
theorem Zys {l:OpenLaw} {q:Program} {loose:List Str} {XP:(Str→Option Value)→Heap→Prop} {YP:World→Heap→Prop} {d:DefRec} {K:Params→Frag} (hn:l.most=some 63) (hdf:d.params.defaults=[])
    (hY:∀(w:World) (h:Heap),YP w h→(K w.params).In h)
    (F:∀(w:World) (mg:Str→Option Value) (fa:Addr) (h:Heap),(K w.params).In h→h.Ns mainGlobals mg→mg d.name=some (.ref fa)→
      ∃fd:FuncData,(∀(s:Shared) (u:Value),BindsTo s fd ⟨[u],[]⟩ [("_law_script",u)])∧∀base:Heap,(K w.params).In base→base.Ns mainGlobals mg→FnOk l.prog w (K w.params) mg base CX0 11 fa fd ["_law_script"] (Zl4 (K w.params))) :
    WalkO q loose XP YP l.row.toRowW d [] (fun f vs=>PySem.call f vs):=
  L2.ZqL (n:=63) (k:=11) (x:="_law_script") (CX:=fun _=>CX0) (sp:=fun w=>Zl4 (K w.params)) hn (by decide) hdf ⟨rfl,by decide,by decide⟩ hY F (fun _ H a ns hl hO hS=>⟨a,ns,rfl,hO,hS,hl,fun _=>rfl⟩) fun _ _ _ _ _ z=>z
end My
open PySem PySem.W PyProof.Rows
set_option maxRecDepth 100000 in
set_option maxHeartbeats 0 in
theorem PySem.Challenge.cw_wirestream_k24_time_wait_holds : PySem.Challenge.rw_wirestream_k24_time_wait.Holds := by
  w_on; o_law; k_head; (case hw=>w_witness2)
  k_fill
  refine My.Zys (l:=PySem.Challenge.rw_wirestream_k24_time_wait) rfl rfl (fun w h Y=>PySem.W.kIn_of Y) ?F
  case F=>
    intro w mg fa h KX G hmg
    refine' My.Zt1 KX G hmg ?aC_End ?aC_Pile ?a0 ?i0 ?l0 ?c0 ?k0 ?a1 ?l1 ?c1 ?k1 ?a2 ?l2 ?c2 ?k2 ?a3 ?l3 ?c3 ?k3 ?a4 ?l4 ?c4 ?k4 ?a5 ?l5 ?c5 ?k5 ?a6 ?l6 ?c6 ?k6 ?a7 ?i7 ?l7 ?c7 ?k7 ?a8 ?l8 ?c8 ?k8 ?a9 ?l9 ?c9 ?k9 ?a10 ?l10 ?c10 ?k10 ?a11 ?l11 ?c11 ?k11 ?a12 ?l12 ?c12 ?k12 ?a13 ?l13 ?c13 ?k13 ?a14 ?l14 ?c14 ?k14 ?a15 ?l15 ?c15 ?k15 ?a16 ?l16 ?c16 ?k16 ?a17 ?l17 ?c17 ?k17 ?a18 ?l18 ?c18 ?k18 ?a19 ?l19 ?c19 ?k19 ?a20 ?l20 ?c20 ?k20 ?a21 ?l21 ?c21 ?k21 ?a22 ?l22 ?c22 ?k22 ?a23 ?l23 ?c23 ?k23 ?a24 ?l24 ?c24 ?k24 ?a25 ?l25 ?c25 ?k25 ?a26 ?l26 ?c26 ?k26 ?a27 ?l27 ?c27 ?k27 ?a28 ?l28 ?c28 ?k28 ?a29 ?l29 ?c29 ?k29 ?a30 ?l30 ?c30 ?k30 ?a31 ?l31 ?c31 ?k31 ?a32 ?l32 ?c32 ?k32 ?a33 ?l33 ?c33 ?k33 ?a34 ?l34 ?c34 ?k34 ?a35 ?l35 ?c35 ?k35 ?a36 ?l36 ?c36 ?k36 ?a37 ?l37 ?c37 ?k37 ?a38 ?l38 ?c38 ?k38 ?a39 ?l39 ?c39 ?k39 ?a40 ?l40 ?c40 ?k40 ?a41 ?l41 ?c41 ?k41 ?a42 ?l42 ?c42 ?k42 ?a43 ?l43 ?c43 ?k43 ?a44 ?l44 ?c44 ?k44 ?a45 ?l45 ?c45 ?k45 ?a46 ?l46 ?c46 ?k46 ?a47 ?l47 ?c47 ?k47 ?a48 ?l48 ?c48 ?k48 ?a49 ?l49 ?c49 ?k49 ?a50 ?l50 ?c50 ?k50 ?a51 ?l51 ?c51 ?k51 ?a52 ?l52 ?c52 ?k52 ?a53 ?l53 ?c53 ?k53 ?a54 ?l54 ?c54 ?k54 ?a55 ?l55 ?c55 ?k55 ?a56 ?l56 ?c56 ?k56 ?a57 ?l57 ?c57 ?k57 ?a58 ?l58 ?c58 ?k58 ?a59 ?l59 ?c59 ?k59 ?a60 ?l60 ?c60 ?k60 ?a61 ?l61 ?c61 ?k61 ?a62 ?l62 ?c62 ?k62 ?a63 ?l63 ?c63 ?k63 ?a64 ?l64 ?c64 ?k64 ?a65 ?l65 ?c65 ?k65 ?a66 ?l66 ?c66 ?k66 ?a67 ?l67 ?c67 ?k67 ?a68 ?l68 ?c68 ?k68 ?a69 ?l69 ?c69 ?k69 ?a70 ?l70 ?c70 ?k70 ?a71 ?l71 ?c71 ?k71 ?a72 ?l72 ?c72 ?k72 ?a73 ?l73 ?c73 ?k73 ?a74 ?l74 ?c74 ?k74 ?a75 ?l75 ?c75 ?k75 ?a76 ?l76 ?c76 ?k76 ?a77 ?l77 ?c77 ?k77 ?a78 ?l78 ?c78 ?k78 ?a79 ?l79 ?c79 ?k79 ?a80 ?l80 ?c80 ?k80 ?a81 ?l81 ?c81 ?k81 ?a82 ?l82 ?c82 ?k82 ?a83 ?l83 ?c83 ?k83 ?a84 ?l84 ?c84 ?k84 ?a85 ?l85 ?c85 ?k85 ?a86 ?l86 ?c86 ?k86 ?a87 ?l87 ?c87 ?k87 ?a88 ?l88 ?c88 ?k88 ?a89 ?l89 ?c89 ?k89 ?a90 ?l90 ?c90 ?k90 ?a91 ?l91 ?c91 ?k91 ?a92 ?l92 ?c92 ?k92 ?a93 ?l93 ?c93 ?k93 ?pg_End ?hd_End ?po_End ?sa_End ?mk_End ?kc_End ?pg_Pile ?hd_Pile ?po_Pile ?sa_Pile ?mk_Pile ?kc_Pile ?zA0 ?zA1 ?zA2 ?zA3 ?zA4 ?zA5 ?zA6 ?zA7 ?zA8 ?zA9 ?zA10 ?zA11 ?zA12 ?zA13 ?zA14 ?zA15 ?zA16 ?zA17 ?zA18 ?zA19 ?zA20 ?zA21 ?zA22 ?zA23 ?zA24 ?zA25 ?zg0 ?zg1 ?zg2 ?zg3 ?zg4 ?zg5 ?zg6 ?zg7 ?zg8 ?zg9 ?zg10 ?zg11 ?zg12 ?zg13 ?zg14 ?zg15 ?zg16 ?zg17 ?zg18 ?zg19 ?zg20 ?zg21 ?zg22 ?zg23 ?zg24 ?zg25 ?zg26 ?zg27 ?zg28 ?zg29 ?zg30 ?zg31 ?zg32 ?zg33 ?zg34 ?zg35 ?zg36 ?zg37 ?zg38 ?zg39 ?zg40 ?zg41 ?zg42 ?zg43 ?z_all ?z_bool ?z_enumerate ?z_int ?z_isinstance ?z_len ?z_list ?z_max ?z_min ?z_range ?z_sum ?z_tuple
    case aC_End | aC_Pile | a0 | i0 | l0 | c0 | k0 | a1 | l1 | c1 | k1 | a2 | l2 | c2 | k2 | a3 | l3 | c3 | k3 | a4 | l4 | c4 | k4 | a5 | l5 | c5 | k5 | a6 | l6 | c6 | k6 | a7 | i7 | l7 | c7 | k7 | a8 | l8 | c8 | k8 | a9 | l9 | c9 | k9 | a10 | l10 | c10 | k10 | a11 | l11 | c11 | k11 | a12 | l12 | c12 | k12 | a13 | l13 | c13 | k13 | a14 | l14 | c14 | k14 | a15 | l15 | c15 | k15 | a16 | l16 | c16 | k16 | a17 | l17 | c17 | k17 | a18 | l18 | c18 | k18 | a19 | l19 | c19 | k19 | a20 | l20 | c20 | k20 | a21 | l21 | c21 | k21 | a22 | l22 | c22 | k22 | a23 | l23 | c23 | k23 | a24 | l24 | c24 | k24 | a25 | l25 | c25 | k25 | a26 | l26 | c26 | k26 | a27 | l27 | c27 | k27 | a28 | l28 | c28 | k28 | a29 | l29 | c29 | k29 | a30 | l30 | c30 | k30 | a31 | l31 | c31 | k31 | a32 | l32 | c32 | k32 | a33 | l33 | c33 | k33 | a34 | l34 | c34 | k34 | a35 | l35 | c35 | k35 | a36 | l36 | c36 | k36 | a37 | l37 | c37 | k37 | a38 | l38 | c38 | k38 | a39 | l39 | c39 | k39 | a40 | l40 | c40 | k40 | a41 | l41 | c41 | k41 | a42 | l42 | c42 | k42 | a43 | l43 | c43 | k43 | a44 | l44 | c44 | k44 | a45 | l45 | c45 | k45 | a46 | l46 | c46 | k46 | a47 | l47 | c47 | k47 | a48 | l48 | c48 | k48 | a49 | l49 | c49 | k49 | a50 | l50 | c50 | k50 | a51 | l51 | c51 | k51 | a52 | l52 | c52 | k52 | a53 | l53 | c53 | k53 | a54 | l54 | c54 | k54 | a55 | l55 | c55 | k55 | a56 | l56 | c56 | k56 | a57 | l57 | c57 | k57 | a58 | l58 | c58 | k58 | a59 | l59 | c59 | k59 | a60 | l60 | c60 | k60 | a61 | l61 | c61 | k61 | a62 | l62 | c62 | k62 | a63 | l63 | c63 | k63 | a64 | l64 | c64 | k64 | a65 | l65 | c65 | k65 | a66 | l66 | c66 | k66 | a67 | l67 | c67 | k67 | a68 | l68 | c68 | k68 | a69 | l69 | c69 | k69 | a70 | l70 | c70 | k70 | a71 | l71 | c71 | k71 | a72 | l72 | c72 | k72 | a73 | l73 | c73 | k73 | a74 | l74 | c74 | k74 | a75 | l75 | c75 | k75 | a76 | l76 | c76 | k76 | a77 | l77 | c77 | k77 | a78 | l78 | c78 | k78 | a79 | l79 | c79 | k79 | a80 | l80 | c80 | k80 | a81 | l81 | c81 | k81 | a82 | l82 | c82 | k82 | a83 | l83 | c83 | k83 | a84 | l84 | c84 | k84 | a85 | l85 | c85 | k85 | a86 | l86 | c86 | k86 | a87 | l87 | c87 | k87 | a88 | l88 | c88 | k88 | a89 | l89 | c89 | k89 | a90 | l90 | c90 | k90 | a91 | l91 | c91 | k91 | a92 | l92 | c92 | k92 | a93 | l93 | c93 | k93 | pg_End | hd_End | po_End | sa_End | mk_End | kc_End | pg_Pile | hd_Pile | po_Pile | sa_Pile | mk_Pile | kc_Pile | zA0 | zA1 | zA2 | zA3 | zA4 | zA5 | zA6 | zA7 | zA8 | zA9 | zA10 | zA11 | zA12 | zA13 | zA14 | zA15 | zA16 | zA17 | zA18 | zA19 | zA20 | zA21 | zA22 | zA23 | zA24 | zA25 | zg0 | zg1 | zg2 | zg3 | zg4 | zg5 | zg6 | zg7 | zg8 | zg9 | zg10 | zg11 | zg12 | zg13 | zg14 | zg15 | zg16 | zg17 | zg18 | zg19 | zg20 | zg21 | zg22 | zg23 | zg24 | zg25 | zg26 | zg27 | zg28 | zg29 | zg30 | zg31 | zg32 | zg33 | zg34 | zg35 | zg36 | zg37 | zg38 | zg39 | zg40 | zg41 | zg42 | zg43 | z_all | z_bool | z_enumerate | z_int | z_isinstance | z_len | z_list | z_max | z_min | z_range | z_sum | z_tuple=>k_is
#print axioms PySem.Challenge.cw_wirestream_k24_time_wait_holds
