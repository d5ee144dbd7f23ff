import PyProof.Rows.All
import KE.KDictLaws
import KE.KDictOf
import KE.KFromBytes
import KE.KIsAll
import KE.KItem
import Wide.Meth
import PySem.Challenge.RW_wirestream_k40_two_talks
set_option compiler.extract_closed false
set_option bootstrap.genMatcherCode false
set_option Elab.async false
set_option linter.all false
set_option maxRecDepth 100000
def Ya:=@List.getElem?_eq_some_iff
def Yb:=@List.length_cons
def Yc:=@List.getElem?_set_ne
def Yd:=@Nat.le_refl
def Ye:=@List.size_toArray
def Yf:=@List.map_cons
def Yg:=@List.getElem?_set_self
def Yh:=@Nat.lt_of_lt_of_le
def Yi:=@Bool.false_ne_true
def Yj:=@List.mem_append_right
def Yk:=@List.length_nil
def Yl:=@Bool.and_eq_true
def Ym:=@List.length_append
def Yn:=@List.getElem?_map
def Yo:=@List.map_nil
def Yp:=@Nat.ne_of_lt
def Yq:=@List.mem_cons_of_mem
def Yr:=@List.mem_cons
def Ys:=@List.mem_cons_self
def Yt:=@Nat.le_trans
def Yu:=@List.getElem?_append_left
def Yv:=@List.drop_eq_getElem_cons
def Yw:=@List.lookup_cons
def Yx:=@List.replicate_succ
def Yy:=@List.set_getElem_self
def Yz:=@List.append_assoc
def YA:=@List.getElem?_append_right
def YB:=@Nat.zero_le
def YC:=@List.append_nil
def YD:=@Nat.lt_succ_self
def YE:=@Nat.lt_irrefl
def YF:=@List.any_cons
def YG:=@List.flatten_cons
def YH:=@Nat.not_lt
def YI:=@List.length_filter_le
def YJ:=@List.getElem?_eq_none_iff
def YK:=@List.mem_append
def YL:=@List.length_set
def YM:=@List.filter_cons_of_neg
def YN:=@List.filter_cons_of_pos
def YO:=@List.take_of_length_le
def YQ:=@List.mem_append_left
def YR:=@List.set_append_left
def YS:=@List.all_eq_true
def YT:=@List.mem_filter
def YU:=@List.nil_append
def YV:=@Nat.not_lt_zero
def YW:=@Bool.or_eq_true
def YX:=@List.range_succ
def YY:=@Bool.false_eq_true
def YZ:=@List.getElem?_cons_succ
def Y0:=@Bool.and_false
def Y1:=@List.drop_zero
def Y2:=@List.drop_eq_nil_of_le
def Y3:=@Option.map_eq_none_iff
def Y4:=@List.length_range
def Y5:=@Nat.zero_add
def Y6:=@List.length_replicate
def Y7:=@List.length_singleton
def Y8:=@List.length_take
def Y9:=@List.length_drop
def Ja:=@List.drop_length
def Jb:=@Nat.add_assoc
def Jc:=@List.nodup_cons
def Jd:=@Bool.eq_iff_iff
def Je:=@List.getElem?_range
def Jf:=@Nat.sub_self
def Jg:=@List.mem_range
def Jh:=@Nat.lt_succ_of_lt
def Ji:=@List.getElem?_set
def Jj:=@List.eq_of_mem_replicate
def Jk:=@Bool.and_true
def Jl:=@List.filter_cons
def Jm:=@List.cons_append
def Jn:=@List.not_mem_nil
def Jo:=@Nat.ne_of_gt
def Jp:=@List.of_mem_zip
def Jq:=@Nat.le_succ
namespace L2
open PySem PySem.Spec PyProof.Rows
abbrev Key:=Sum Int Str
def Zi3:Key→Value→Bool
 | .inl k,v=>Value.isInt k v
 | .inr x,v=>Value.isStrOf x v
def ZAq (w:World):Key→Int
 | .inl k=>hashInt k
 | .inr x=>hashStr w x
theorem Zan:∀{k:Key} {v:Value},Zi3 k v=true→(∃i t,k=Sum.inl i∧v=Value.int i t)∨(∃x t,k=Sum.inr x∧v=Value.str x t)
 | .inl i,v,h=>by
  obtain ⟨t,e⟩:=Value.isInt_shape (k:=i) (v:=v) h
  exact .inl ⟨i,t,rfl,e⟩
 | .inr x,v,h=>by
  obtain ⟨t,e⟩:=Value.isStrOf_shape (x:=x) (v:=v) h
  exact .inr ⟨x,t,rfl,e⟩
theorem Znf (i:Int) (t:Tok):Zi3 (.inl i) (.int i t)=true:=by simp [Zi3,Value.isInt]
theorem Zne (x:Str) (t:Tok):Zi3 (.inr x) (.str x t)=true:=by simp [Zi3,Value.isStrOf]
theorem Zu8 (a b:Int):decide ((Sum.inl a:Key)=Sum.inl b)=(a == b):=by
 by_cases e:a=b
 ·subst e; simp
 ·have h:¬(Sum.inl a:Key)=Sum.inl b:=fun q=>e (Sum.inl.inj q)
  rw [decide_eq_false h]
  exact (beq_eq_false_iff_ne.mpr e).symm
theorem Zu5 (a b:Str):decide ((Sum.inr a:Key)=Sum.inr b)=decide (a=b):=by
 by_cases e:a=b
 ·subst e; simp
 ·have h:¬(Sum.inr a:Key)=Sum.inr b:=fun q=>e (Sum.inr.inj q)
  rw [decide_eq_false h,decide_eq_false e]
theorem Zu7 (a:Int) (b:Str):decide ((Sum.inl a:Key)=Sum.inr b)=false:=decide_eq_false (fun q=>nomatch q)
theorem Zu6 (a:Str) (b:Int):decide ((Sum.inr a:Key)=Sum.inl b)=false:=decide_eq_false (fun q=>nomatch q)
def z9 (prog:Program) (w:World):PySem.KeyKind prog w Key where
 is:=Zi3
 hash:=ZAq w
 inj:=fun v a b ha hb=>by
  rcases Zan ha with ⟨i,t,rfl,rfl⟩ | ⟨x,t,rfl,rfl⟩
  ·rcases Zan hb with ⟨j,u,rfl,e⟩ | ⟨y,u,rfl,e⟩
   ·injection e with e1 _; rw [e1]
   ·exact nomatch e
  ·rcases Zan hb with ⟨j,u,rfl,e⟩ | ⟨y,u,rfl,e⟩
   ·exact nomatch e
   ·injection e with e1 _; rw [e1]
 byValue:=fun k v h=>by
  rcases Zan h with ⟨i,t,rfl,rfl⟩ | ⟨x,t,rfl,rfl⟩<;>rfl
 pyHash:=fun hv h=>by
  rcases Zan hv with ⟨i,t,rfl,rfl⟩ | ⟨x,t,rfl,rfl⟩
  ·exact wpAny_pyHash_int h
  ·exact wpAny_pyHash_str h
 eqBool:=fun hu hv h=>by
  rcases Zan hu with ⟨i,t,rfl,rfl⟩ | ⟨x,t,rfl,rfl⟩
  ·rcases Zan hv with ⟨j,u,rfl,rfl⟩ | ⟨y,u,rfl,rfl⟩
   ·rw [Zu8] at h; exact wpAny_eqBool_int h
   ·rw [Zu7] at h; exact SeqAt.EqAt.int_str i t y u _ _ _ _ h
  ·rcases Zan hv with ⟨j,u,rfl,rfl⟩ | ⟨y,u,rfl,rfl⟩
   ·rw [Zu6] at h; exact SeqAt.EqAt.str_int x t j u _ _ _ _ h
   ·rw [Zu5] at h; exact wpAny_eqBool_str h
 «strs»:=fun k x t v h=>by
  rcases Zan h with ⟨i,u,rfl,e⟩ | ⟨y,u,rfl,e⟩
  ·exact nomatch e
  ·injection e with e1 _
   subst e1
   cases v<;>rfl
theorem Zkx (prog:Program) (w:World) (i:Int) (t:Tok):(z9 prog w).is (.inl i) (.int i t)=true:=Znf i t
theorem Zkw (prog:Program) (w:World) (x:Str) (t:Tok):(z9 prog w).is (.inr x) (.str x t)=true:=Zne x t
inductive V where
 | non | bl (b:Bool) | int (i:Int) | str (x:Str) | byt (b:Array UInt8) | flt (b:UInt64) | ref (a:Addr) | ty (n:String)
 deriving DecidableEq
def RelV:V→Value→Prop
 | .non,u=>u=Value.none
 | .bl b,u=>u=Value.bool b
 | .int i,u=>∃t,u=Value.int i t
 | .str x,u=>∃t,u=Value.str x t
 | .byt b,u=>∃t,u=Value.bytes b t
 | .flt b,u=>∃t,u=Value.float b t
 | .ref a,u=>u=Value.ref a
 | .ty n,u=>u=Value.type n
abbrev Vals:List V→List Value→Prop:=Paired RelV
theorem Vals.length {xs:List V} {us:List Value} (r:Vals xs us):xs.length=us.length:=Paired.length r
theorem Vals.get:∀{xs:List V} {us:List Value} {i:Nat} {x:V},Vals xs us→xs[i]?=some x→∃u,us[i]?=some u∧RelV x u
 | _,_,_,_,.nil,e=>by simp at e
 | _,_,0,_,.cons r _,e=>by simp at e; subst e; exact ⟨_,rfl,r⟩
 | _,_,i+1,x,.cons _ t,e=>by
  obtain ⟨u,h1,h2⟩:=Vals.get (i:=i) (x:=x) t (by simpa using e)
  exact ⟨u,by simpa using h1,h2⟩
theorem Vals.append:∀{xs ys:List V} {us ws:List Value},Vals xs us→Vals ys ws→Vals (xs++ys) (us++ws)
 | _,_,_,_,.nil,s=>s
 | _,_,_,_,.cons r t,s=>.cons r (Vals.append t s)
theorem Vals.take:∀{xs:List V} {us:List Value} (n:Nat),Vals xs us→Vals (xs.take n) (us.take n)
 | _,_,0,_=>.nil
 | _,_,_+1,.nil=>.nil
 | _,_,n+1,.cons r t=>.cons r (Vals.take n t)
theorem Vals.drop:∀{xs:List V} {us:List Value} (n:Nat),Vals xs us→Vals (xs.drop n) (us.drop n)
 | _,_,0,r=>r
 | _,_,_+1,.nil=>.nil
 | _,_,n+1,.cons _ t=>Vals.drop n t
theorem Vals.none_of:∀{xs:List V} {us:List Value} {i:Nat},Vals xs us→xs[i]?=none→us[i]?=none:=fun {xs us i} r e=>by
 have h1:=r.length
 have h2:xs.length≤i:=YJ.mp e
 exact YJ.mpr (by omega)
def RelO:Option V→Option Value→Prop
 | some v,some u=>RelV v u
 | none,none=>True
 | _,_=>False
def KV {κ:Type}:List (κ×V)→List (κ×Value)→Prop:=Paired fun (p:κ×V) (q:κ×Value)=>p.1=q.1∧RelV p.2 q.2
def kV:Key→V
 | .inl i=>.int i
 | .inr x=>.str x
inductive HO where
 | lst (xs:List V)
 | tup (xs:List V)
 | dK (kvs:List (Key×V)) | dT (kvs:List (List Key×V))
 | set (S:Int→Bool) (n:Nat)
 | ins (C dx:Addr) (fs:List (Str×V))
 | own (x:Addr)
 | xd (fs:List (Str×V))
 | met (f x:Addr)
 | rng (lo hi:Int)
 | frz (o:Obj) (u:HO)
 | tbl (ps:Array Value)
 | ext (φ:Heap→Prop)
abbrev Hp:=Addr→Option HO
def upd (H:Hp) (a:Addr) (o:HO):Hp:=fun b=>if b=a then some o else H b
theorem zd {H:Hp} {a:Addr} {o:HO}:upd H a o a=some o:=by unfold upd; rw [if_pos rfl]
theorem ZS {H:Hp} {a b:Addr} {o:HO} (h:b≠a):upd H a o b=H b:=by unfold upd; rw [if_neg h]
theorem ZwM {H:Hp} {a b:Addr} {o u:HO} (h:H a=some o) (h':H b=some u) (d:o≠u):a≠b:=by
 intro e; subst e; rw [h] at h'; exact d (Option.some.inj h')
theorem zl {H:Hp} {a b:Addr} {o:HO} (h:H a=some o) (h':H b=none):a≠b:=by
 intro e; subst e; rw [h] at h'; cases h'
section
variable (P:Program) (w:World)
def ObjOk (H:Hp) (h:Heap) (a:Addr):HO→Prop
 | .lst xs=>xs.length≤sizeLine∧∃(its:List Value) (n:Nat),Vals xs its∧h.get? a=some { cls:=.type "list",data:=.seq its.toArray n }
 | .tup xs=>xs.length≤sizeLine∧∃its:List Value,Vals xs its∧IsTup h a its.toArray
 | .dK kvs=>kvs.length≤sizeLine∧(a == sysModules)=false∧∃vs,KV kvs vs∧h.DictOf (z9 P w) a vs
 | .dT kvs=>kvs.length≤sizeLine∧(a == sysModules)=false∧∃xs:List (List Key×Addr×Value),
   Paired (fun (p:List Key×V) (q:List Key×Addr×Value)=>p.1=q.1∧H q.2.1=some (.tup (p.1.map kV))∧RelV p.2 q.2.2) kvs xs∧
   ∃o es ep,h.get? a=some o∧o.ExactDict∧o.data=.dict es ep∧es.toList=xs.map (entryOfKey (tupleKind (z9 P w)))∧(xs.map (·.1)).Nodup
 | .set S n=>h.SetOf (intKind P w) a S n
 | .ins C dx fs=>H dx=some (.own a)∧fs.length≤1000∧dx≠a∧h.get? a=some (PySem.W.instObj C dx)∧
   ∃mA,h.Ns1 dx mA∧(∀f,RelO (fs.lookup f) (mA f))∧PySem.Within mA (fs.map (·.1))
 | .own _=>∃o,h.get? a=some o
 | .xd fs=>∃mA,h.Ns1 a mA∧∀f,RelO (fs.lookup f) (mA f)
 | .rng lo hi=>∃t u v,h.get? a=some { cls:=.type "range",data:=.fields #[.int lo t,.int hi u,.int 1 v] }
 | .frz o u=>h.get? a=some o∧ObjOk H h a u
 | .tbl ps=>h.get? a=some { cls:=.none,data:=.fields ps }
 | .met f x=>h.get? a=some (PySem.W.methodObj (.ref f) (.ref x))
 | .ext φ=>φ h∧(∃o,h.get? a=some o)∧∀h1 h2:Heap,φ h1→(∀o,h1.get? a=some o→h2.get? a=some o)→φ h2
def HOk (H:Hp) (h:Heap):Prop:=∀a o,H a=some o→ObjOk P w H h a o
end
section
variable {P:Program} {w:World} {H H':Hp} {h h':Heap} {a:Addr} {o:HO}
theorem ObjOk.lt (x:ObjOk P w H h a o):a<h.objs.size:=by
 cases o with
 | lst xs=>obtain ⟨_,_,_,_,e⟩:=x; exact Heap.lt_size e
 | tup xs=>obtain ⟨_,_,_,p⟩:=x; exact p.lt
 | dK kvs=>obtain ⟨_,_,_,_,o,_,_,e,_⟩:=x; exact Heap.lt_size e
 | dT kvs=>obtain ⟨_,_,_,_,o,_,_,e,_⟩:=x; exact Heap.lt_size e
 | set S n=>obtain ⟨o,_,_,_,e,_⟩:=x; exact Heap.lt_size e
 | ins C dx fs=>obtain ⟨_,_,_,e,_⟩:=x; exact Heap.lt_size e
 | own y=>obtain ⟨_,e⟩:=x; exact Heap.lt_size e
 | xd fs=>obtain ⟨_,⟨_,_,_,e,_⟩,_⟩:=x; exact Heap.lt_size e
 | rng lo hi=>obtain ⟨_,_,_,e⟩:=x; exact Heap.lt_size e
 | frz ob u=>obtain ⟨e,_⟩:=x; exact Heap.lt_size e
 | tbl ps=>exact Heap.lt_size (show h.get? a=some _ from x)
 | met f y=>exact Heap.lt_size (show h.get? a=some _ from x)
 | ext φ=>obtain ⟨_,⟨_,e⟩,_⟩:=x; exact Heap.lt_size e
theorem Paired.mapP {α β:Type} {F G:α→β→Prop}:∀{l₁:List α} {l₂:List β},Paired F l₁ l₂→(∀a b,F a b→G a b)→Paired G l₁ l₂
 | _,_,.nil,_=>.nil
 | _,_,.cons r t,f=>.cons (f _ _ r) (Paired.mapP t f)
theorem ObjOk.stay (x:ObjOk P w H h a o) (k:∀b u,(b=a∨H b=some (.own a))→h.get? b=some u→h'.get? b=some u)
  (ho:∀b,H b=some (.own a)→H' b=some (.own a)) (ht:∀b xs,H b=some (.tup xs)→H' b=some (.tup xs)):ObjOk P w H' h' a o:=by
 induction o with
 | lst xs=>obtain ⟨z,its,n,r,e⟩:=x; exact ⟨z,its,n,r,k _ _ (.inl rfl) e⟩
 | tup xs=>obtain ⟨z,its,r,ob,e,c⟩:=x; exact ⟨z,its,r,ob,k _ _ (.inl rfl) e,c⟩
 | dK kvs=>obtain ⟨z,y,vs,r,ob,es,ep,e,c⟩:=x; exact ⟨z,y,vs,r,ob,es,ep,k _ _ (.inl rfl) e,c⟩
 | dT kvs=>
  obtain ⟨z,y,xs,r,ob,es,ep,e,c⟩:=x
  exact ⟨z,y,xs,Paired.mapP r fun p q z=>⟨z.1,ht _ _ z.2.1,z.2.2⟩,ob,es,ep,k _ _ (.inl rfl) e,c⟩
 | set S n=>obtain ⟨ob,es,ep,t,e,c⟩:=x; exact ⟨ob,es,ep,t,k _ _ (.inl rfl) e,c⟩
 | ins C dx fs=>
  obtain ⟨d,z,ne,e,mA,⟨od,es,ep,e2,c⟩,r⟩:=x
  exact ⟨ho _ d,z,ne,k _ _ (.inl rfl) e,mA,⟨od,es,ep,k _ _ (.inr d) e2,c⟩,r⟩
 | own y=>obtain ⟨ob,e⟩:=x; exact ⟨ob,k _ _ (.inl rfl) e⟩
 | xd fs=>obtain ⟨mA,⟨od,es,ep,e,c⟩,r⟩:=x; exact ⟨mA,⟨od,es,ep,k _ _ (.inl rfl) e,c⟩,r⟩
 | rng lo hi=>obtain ⟨t,u,v,e⟩:=x; exact ⟨t,u,v,k _ _ (.inl rfl) e⟩
 | frz ob u ih=>obtain ⟨e,q⟩:=x; exact ⟨k _ _ (.inl rfl) e,ih q⟩
 | tbl ps=>
  have e:h.get? a=some { cls:=.none,data:=.fields ps }:=x
  show h'.get? a=some { cls:=.none,data:=.fields ps }
  exact k a _ (.inl rfl) e
 | met f y=>
  have e:h.get? a=some (PySem.W.methodObj (.ref f) (.ref y)):=x
  show h'.get? a=some (PySem.W.methodObj (.ref f) (.ref y))
  exact k a _ (.inl rfl) e
 | ext φ=>obtain ⟨p,⟨o,e⟩,st⟩:=x; exact ⟨st _ _ p fun o q=>k _ _ (.inl rfl) q,⟨o,k _ _ (.inl rfl) e⟩,st⟩
theorem HOk.lt (x:HOk P w H h) (e:H a=some o):a<h.objs.size:=(x a o e).lt
theorem HOk.fresh (x:HOk P w H h) (e:h.objs.size≤a):H a=none:=by
 cases q:H a with
 | none=>rfl
 | some u=>exact absurd (Yh (x.lt q) e) (YE _)
theorem HOk.kept (x:HOk P w H h) (k:∀b u,h.get? b=some u→h'.get? b=some u):HOk P w H h':=fun a o e=>
 (x a o e).stay (fun b u _ q=>k b u q) (fun _ q=>q) fun _ _ q=>q
theorem HOk.laid (x:HOk P w H h) (k:∀b u,h.get? b=some u→h'.get? b=some u) (hp:h.objs.size≤a) (new:ObjOk P w (upd H a o) h' a o):HOk P w (upd H a o) h':=fun b u e=>by
 have hn:=x.fresh hp
 by_cases hb:b=a
 ·subst hb; rw [zd] at e; cases e; exact new
 ·rw [ZS hb] at e
  exact (x b u e).stay (fun c v _ q=>k c v q) (fun c q=>by rw [ZS (zl q hn)]; exact q) fun c xs q=>by rw [ZS (zl q hn)]; exact q
end
def Rd (H:Hp) (a:Addr) (u:HO):Prop:=H a=some u∨∃o,H a=some (.frz o u)
theorem Rd.ok {P:Program} {w:World} {H:Hp} {h:Heap} {a:Addr} {u:HO} (r:Rd H a u) (x:HOk P w H h):ObjOk P w H h a u:=by
 rcases r with r | ⟨o,r⟩
 ·exact x a u r
 ·obtain ⟨_,q⟩:=x a _ r
  exact q
def Mut:Option HO→Prop
 | some (.lst _)=>True
 | some (.dK _)=>True
 | some (.dT _)=>True
 | some (.set _ _)=>True
 | some (.ins _ _ _)=>True
 | some (.ext _)=>True
 | _=>False
section
variable {P:Program} {w:World} {H:Hp} {h h':Heap} {x e:Addr} {o':HO}
theorem HOk.write (ok:HOk P w H h) (mu:Mut (H x)) (he:e=x∨H e=some (.own x)) (k:∀b u,b≠e→h.get? b=some u→h'.get? b=some u) (heo:∃u,h'.get? e=some u)
  (new:ObjOk P w (upd H x o') h' x o'):HOk P w (upd H x o') h':=fun b u q=>by
 have nown:∀c y,H c=some (.own y)→c≠x:=fun c y r z=>by subst z; rw [r] at mu; exact mu
 have ntup:∀c xs,H c=some (.tup xs)→c≠x:=fun c xs r z=>by subst z; rw [r] at mu; exact mu
 by_cases hb:b=x
 ·subst hb; rw [zd] at q; cases q; exact new
 ·rw [ZS hb] at q
  by_cases hbe:b=e
  ·have q':H b=some (.own x):=by
    rcases he with z | z
    ·exact absurd (hbe.trans z) hb
    ·rw [hbe]; exact z
   rw [q] at q'; cases q'
   obtain ⟨v,hv⟩:=heo
   exact ⟨v,by rw [hbe]; exact hv⟩
  ·refine (ok b u q).stay (fun c v hc r=>k c v ?_ r) (fun c r=>by rw [ZS (nown c b r)]; exact r) fun c xs r=>by rw [ZS (ntup c xs r)]; exact r
   rcases hc with rfl | hc
   ·exact hbe
   ·rintro rfl
    rcases he with z | z
    ·exact nown c b hc z
    ·rw [hc] at z; cases z; exact hb rfl
end
structure Un (fs ex:List Addr) (H H':Hp) (h h':Heap):Prop where
 keep:∀b o,h.get? b=some o→H b=none→b∉fs→b∉ex→h'.get? b=some o
 slot:∀b o,h.get? b=some o→H b=none→b∈fs→b∉ex→∃sl,h'.get? b=some { o with slots:=sl }
 free:∀b o,h.get? b=some o→H b=none→b∉ex→H' b=none
 there:∀b o,h.get? b=some o→b∉ex→∃o',h'.get? b=some o'
 tups:∀b xs,H b=some (.tup xs)→H' b=some (.tup xs)
 frzs:∀b o u,H b=some (.frz o u)→H' b=some (.frz o u)
 tbls:∀b ps,H b=some (.tbl ps)→∃more,H' b=some (.tbl (ps++more))
section
variable {fs fs' ex ex':List Addr} {H H1 H2:Hp} {h h1 h2 h':Heap} {a x e:Addr} {o:HO}
theorem Un.any (u:Un fs ex H H1 h h1) {b:Addr} {ob:Obj} (q:h.get? b=some ob) (n:H b=none) (hx:b∉ex):∃sl,h1.get? b=some { ob with slots:=sl }:=by
 by_cases hb:b∈fs
 ·exact u.slot b ob q n hb hx
 ·exact ⟨ob.slots,u.keep b ob q n hb hx⟩
theorem Un.kept (k:∀b u,h.get? b=some u→h'.get? b=some u):Un fs ex H H h h':=
 ⟨fun b ob q _ _ _=>k b ob q,fun b ob q _ _ _=>⟨ob.slots,k b ob q⟩,fun _ _ _ n _=>n,fun b ob q _=>⟨ob,k b ob q⟩,fun _ _ q=>q,fun _ _ _ q=>q,fun _ ps q=>⟨#[],by rw [q]; simp⟩⟩
theorem Un.refl:Un fs ex H H h h:=Un.kept fun _ _ q=>q
theorem Un.laid (k:∀b u,h.get? b=some u→h'.get? b=some u) (hp:h.objs.size≤a) (hn:H a=none):Un fs ex H (upd H a o) h h' where
 keep:=fun b u q _ _ _=>k b u q
 slot:=fun b u q _ _ _=>⟨u.slots,k b u q⟩
 free:=fun b u q n _=>by rw [ZS (Yp (Yh (Heap.lt_size q) hp))]; exact n
 there:=fun b u q _=>⟨u,k b u q⟩
 tups:=fun b xs q=>by rw [ZS (zl q hn)]; exact q
 frzs:=fun b u xs q=>by rw [ZS (zl q hn)]; exact q
 tbls:=fun b ps q=>⟨#[],by rw [ZS (zl q hn),q]; simp⟩
theorem Un.write (mu:Mut (H x)) (he:e=x∨H e=some (.own x)) (k:∀b u,b≠e→h.get? b=some u→h'.get? b=some u) (heo:∃u,h'.get? e=some u):Un fs ex H (upd H x o) h h':=by
 have hx:∀b,H b=none→b≠x:=fun b n z=>by subst z; rw [n] at mu; exact mu
 have hb:∀b,H b=none→b≠e:=fun b n z=>by
  subst z
  rcases he with r | r
  ·exact hx b n r
  ·rw [n] at r; cases r
 have hm:∀b u,H b=some u→¬Mut (some u)→b≠x:=fun b u q nm z=>by subst z; rw [q] at mu; exact nm mu
 refine ⟨fun b u q n _ _=>k b u (hb b n) q,fun b u q n _ _=>⟨u.slots,k b u (hb b n) q⟩,fun b u q n _=>by rw [ZS (hx b n)]; exact n,fun b u q _=>?_,
  fun b xs q=>by rw [ZS (hm b _ q fun z=>z)]; exact q,fun b u xs q=>by rw [ZS (hm b _ q fun z=>z)]; exact q,fun b ps q=>⟨#[],by rw [ZS (hm b _ q fun z=>z),q]; simp⟩⟩
 by_cases hbe:b=e
 ·subst hbe; exact heo
 ·exact ⟨u,k b u hbe q⟩
end
def trk (h:Heap) (H:Hp):List Addr:=(List.range h.objs.size).filter fun a=>(H a).isSome
def ZjF (h:Heap) (H:Hp):Heap:=PySem.W.hideAll h (trk h H)
theorem Zni (h:Heap) (H:Hp):(ZjF h H).objs.size=h.objs.size:=PySem.W.hideAll_size _ _
theorem ZoU {h:Heap} {H:Hp} {b:Addr} {o:Obj} (e:h.get? b=some o) (n:H b=none):(ZjF h H).get? b=some o:=
 PySem.W.hideAll_get _ e fun hm=>by
  have q:(H b).isSome=true:=(YT.mp hm).2
  rw [n] at q; simp at q
theorem Zrx {h:Heap} {H:Hp} {b:Addr} {o:Obj} (e:(ZjF h H).get? b=some o):h.get? b=some o∧H b=none:=by
 have e':h.get? b=some o:=PySem.W.of_hideAll (trk h H) e
 refine ⟨e',?_⟩
 cases q:H b with
 | none=>rfl
 | some x=>
  have hm:b∈trk h H:=YT.mpr ⟨Jg.mpr (Heap.lt_size e'),by simp [q]⟩
  have z:(ZjF h H).get? b=none:=PySem.W.hideAll_none (trk h H) hm
  rw [z] at e; cases e
def Zr8 (g h:Heap) (L:Addr):List (Addr×Obj):=(List.range h.objs.size).filterMap fun a=>if a=L∨(g.get? a).isSome=true then none else (h.get? a).map fun o=>(a,o)
def rest (g h:Heap) (L d:Addr):List (Addr×Obj):=(Zr8 g h L).filter fun p=>decide (p.1≠d)
structure Mod (K:PySem.W.Frag) (mg:Str→Option Value) (base:Heap):Prop where
 kin:K.In base
 glob:base.Ns mainGlobals mg
 blt:∃mb,base.Ns builtinsNs mb∧∀x:Str,x≠"__name__"→mb x=bootBuiltins x
 nolimit:base.NoLimit
structure Cx where
 prog:Program
 w:World
 K:PySem.W.Frag
 mg:Str→Option Value
 base:Heap
 A:Around
 N:List Str
 s₀:Shared
 H₀:Hp
 env:Env
 outer:List Env
 stack:List Env
 ex:List Addr
 fn:Str→Bool
 calm:Bool
 pn:List (Addr×Obj)
 xe:Value→Shared→Prop
def frs (l:List Env):List Addr:=l.filterMap (·.frame)
abbrev Cx.fs (X:Cx):List Addr:=frs X.outer
def Vis (sc:Scope) (x:Str):Prop:=sc.names.lookup x=some .local∨sc.names.lookup x=some .cell∨sc.names.lookup x=some .free
def Loc (sc:Scope) (x:Str):Prop:=sc.names.lookup x=some .local∨sc.names.lookup x=some .cell
def ZAP (env:Env) (h:Heap) (m:Str→Option Value) (x:Str) (u:Value):Prop:=
 (env.kindOf x=some .local∧m x=some u)∨((env.kindOf x=some .cell∨env.kindOf x=some .free)∧∃c,env.cells.lookup x=some c∧h.IsCell c (some u))
structure Cx.Ok (X:Cx):Prop where
 mod:Mod X.K X.mg X.base
 kind:X.env.scope.kind=.function
 glob:X.env.globals=mainGlobals
 blt:X.env.builtins=builtinsNs
 above:X.s₀.heap.objs.size≤X.env.locals
 inj:∀x y c,X.env.cells.lookup x=some c→X.env.cells.lookup y=some c→x=y
 has:∀x,(X.env.kindOf x=some .cell∨X.env.kindOf x=some .free)→∃c,X.env.cells.lookup x=some c
 cab:∀x c,X.fn x=true→X.env.cells.lookup x=some c→X.s₀.heap.objs.size≤c
 hd:X.calm=true→X.A.handled=none
 frames:X.A.frames=some X.stack
 stk:X.stack=X.outer∨(X.stack=X.env::X.outer∧X.env.frame=some X.env.locals)
 exf:∀b∈X.ex,b≠X.env.locals∧∀x c,X.env.cells.lookup x=some c→c≠b
 bs:∀b o,X.base.get? b=some o→X.s₀.heap.get? b=some o∧X.H₀ b=none
 bsz:X.base.objs.size≤X.s₀.heap.objs.size
 noex:∀b o,X.base.get? b=some o→b∉X.ex
 exfs:∀b∈X.ex,b∉X.fs
 funs:X.s₀.heap.FunFrames X.base X.outer
 frf:∀b∈X.fs,X.H₀ b=none
structure Inv (X:Cx) (pins:List (Addr×Obj)) (σ:List (Option V)) (H:Hp) (s:Shared):Prop where
 ok:X.Ok
 os:s.os=X.s₀.os
 bare:AllBare s.gens
 base:Un X.fs X.ex X.H₀ H X.s₀.heap s.heap
 loc:∃m,s.heap.Ns X.env.locals m∧∀(i:Nat) (x:Str) (v:V),X.N[i]?=some x→σ[i]?=some (some v)→Vis X.env.scope x→∃u,RelV v u∧ZAP X.env s.heap m x u
 cell:∀x c,X.env.cells.lookup x=some c→∃v,s.heap.IsCell c v
 free:H X.env.locals=none
 freeC:∀x c,X.env.cells.lookup x=some c→H c=none
 pin:∀p∈X.pn++pins,s.heap.get? p.1=some p.2∧H p.1=none∧p.1≠X.env.locals∧p.1∉X.fs∧∀v,p.2.data≠.cell v
 hok:HOk X.prog X.w H s.heap
 len:σ.length=X.N.length
section
variable {X:Cx} {pins:List (Addr×Obj)} {σ:List (Option V)} {H H':Hp} {s:Shared} {h':Heap}
theorem Cx.Ok.nofr (ok:X.Ok) {b:Addr} {o:Obj} (e:X.base.get? b=some o):b∉X.fs:=fun hb=>by
 have:=(ok.funs.mem hb).1
 rw [e] at this; cases this
theorem Inv.bs (I:Inv X pins σ H s):∀b o,X.base.get? b=some o→s.heap.get? b=some o∧H b=none:=fun b o e=>
 ⟨I.base.keep b o (I.ok.bs b o e).1 (I.ok.bs b o e).2 (I.ok.nofr e) (I.ok.noex b o e),I.base.free b o (I.ok.bs b o e).1 (I.ok.bs b o e).2 (I.ok.noex b o e)⟩
theorem Inv.bk (I:Inv X pins σ H s):∀b o,X.base.get? b=some o→s.heap.get? b=some o:=fun b o e=>(I.bs b o e).1
theorem Inv.mod (I:Inv X pins σ H s):Mod X.K X.mg X.base:=I.ok.mod
theorem Inv.kIn (I:Inv X pins σ H s):X.K.In s.heap:=I.ok.mod.kin.keeps I.bk
theorem Inv.lt (I:Inv X pins σ H s):X.env.locals<s.heap.objs.size:=let ⟨_,hn,_⟩:=I.loc; hn.lt
theorem Inv.sz (I:Inv X pins σ H s):X.s₀.heap.objs.size≤s.heap.objs.size:=Yt I.ok.above (Nat.le_of_lt I.lt)
theorem Inv.nofs (I:Inv X pins σ H s) {a:Addr} (h:s.heap.objs.size≤a):a∉X.fs:=fun hb=>by
 obtain ⟨_,o,ho,_⟩:=I.ok.funs.mem hb
 exact absurd (Yh (Heap.lt_size ho) (Yt I.sz h)) (YE _)
theorem Inv.cne (I:Inv X pins σ H s):∀x c,X.env.cells.lookup x=some c→c≠X.env.locals:=fun x c e z=>by
 obtain ⟨v,o,ho,hd⟩:=I.cell x c e
 obtain ⟨m,⟨o',es,ep,ho',hd',_⟩,_⟩:=I.loc
 rw [z,ho'] at ho; cases ho; rw [hd'] at hd; cases hd
theorem Inv.funs (I:Inv X pins σ H s):s.heap.FunFrames X.base X.outer:=by
 have all:∀(l:List Env),(∀b∈frs l,b∈X.fs)→X.s₀.heap.FunFrames X.base l→s.heap.FunFrames X.base l:=by
  intro l
  induction l with
  | nil=>intro _ _; trivial
  | cons env r ih=>
   intro hs hl
   obtain ⟨hk,⟨L,o,hf,hn,ho,hd⟩,hr⟩:=hl
   have hL:L∈X.fs:=hs L (by unfold frs; rw [List.filterMap_cons,hf]; exact Ys)
   obtain ⟨sl,e⟩:=I.base.slot L o ho (I.ok.frf L hL) hL fun z=>I.ok.exfs L z hL
   exact ⟨hk,⟨L,_,hf,hn,e,hd⟩,ih (fun b hb=>hs b (by unfold frs; rw [List.filterMap_cons,hf]; exact Yq _ hb)) hr⟩
 exact all X.outer (fun _ hb=>hb) I.ok.funs
theorem Inv.stack (I:Inv X pins σ H s):s.heap.FunFrames X.base X.stack:=by
 rcases I.ok.stk with e | ⟨e,hf⟩
 ·rw [e]; exact I.funs
 ·rw [e]
  obtain ⟨m,hn,_⟩:=I.loc
  refine .cons (by rw [I.ok.kind]; decide) hf hn ?_ I.funs
  exact Heap.get?_none_of_le (Yt I.ok.bsz I.ok.above)
theorem Inv.stkSub (I:Inv X pins σ H s):∀b∈frs X.stack,b∈X.env.locals::X.fs:=fun b hb=>by
 rcases I.ok.stk with e | ⟨e,hf⟩
 ·rw [e] at hb; exact Yq _ hb
 ·rw [e] at hb
  unfold frs at hb
  rw [List.filterMap_cons,hf] at hb
  exact hb
theorem Inv.stkFree (I:Inv X pins σ H s):∀b∈frs X.stack,H b=none:=fun b hb=>by
 rcases Yr.mp (I.stkSub b hb) with e | hb
 ·rw [e]; exact I.free
 ·obtain ⟨_,o,ho,_⟩:=I.ok.funs.mem hb
  exact I.base.free b o ho (I.ok.frf b hb) fun z=>I.ok.exfs b z hb
theorem Inv.step {g':Array GenState} {t':Nat} {d':Drawn} {ch:List Addr} (I:Inv X pins σ H s)
  (hch:∀b∈ch,(b∈X.ex∨X.s₀.heap.objs.size≤b)∧b≠X.env.locals∧(∀x c,X.env.cells.lookup x=some c→c≠b)∧∀p∈X.pn++pins,p.1≠b)
  (keep:∀b o,b≠X.env.locals→b∉X.fs→b∉ch→s.heap.get? b=some o→H b=none→h'.get? b=some o)
  (slot:∀b o,b≠X.env.locals→b∈X.fs→b∉ch→s.heap.get? b=some o→H b=none→∃sl,h'.get? b=some { o with slots:=sl }) (free:∀b o,b∉ch→s.heap.get? b=some o→H b=none→H' b=none)
  (there:∀b o,b∉ch→s.heap.get? b=some o→∃o',h'.get? b=some o')
  (tups:∀b xs,H b=some (.tup xs)→H' b=some (.tup xs)) (frzs:∀b o u,H b=some (.frz o u)→H' b=some (.frz o u)) (tbls:∀b ps,H b=some (.tbl ps)→∃more,H' b=some (.tbl (ps++more)))
  (ns:∀m,s.heap.Ns X.env.locals m→h'.Ns X.env.locals m) (hok:HOk X.prog X.w H' h') (hg:AllBare g') :
  Inv X pins σ H' { s with heap:=h',gens:=g',drawn:=d',toks:=t' }:=by
 have neL:∀b o,X.s₀.heap.get? b=some o→b≠X.env.locals:=fun b o e=>Yp (Yh (Heap.lt_size e) I.ok.above)
 have neC:∀b o,X.s₀.heap.get? b=some o→b∉X.ex→b∉ch:=fun b o e hx hb=>by
  rcases (hch b hb).1 with z | z
  ·exact hx z
  ·exact absurd (Yh (Heap.lt_size e) z) (YE _)
 have cellK:∀x c,X.env.cells.lookup x=some c→∀v,s.heap.IsCell c v→h'.IsCell c v:=fun x c e v ⟨o,ho,hd⟩=>by
  have nch:c∉ch:=fun z=>(hch c z).2.2.1 x c e rfl
  by_cases hc:c∈X.fs
  ·obtain ⟨sl,q⟩:=slot c o (I.cne x c e) hc nch ho (I.freeC x c e)
   exact ⟨_,q,hd⟩
  ·exact ⟨o,keep c o (I.cne x c e) hc nch ho (I.freeC x c e),hd⟩
 refine ⟨I.ok,I.os,hg,⟨fun b o e n hb hx=>?_,fun b o e n hb hx=>?_,fun b o e n hx=>?_,fun b o e hx=>?_,fun b xs e=>tups b xs (I.base.tups b xs e),fun b o xs e=>frzs b o xs (I.base.frzs b o xs e),fun b ps e=>?_⟩,?_,fun x c e=>?_,?_,fun x c e=>?_,fun p hp=>?_,hok,I.len⟩
 ·exact keep b o (neL b o e) hb (neC b o e hx) (I.base.keep b o e n hb hx) (I.base.free b o e n hx)
 ·obtain ⟨sl,e1⟩:=I.base.slot b o e n hb hx
  obtain ⟨sl',e2⟩:=slot b _ (neL b o e) hb (neC b o e hx) e1 (I.base.free b o e n hx)
  exact ⟨sl',e2⟩
 ·obtain ⟨o',e1⟩:=I.base.there b o e hx
  exact free b o' (neC b o e hx) e1 (I.base.free b o e n hx)
 ·obtain ⟨o',e1⟩:=I.base.there b o e hx
  exact there b o' (neC b o e hx) e1
 ·obtain ⟨m1,e1⟩:=I.base.tbls b ps e
  obtain ⟨m2,e2⟩:=tbls b _ e1
  exact ⟨m1++m2,by rw [e2,Array.append_assoc]⟩
 ·obtain ⟨m,hn,hl⟩:=I.loc
  refine ⟨m,ns m hn,fun i x v e1 e2 e3=>?_⟩
  obtain ⟨u,r,l⟩:=hl i x v e1 e2 e3
  refine ⟨u,r,?_⟩
  rcases l with l | ⟨k,c,e,z⟩
  ·exact .inl l
  ·exact .inr ⟨k,c,e,cellK x c e _ z⟩
 ·obtain ⟨v,z⟩:=I.cell x c e
  exact ⟨v,cellK x c e v z⟩
 ·obtain ⟨m,⟨o,_,_,ho,_⟩,_⟩:=I.loc
  exact free _ o (fun z=>(hch _ z).2.1 rfl) ho I.free
 ·obtain ⟨v,o,ho,hd⟩:=I.cell x c e
  exact free c o (fun z=>(hch c z).2.2.1 x c e rfl) ho (I.freeC x c e)
 ·obtain ⟨e,n,ne,nf,d⟩:=I.pin p hp
  have nch:p.1∉ch:=fun z=>(hch p.1 z).2.2.2 p hp rfl
  exact ⟨keep p.1 p.2 ne nf nch e n,free p.1 p.2 nch e n,ne,nf,d⟩
theorem Inv.un {t':Nat} (I:Inv X pins σ H s) (u:Un X.fs [] H H' s.heap h') (hok:HOk X.prog X.w H' h'):Inv X pins σ H' { s with heap:=h',toks:=t' }:=by
 obtain ⟨m,⟨o,es,ep,ho,r⟩,_⟩:=id I.loc
 obtain ⟨sl,hL⟩:=u.any ho I.free (by simp)
 exact I.step (g':=s.gens) (d':=s.drawn) (ch:=[]) (fun _ z=>nomatch z) (fun b o _ hb _ e n=>u.keep b o e n hb (by simp)) (fun b o _ hb _ e n=>u.slot b o e n hb (by simp)) (fun b o _ e n=>u.free b o e n (by simp)) (fun b o _ e=>u.there b o e (by simp)) u.tups u.frzs u.tbls (fun m' hm=>by
  obtain ⟨o',es',ep',ho',r'⟩:=hm
  rw [ho] at ho'; cases ho'
  exact ⟨_,es',ep',hL,r'⟩) hok I.bare
theorem Inv.call {g':Array GenState} {t':Nat} {d':Drawn} {ch:List Addr} (I:Inv X pins σ H s) (u:Un (frs X.stack) ch H H' s.heap h') (hok:HOk X.prog X.w H' h') (hg:AllBare g')
  (hch:∀b∈ch,(b∈X.ex∨X.s₀.heap.objs.size≤b)∧b≠X.env.locals∧(∀x c,X.env.cells.lookup x=some c→c≠b)∧∀p∈X.pn++pins,p.1≠b) :
  Inv X pins σ H' { s with heap:=h',gens:=g',drawn:=d',toks:=t' }:=by
 obtain ⟨m,⟨o,es,ep,ho,r⟩,_⟩:=id I.loc
 obtain ⟨sl,hL⟩:=u.any ho I.free fun z=>(hch _ z).2.1 rfl
 exact I.step (ch:=ch) hch (fun b o hL hb hc e n=>u.keep b o e n (fun z=>(Yr.mp (I.stkSub b z)).elim hL hb) hc) (fun b o _ _ hc e n=>u.any e n hc) (fun b o hc e n=>u.free b o e n hc) (fun b o hc e=>u.there b o e hc) u.tups u.frzs u.tbls (fun m' hm=>by
  obtain ⟨o',es',ep',ho',r'⟩:=hm
  rw [ho] at ho'; cases ho'
  exact ⟨_,es',ep',hL,r'⟩) hok hg
theorem Inv.turned {t':Nat} {it:Addr} (I:Inv X pins σ H s) (k:∀b o,b≠it→s.heap.get? b=some o→h'.get? b=some o) (hn:H it=none) (hL:it≠X.env.locals)
  (h1:it∈X.ex∨X.s₀.heap.objs.size≤it) (h2:∀x c,X.env.cells.lookup x=some c→c≠it) (h3:∀p∈X.pn++pins,p.1≠it):Inv X pins σ H { s with heap:=h',toks:=t' }:=by
 have nit:∀b u,H b=some u→b≠it:=fun b u e z=>by rw [z,hn] at e; cases e
 refine I.step (g':=s.gens) (d':=s.drawn) (ch:=[it]) (fun b hb=>?_) (fun b o _ _ hc e _=>k b o (fun z=>hc (by simp [z])) e) (fun b o _ _ hc e _=>⟨o.slots,k b o (fun z=>hc (by simp [z])) e⟩) (fun _ _ _ _ n=>n)
  (fun b o hc e=>⟨o,k b o (fun z=>hc (by simp [z])) e⟩) (fun _ _ e=>e) (fun _ _ _ e=>e) (fun b ps e=>⟨#[],by rw [e]; simp⟩) (fun m hm=>?_) (fun b u e=>?_) I.bare
 ·have e:b=it:=by simpa using hb
  subst e
  exact ⟨h1,hL,h2,h3⟩
 ·obtain ⟨o,es,ep,ho,r⟩:=hm
  exact ⟨o,es,ep,k _ o (Ne.symm hL) ho,r⟩
 ·refine (I.hok b u e).stay (fun c v hc q=>k c v ?_ q) (fun _ q=>q) fun _ _ q=>q
  rcases hc with z | z
  ·rw [z]; exact nit b u e
  ·exact nit c _ z
theorem Inv.tok (I:Inv X pins σ H s) (t:Nat):Inv X pins σ H { s with toks:=t }:=I.un (h':=s.heap) (t':=t) Un.refl I.hok
theorem Inv.kept {t':Nat} (I:Inv X pins σ H s) (k:∀b u,s.heap.get? b=some u→h'.get? b=some u):Inv X pins σ H { s with heap:=h',toks:=t' }:=I.un (Un.kept k) (I.hok.kept k)
theorem Inv.laid {a:Addr} {o:HO} {t':Nat} (I:Inv X pins σ H s) (k:∀b u,s.heap.get? b=some u→h'.get? b=some u) (hp:s.heap.objs.size≤a) (new:ObjOk X.prog X.w (upd H a o) h' a o) :
  Inv X pins σ (upd H a o) { s with heap:=h',toks:=t' }:=I.un (Un.laid k hp (I.hok.fresh hp)) (I.hok.laid k hp new)
theorem Inv.write {x e:Addr} {o:HO} {t':Nat} (I:Inv X pins σ H s) (mu:Mut (H x)) (he:e=x∨H e=some (.own x)) (k:∀b u,b≠e→s.heap.get? b=some u→h'.get? b=some u) (heo:∃u,h'.get? e=some u)
  (new:ObjOk X.prog X.w (upd H x o) h' x o):Inv X pins σ (upd H x o) { s with heap:=h',toks:=t' }:=I.un (Un.write mu he k heo) (I.hok.write mu he k heo new)
theorem Inv.pins_of {pins':List (Addr×Obj)} (I:Inv X pins σ H s) (h:∀p∈pins',s.heap.get? p.1=some p.2∧H p.1=none∧p.1≠X.env.locals∧p.1∉X.fs∧∀v,p.2.data≠.cell v):Inv X pins' σ H s:=
 ⟨I.ok,I.os,I.bare,I.base,I.loc,I.cell,I.free,I.freeC,fun p hp=>(YK.mp hp).elim (fun z=>I.pin p (YQ _ z)) (h p),I.hok,I.len⟩
theorem Zkt {N:List Str} (hN:N.Nodup) {i j:Nat} {x:Str} (a:N[i]?=some x) (b:N[j]?=some x):i=j:=by
 obtain ⟨h1,e1⟩:=Ya.mp a
 obtain ⟨h2,e2⟩:=Ya.mp b
 exact (List.getElem_inj hN).mp (e1.trans e2.symm)
theorem ZmU {M:Model} {A:Around} {E:Value→Shared→Prop} {i:Nat} {x:Str} {v:V} {u:Value} {Q:Unit→Shared→Prop} (I:Inv X pins σ H s) (hN:X.N.Nodup) (hi:X.N[i]?=some x) (hx:Loc X.env.scope x) (r:RelV v u)
  (h:∀s',Inv X pins (σ.set i (some v)) H s'→(∃a,Heap.SameBut a s.heap s'.heap∧(a=X.env.locals∨X.env.cells.lookup x=some a))→Q () s') (hf:X.fn x=true∨X.env.scope.names.lookup x=some .local:=by first | exact .inl rfl | exact .inr rfl | assumption):wpAny M A (storeName X.env x u) Q E s:=by
 obtain ⟨m,hn,hl⟩:=id I.loc
 have hcls:(X.env.scope.kind == .class || (X.env.scope.kind == .module && X.env.locals != X.env.globals))=false:=by rw [I.ok.kind]; rfl
 have hiσ:i < σ.length:=by rw [I.len]; exact (Ya.mp hi).1
 have cne:=I.cne
 have tracked:∀{a:Addr} {h':Heap},(∃o,s.heap.get? a=some o∧H a=none)→Heap.SameBut a s.heap h'→HOk X.prog X.w H h':=fun {a h'} ha hs b ob e=>by
  obtain ⟨_,_,hfree⟩:=ha
  refine (I.hok b ob e).stay (fun c w' hc q=>(hs.2 c ?_).trans q) (fun _ q=>q) fun _ _ q=>q
  rintro rfl
  rcases hc with rfl | hc
  ·rw [hfree] at e; cases e
  ·rw [hfree] at hc; cases hc
 rcases hx with hk | hk
 ·refine wpAny_storeName_local hk hn (fun h' hn' hs=>?_) hcls
  obtain ⟨oL,_,_,hoL,_⟩:=id hn
  refine h _ ⟨I.ok,I.os,I.bare,⟨fun b o e n hb hx=>?_,fun b o e n hb hx=>?_,I.base.free,fun b o e hx=>?_,I.base.tups,I.base.frzs,I.base.tbls⟩,⟨_,hn',fun j y v' e1 e2 e3=>?_⟩,fun y c e=>?_,I.free,I.freeC,fun p hp=>?_,tracked ⟨oL,hoL,I.free⟩ hs,by simpa using I.len⟩ ⟨_,hs,.inl rfl⟩
  ·exact (hs.2 b (Yp (Yh (Heap.lt_size e) I.ok.above))).trans (I.base.keep b o e n hb hx)
  ·obtain ⟨sl,e1⟩:=I.base.slot b o e n hb hx
   exact ⟨sl,(hs.2 b (Yp (Yh (Heap.lt_size e) I.ok.above))).trans e1⟩
  ·obtain ⟨o',e1⟩:=I.base.there b o e hx
   exact ⟨o',(hs.2 b (Yp (Yh (Heap.lt_size e) I.ok.above))).trans e1⟩
  ·by_cases hj:j=i
   ·subst hj
    rw [hi] at e1; cases e1
    rw [Yg hiσ] at e2
    cases e2
    exact ⟨u,r,.inl ⟨hk,by simp⟩⟩
   ·rw [Yc (Ne.symm hj)] at e2
    obtain ⟨u',r',q⟩:=hl j y v' e1 e2 e3
    refine ⟨u',r',?_⟩
    rcases q with ⟨k,e⟩ | ⟨k,c,e,z⟩
    ·refine .inl ⟨k,?_⟩
     have:y≠x:=fun e=>hj (Zkt hN e1 (e ▸ hi))
     simp [this,e]
    ·exact .inr ⟨k,c,e,z.sameBut hs (cne y c e)⟩
  ·obtain ⟨w',z⟩:=I.cell y c e
   exact ⟨w',z.sameBut hs (cne y c e)⟩
  ·obtain ⟨e,n,ne,nf,d⟩:=I.pin p hp
   exact ⟨(hs.2 p.1 ne).trans e,n,ne,nf,d⟩
 ·have hfn:X.fn x=true:=by
   rcases hf with z | z
   ·exact z
   ·rw [z] at hk; cases hk
  obtain ⟨c,hc⟩:=I.ok.has x (.inl hk)
  obtain ⟨w',z⟩:=I.cell x c hc
  refine wpAny_storeName_cell I.ok.kind hk hc z (fun h' hc' hs=>?_)
  obtain ⟨oc,hoc,hocd⟩:=id z
  refine h { s with heap:=h' } ⟨I.ok,I.os,I.bare,⟨fun b o e n hb hx=>?_,fun b o e n hb hx=>?_,I.base.free,fun b o e hx=>?_,I.base.tups,I.base.frzs,I.base.tbls⟩,⟨m,hn.sameBut hs (Ne.symm (cne x c hc)),fun j y v' e1 e2 e3=>?_⟩,fun y c' e=>?_,I.free,I.freeC,fun p hp=>?_,tracked ⟨oc,hoc,I.freeC x c hc⟩ hs,by simpa using I.len⟩ ⟨c,hs,.inr hc⟩
  ·exact (hs.2 b (Yp (Yh (Heap.lt_size e) (I.ok.cab x c hfn hc)))).trans (I.base.keep b o e n hb hx)
  ·obtain ⟨sl,e1⟩:=I.base.slot b o e n hb hx
   exact ⟨sl,(hs.2 b (Yp (Yh (Heap.lt_size e) (I.ok.cab x c hfn hc)))).trans e1⟩
  ·obtain ⟨o',e1⟩:=I.base.there b o e hx
   exact ⟨o',(hs.2 b (Yp (Yh (Heap.lt_size e) (I.ok.cab x c hfn hc)))).trans e1⟩
  ·by_cases hj:j=i
   ·subst hj
    rw [hi] at e1; cases e1
    rw [Yg hiσ] at e2
    cases e2
    exact ⟨u,r,.inr ⟨.inl hk,c,hc,hc'⟩⟩
   ·rw [Yc (Ne.symm hj)] at e2
    obtain ⟨u',r',q⟩:=hl j y v' e1 e2 e3
    refine ⟨u',r',?_⟩
    rcases q with q | ⟨k,c',e,z'⟩
    ·exact .inl q
    ·refine .inr ⟨k,c',e,z'.sameBut hs ?_⟩
     rintro rfl
     exact hj (Zkt hN e1 (I.ok.inj _ _ _ e hc ▸ hi))
  ·by_cases hcc:c'=c
   ·subst hcc; exact ⟨_,hc'⟩
   ·obtain ⟨w2,z2⟩:=I.cell y c' e
    exact ⟨w2,z2.sameBut hs hcc⟩
  ·obtain ⟨e,n,ne,nf,d⟩:=I.pin p hp
   refine ⟨(hs.2 p.1 ?_).trans e,n,ne,nf,d⟩
   intro q
   rw [q,hoc] at e
   have q':oc=p.2:=Option.some.inj e
   exact d w' (by rw [←q']; exact hocd)
theorem Zj9 {M:Model} {A:Around} {E:Value→Shared→Prop} {i:Nat} {x:Str} {v:V} {u:Value} {Q:Unit→Shared→Prop} (I:Inv X pins σ H s) (hN:X.N.Nodup) (hi:X.N[i]?=some x) (hx:Loc X.env.scope x) (r:RelV v u)
  (h:∀s',Inv X pins (σ.set i (some v)) H s'→Q () s') (hf:X.fn x=true∨X.env.scope.names.lookup x=some .local:=by first | exact .inl rfl | exact .inr rfl | assumption):wpAny M A (storeName X.env x u) Q E s:=
 ZmU I hN hi hx r (fun s' I' _=>h s' I') hf
theorem Inv.call' {s':Shared} {ch:List Addr} (I:Inv X pins σ H s) (ho:s'.os=s.os) (u:Un (frs X.stack) ch H H' s.heap s'.heap) (hok:HOk X.prog X.w H' s'.heap) (hg:AllBare s'.gens)
  (hch:∀b∈ch,(b∈X.ex∨X.s₀.heap.objs.size≤b)∧b≠X.env.locals∧(∀x c,X.env.cells.lookup x=some c→c≠b)∧∀p∈X.pn++pins,p.1≠b):Inv X pins σ H' s':=by
 obtain ⟨h',g',d',t',o'⟩:=s'
 have e:o'=s.os:=ho
 subst e
 exact I.call (g':=g') (t':=t') (d':=d') u hok hg hch
end
abbrev XK:=Value→Option Addr→Hp→Prop
abbrev St:=List (Option V)
abbrev VK:=V→Hp→Prop
abbrev TE:=St→Hp→VK→Prop
abbrev TT:=St→Hp→(Bool→Hp→Prop)→Prop
abbrev TA:=St→Hp→(List V→Hp→Prop)→Prop
structure Zfy where
 nx:St→Hp→Prop
 rt:VK
 bk:St→Hp→Prop:=fun _ _=>False
 ct:St→Hp→Prop:=fun _ _=>False
abbrev TS:=Zfy→St→Hp→Prop
def EP (X:Cx) (pins:List (Addr×Obj)) (σ:St) (Q:VK) (u:Value) (s':Shared):Prop:=∃v H',Inv X pins σ H' s'∧RelV v u∧Q v H'
def TP (X:Cx) (pins:List (Addr×Obj)) (σ:St) (Q:Bool→Hp→Prop) (b:Bool) (s':Shared):Prop:=∃H',Inv X pins σ H' s'∧Q b H'
def AP (X:Cx) (pins:List (Addr×Obj)) (σ:St) (Q:List V→Hp→Prop) (us:List Value) (s':Shared):Prop:=∃vs H',Inv X pins σ H' s'∧Vals vs us∧Q vs H'
def SP (X:Cx) (pins:List (Addr×Obj)) (D:Zfy) (f:Flow) (s':Shared):Prop:=
 match f with
 | .next=>∃σ' H',Inv X pins σ' H' s'∧D.nx σ' H'
 | .brk=>∃σ' H',Inv X pins σ' H' s'∧D.bk σ' H'
 | .cont=>∃σ' H',Inv X pins σ' H' s'∧D.ct σ' H'
 | .ret u=>∃v σ' H',Inv X pins σ' H' s'∧RelV v u∧D.rt v H'
def PE (X:Cx) (e:Expr) (t:TE):Prop:=
 ∀(pins:List (Addr×Obj)) (s:Shared) (σ:St) (H:Hp) (Q:VK),Inv X pins σ H s→t σ H Q→wpAny (model X.prog X.w) X.A (eval e X.env) (EP X pins σ Q) X.xe s
def PT (X:Cx) (e:Expr) (t:TT):Prop:=
 ∀(pins:List (Addr×Obj)) (s:Shared) (σ:St) (H:Hp) (Q:Bool→Hp→Prop),Inv X pins σ H s→t σ H Q→wpAny (model X.prog X.w) X.A (isTrue e X.env (eval e X.env)) (TP X pins σ Q) X.xe s
def PW (X:Cx) (e:Expr) (t:TT):Prop:=
 ∀(whole:Sem Value) (pins:List (Addr×Obj)) (s:Shared) (σ:St) (H:Hp) (Q:Bool→Hp→Prop),Inv X pins σ H s→t σ H Q→wpAny (model X.prog X.w) X.A (isTrue e X.env whole) (TP X pins σ Q) X.xe s
theorem PW.pt {X:Cx} {e:Expr} {t:TT} (h:PW X e t):PT X e t:=h _
def PA (X:Cx) (es:List Expr) (t:TA):Prop:=
 ∀(pos:Pos) (pins:List (Addr×Obj)) (s:Shared) (σ:St) (H:Hp) (Q:List V→Hp→Prop),Inv X pins σ H s→t σ H Q→wpAny (model X.prog X.w) X.A (spliced (backTo pos (starEach es X.env))) (AP X pins σ Q) X.xe s
def PS (X:Cx) (st:Stmt) (t:TS):Prop:=
 ∀(pins:List (Addr×Obj)) (s:Shared) (σ:St) (H:Hp) (D:Zfy),Inv X pins σ H s→t D σ H→wpAny (model X.prog X.w) X.A (exec st X.env) (SP X pins D) X.xe s
def PSs (X:Cx) (st:List Stmt) (t:TS):Prop:=
 ∀(pins:List (Addr×Obj)) (s:Shared) (σ:St) (H:Hp) (D:Zfy),Inv X pins σ H s→t D σ H→wpAny (model X.prog X.w) X.A (execs st X.env) (SP X pins D) X.xe s
theorem thn {α:Type} {t:Sem α} {Q Q':α→Shared→Prop} {M:Model} {A:Around} {E:Value→Shared→Prop} {s:Shared} (h:wpAny M A t Q E s) (hQ:∀a s,Q a s→Q' a s):wpAny M A t Q' E s:=wpAny_mono h hQ fun _ _ x=>x
section
variable {X:Cx}
theorem bin {a b:Expr} {ta tb:TE} (ha:PE X a ta) (hb:PE X b tb) {pins:List (Addr×Obj)} {s:Shared} {σ:St} {H:Hp} {R:V→V→Hp→Prop} (I:Inv X pins σ H s) (h:ta σ H fun x H1=>tb σ H1 fun y H2=>R x y H2)
  {α:Type} {Q:α→Shared→Prop} {f:Value→Value→Sem α}
  (hf:∀v u s2 x y H2,Inv X pins σ H2 s2→RelV x v→RelV y u→R x y H2→wpAny (model X.prog X.w) X.A (f v u) Q X.xe s2) :
  wpAny (model X.prog X.w) X.A (eval a X.env) (fun v s₁=>wpAny (model X.prog X.w) X.A (eval b X.env) (fun u s₂=>wpAny (model X.prog X.w) X.A (f v u) Q X.xe s₂) X.xe s₁) X.xe s:=by
 refine thn (ha pins s σ H _ I h) fun v s1 ⟨x,H1,I1,r1,q1⟩=>?_
 refine thn (hb pins s1 σ H1 _ I1 q1) fun u s2 ⟨y,H2,I2,r2,q2⟩=>?_
 exact hf v u s2 x y H2 I2 r1 r2 q2
def ZzW (i:Nat):TE:=fun σ H Q=>∃v,σ[i]?=some (some v)∧Q v H
def tC (v:V):TE:=fun _ H Q=>Q v H
theorem Zok {i:Nat} {x:Str} {pos:Pos} (hN:X.N[i]?=some x) (hv:Vis X.env.scope x) (hd:(x == ("__debug__":Str))=false:=by decide) (hcd:(x == ("__classdict__":Str))=false:=by decide):PE X (.Name x pos) (ZzW i):=by
 intro pins s σ H Q I h
 obtain ⟨v,e,h⟩:=h
 obtain ⟨m,hn,hl⟩:=I.loc
 obtain ⟨u,r,l⟩:=hl i x v hN e hv
 have fin:EP X pins σ Q u s:=⟨v,H,I,r,h⟩
 rcases l with ⟨hk,hm⟩ | ⟨hk,c,hc,hcell⟩
 ·exact wpAny_Name (wpAny_loadName_local I.ok.kind hk hn hm fin) hd
 ·rcases hk with hk | hk
  ·exact wpAny_Name (wpAny_loadName_cell I.ok.kind hk hc hcell fin) hd
  ·exact wpAny_Name (wpAny_loadName_free I.ok.kind hk hc hcell fin hcd) hd
theorem ZuN {i j pos}:PE X (.Constant (.int i) j pos) (tC (.int i)):=fun _ _ _ H _ I h=>wpAny_Constant_int ⟨.int i,H,I.tok _,⟨_,rfl⟩,h⟩
theorem ZwC {b j pos}:PE X (.Constant (.bool b) j pos) (tC (.bl b)):=fun _ _ _ H _ I h=>Constant_bool ⟨.bl b,H,I,rfl,h⟩
theorem ZuL {j pos}:PE X (.Constant .none j pos) (tC .non):=fun _ _ _ H _ I h=>Constant_none ⟨.non,H,I,rfl,h⟩
theorem ZuJ {x j pos}:PE X (.Constant (.str x) j pos) (tC (.str x)):=fun _ _ _ H _ I h=>Calls.Constant_str ⟨.str x,H,I.tok _,⟨_,rfl⟩,h⟩
def Gl (X:Cx) (x:Str):Prop:=X.env.kindOf x=some .globalImplicit
theorem ZhA {E:Value→Shared→Prop} {pins:List (Addr×Obj)} {s:Shared} {σ:St} {H:Hp} {x:Str} {u:Value} {pos:Pos} {Q:Value→Shared→Prop} (I:Inv X pins σ H s) (hg:Gl X x) (hm:X.mg x=some u) (h:Q u s)
  (hd:(x == ("__debug__":Str))=false:=by decide):wpAny (model X.prog X.w) X.A (eval (.Name x pos) X.env) Q E s:=
 Calls.Name_function_global I.ok.kind hg (Calls.loadGlobal_global (by rw [I.ok.glob]; exact I.mod.glob.keeps I.bk) hm h) hd
theorem ZjA {E:Value→Shared→Prop} {pins:List (Addr×Obj)} {s:Shared} {σ:St} {H:Hp} {x:Str} {u:Value} {pos:Pos} {Q:Value→Shared→Prop} (I:Inv X pins σ H s) (hg:Gl X x) (hm:X.mg x=none) (hv:bootBuiltins x=some u) (h:Q u s)
  (hn:x≠"__name__":=by decide) (hd:(x == ("__debug__":Str))=false:=by decide):wpAny (model X.prog X.w) X.A (eval (.Name x pos) X.env) Q E s:=by
 obtain ⟨mb,h1,h2⟩:=I.mod.blt
 exact Calls.Name_function_global I.ok.kind hg (Calls.loadGlobal_builtin (by rw [I.ok.glob]; exact I.mod.glob.keeps I.bk) hm (by rw [I.ok.blt]; exact h1.keeps I.bk) ((h2 x hn).trans hv) h) hd
theorem ZlS {x:Str} {v:V} {u:Value} {pos:Pos} (hg:Gl X x) (hm:X.mg x=some u) (r:RelV v u) (hd:(x == ("__debug__":Str))=false:=by decide):PE X (.Name x pos) (tC v):=
 fun _ _ _ H _ I h=>ZhA I hg hm ⟨v,H,I,r,h⟩ hd
variable {a b:Expr} {ta tb:TE} {pos:Pos}
def PC (X:Cx) (op:CmpOp) (a b:Expr) (t:TE):Prop:=
 ∀(pins:List (Addr×Obj)) (s:Shared) (σ:St) (H:Hp) (Q:VK),Inv X pins σ H s→t σ H Q→
  wpAny (model X.prog X.w) X.A (eval a X.env) (fun v s₁=>wpAny (model X.prog X.w) X.A (eval b X.env) (fun u s₂=>wpAny (model X.prog X.w) X.A (compareOp op v u) (EP X pins σ Q) X.xe s₂) X.xe s₁) X.xe s
theorem ZoE (b:Expr) {op:CmpOp} (h:op≠.In) (h2:op≠.NotIn):behindInMarks op b=false:=by
 have e1:(op == CmpOp.In)=false:=by cases op<;>first | rfl | exact absurd rfl h
 have e2:(op == CmpOp.NotIn)=false:=by cases op<;>first | rfl | exact absurd rfl h2
 cases b<;>simp [behindInMarks,e1,e2]
def tB (t:TE):TT:=fun σ H Q=>t σ H fun x H1=>∃c,x=.bl c∧Q c H1
theorem Zod {op:CmpOp} {t:TE} (h:PC X op a b t) (h1:behindInMarks op b=false:=by first | exact ZoE _ (by decide) (by decide) | rfl):PT X (.Compare a [op] [b] pos) (tB t):=by
 intro pins s σ H Q I hw
 refine wpAny_isTrue_Compare1 (thn (h pins s σ H _ I hw) fun v s1 h1=>thn h1 fun u s2 h2=>thn h2 fun c s3 ⟨x,H1,I1,r1,q1⟩=>?_) h1
 obtain ⟨d,rfl,q⟩:=q1
 cases r1
 exact wpAny_truthy_bool ⟨H1,I1,q⟩
variable {tA tB':TT} {rest:List Expr}
def Zz7 (t u:TT):TT:=fun σ H Q=>t σ H fun c H1=>if c=true then u σ H1 Q else Q false H1
def tOr (t u:TT):TT:=fun σ H Q=>t σ H fun c H1=>if c=true then Q true H1 else u σ H1 Q
def Zz2 (t:TT):TT:=fun σ H Q=>t σ H fun c H1=>Q (!c) H1
theorem Zrg (ha:PT X a tA):PW X (.BoolOp .And [a] pos) tA:=by
 intro wh pins s σ H Q I h
 refine isTrue_and (thn (ha pins s σ H Q I h) fun c s1 e=>?_)
 cases c with
 | true=>exact isTrue_and_nil e
 | false=>exact e
theorem Zux (ha:PT X a tA):PW X (.BoolOp .Or [a] pos) tA:=by
 intro wh pins s σ H Q I h
 refine isTrue_or (thn (ha pins s σ H Q I h) fun c s1 e=>?_)
 cases c with
 | false=>exact isTrue_or_nil e
 | true=>exact e
theorem Zuy (ha:PT X a tA) (hb:PW X (.BoolOp .And (b::rest) pos) tB'):PW X (.BoolOp .And (a::b::rest) pos) (Zz7 tA tB'):=by
 intro wh pins s σ H Q I h
 refine isTrue_and (thn (ha pins s σ H _ I h) fun c s1 ⟨H1,I1,q1⟩=>?_)
 cases c with
 | true=>exact hb wh pins s1 σ H1 Q I1 q1
 | false=>exact ⟨H1,I1,q1⟩
theorem Zww (ha:PT X a tA) (hb:PW X (.BoolOp .Or (b::rest) pos) tB'):PW X (.BoolOp .Or (a::b::rest) pos) (tOr tA tB'):=by
 intro wh pins s σ H Q I h
 refine isTrue_or (thn (ha pins s σ H _ I h) fun c s1 ⟨H1,I1,q1⟩=>?_)
 cases c with
 | true=>exact ⟨H1,I1,q1⟩
 | false=>exact hb wh pins s1 σ H1 Q I1 q1
theorem Zuz (ha:PT X a tA):PT X (.UnaryOp .Not a pos) (Zz2 tA):=by
 intro pins s σ H Q I h
 exact isTrue_not (ha pins s σ H (fun c H1=>Q (!c) H1) I h)
def Zwh (ta tb:TE):TE:=fun σ H Q=>ta σ H fun x H1=>∃c,x=.bl c∧if c=true then tb σ H1 Q else Q (.bl false) H1
def Zz1 (ta tb:TE):TE:=fun σ H Q=>ta σ H fun x H1=>∃c,x=.bl c∧if c=true then Q (.bl true) H1 else tb σ H1 Q
theorem ZuK {op} {t:TE} (h:PE X a t):PE X (.BoolOp op [a] pos) t:=fun pins s σ H Q I hw=>BoolOp_one (h pins s σ H Q I hw)
theorem ZuP (ha:PE X a ta) (hb:PE X (.BoolOp .And (b::rest) pos) tb):PE X (.BoolOp .And (a::b::rest) pos) (Zwh ta tb):=by
 intro pins s σ H Q I h
 refine BoolOp_and (thn (ha pins s σ H _ I h) fun v s1 ⟨x,H1,I1,r1,q1⟩=>?_)
 obtain ⟨c,rfl,q1⟩:=q1
 cases r1
 refine wpAny_truthy_bool ?_
 cases c with
 | true=>exact hb pins s1 σ H1 Q I1 q1
 | false=>exact ⟨.bl false,H1,I1,rfl,q1⟩
theorem Zwz (ha:PE X a ta) (hb:PE X (.BoolOp .Or (b::rest) pos) tb):PE X (.BoolOp .Or (a::b::rest) pos) (Zz1 ta tb):=by
 intro pins s σ H Q I h
 refine BoolOp_or (thn (ha pins s σ H _ I h) fun v s1 ⟨x,H1,I1,r1,q1⟩=>?_)
 obtain ⟨c,rfl,q1⟩:=q1
 cases r1
 refine wpAny_truthy_bool ?_
 cases c with
 | false=>exact hb pins s1 σ H1 Q I1 q1
 | true=>exact ⟨.bl true,H1,I1,rfl,q1⟩
def tIf (t:TT) (ta tb:TE):TE:=fun σ H Q=>t σ H fun c H1=>if c=true then ta σ H1 Q else tb σ H1 Q
theorem Zon {c:Expr} (hc:PT X c tA) (ha:PE X a ta) (hb:PE X b tb):PE X (.IfExp c a b pos) (tIf tA ta tb):=by
 intro pins s σ H Q I h
 refine wpAny_IfExp (thn (hc pins s σ H _ I h) fun d s1 ⟨H1,I1,q1⟩=>?_)
 cases d with
 | true=>exact ha pins s1 σ H1 Q I1 q1
 | false=>exact hb pins s1 σ H1 Q I1 q1
end
def SqL (K:PySem.W.Frag) (H:Hp) (a:Addr) (xs:List V):Prop:=
 Rd H a (.lst xs)∨
  ∃(o:Obj) (its:Array Value) (n:Nat),K.lookup a=some o∧o.cls=.type "list"∧o.dict=none∧o.data=.seq its n∧its.size≤sizeLine∧Vals xs its.toList
def SqT (K:PySem.W.Frag) (H:Hp) (a:Addr) (xs:List V):Prop:=
 Rd H a (.tup xs)∨
  ∃(o:Obj) (its:Array Value) (n:Nat),K.lookup a=some o∧o.cls=.type "tuple"∧o.data=.seq its n∧its.size≤sizeLine∧Vals xs its.toList
def ZAM:Value→Option V
 | .none=>some .non
 | .bool b=>some (.bl b)
 | .int i _=>some (.int i)
 | .str x _=>some (.str x)
 | .bytes b _=>some (.byt b)
 | .float b _=>some (.flt b)
 | .ref a=>some (.ref a)
 | .type n=>some (.ty n)
 | _=>none
theorem RelV.abs {x:V} {u:Value} (r:RelV x u):ZAM u=some x:=by
 cases x with
 | non=>cases r; rfl
 | bl _=>cases r; rfl
 | int _=>obtain ⟨t,rfl⟩:=r; rfl
 | str _=>obtain ⟨t,rfl⟩:=r; rfl
 | byt _=>obtain ⟨t,rfl⟩:=r; rfl
 | flt _=>obtain ⟨t,rfl⟩:=r; rfl
 | ref _=>cases r; rfl
 | ty _=>cases r; rfl
theorem RelV.inj {x y:V} {u:Value} (r:RelV x u) (q:RelV y u):x=y:=Option.some.inj (r.abs.symm.trans q.abs)
theorem Vals.inj:∀{xs ys:List V} {us:List Value},Vals xs us→Vals ys us→xs=ys
 | _,_,_,.nil,.nil=>rfl
 | _,_,_,.cons r t,.cons r' t'=>by rw [r.inj r',Vals.inj t t']
section
variable {X:Cx} {pins:List (Addr×Obj)} {σ:St} {H:Hp} {s:Shared} {a:Addr} {xs ys:List V}
theorem SqL.of {K:PySem.W.Frag} (h:H a=some (.lst xs)):SqL K H a xs:=.inl (.inl h)
theorem SqT.of {K:PySem.W.Frag} (h:H a=some (.tup xs)):SqT K H a xs:=.inl (.inl h)
theorem Inv.list (I:Inv X pins σ H s) (h:SqL X.K H a xs):∃its:List Value,Vals xs its∧PlainL s.heap a its.toArray∧xs.length≤sizeLine:=by
 rcases h with h | ⟨o,its,n,hk,hc,hd,hs,hz,r⟩
 ·obtain ⟨z,its,n,r,e⟩:=h.ok I.hok
  exact ⟨its,r,⟨_,n,e,rfl,rfl,rfl⟩,z⟩
 ·refine ⟨its.toList,r,⟨o,n,I.kIn a o hk,hc,hd,by simpa using hs⟩,?_⟩
  have e:=r.length
  simp only [Array.length_toList] at e
  omega
theorem Inv.tuple (I:Inv X pins σ H s) (h:SqT X.K H a xs):∃its:List Value,Vals xs its∧IsTup s.heap a its.toArray∧xs.length≤sizeLine:=by
 rcases h with h | ⟨o,its,n,hk,hc,hs,hz,r⟩
 ·obtain ⟨z,its,r,p⟩:=h.ok I.hok
  exact ⟨its,r,p,z⟩
 ·refine ⟨its.toList,r,⟨o,I.kIn a o hk,hc,n,by simpa using hs⟩,?_⟩
  have e:=r.length
  simp only [Array.length_toList] at e
  omega
theorem Inv.list_inj (I:Inv X pins σ H s) (h:SqL X.K H a xs) (h':SqL X.K H a ys):xs=ys:=by
 obtain ⟨its,r,⟨o,n,e,_,_,d⟩,_⟩:=I.list h
 obtain ⟨its',r',⟨o',n',e',_,_,d'⟩,_⟩:=I.list h'
 rw [e] at e'; cases e'
 rw [d] at d'
 injection d' with d1 _
 have:its=its':=by simpa using congrArg Array.toList d1
 subst this
 exact r.inj r'
theorem Inv.tuple_inj (I:Inv X pins σ H s) (h:SqT X.K H a xs) (h':SqT X.K H a ys):xs=ys:=by
 obtain ⟨its,r,⟨o,e,_,n,d⟩,_⟩:=I.tuple h
 obtain ⟨its',r',⟨o',e',_,n',d'⟩,_⟩:=I.tuple h'
 rw [e] at e'; cases e'
 rw [d] at d'
 injection d' with d1 _
 have:its=its':=by simpa using congrArg Array.toList d1
 subst this
 exact r.inj r'
end
abbrev Cx.wish (X:Cx) (E:Value→Shared→Prop):Cx:={ X with xe:=E }
abbrev Cx.nox (X:Cx):Cx:=X.wish fun _ _=>False
theorem Cx.Ok.wish {X:Cx} (ok:X.Ok) (E:Value→Shared→Prop):(X.wish E).Ok:=
 ⟨ok.mod,ok.kind,ok.glob,ok.blt,ok.above,ok.inj,ok.has,ok.cab,ok.hd,ok.frames,ok.stk,ok.exf,ok.bs,ok.bsz,ok.noex,ok.exfs,ok.funs,ok.frf⟩
theorem Cx.Ok.unwish {X:Cx} {E:Value→Shared→Prop} (ok:(X.wish E).Ok):X.Ok:=
 ⟨ok.mod,ok.kind,ok.glob,ok.blt,ok.above,ok.inj,ok.has,ok.cab,ok.hd,ok.frames,ok.stk,ok.exf,ok.bs,ok.bsz,ok.noex,ok.exfs,ok.funs,ok.frf⟩
section
variable {X:Cx} {pins:List (Addr×Obj)} {σ:St} {H:Hp} {s:Shared} {E:Value→Shared→Prop}
theorem Inv.wish (I:Inv X pins σ H s) (E:Value→Shared→Prop):Inv (X.wish E) pins σ H s:=⟨I.ok.wish E,I.os,I.bare,I.base,I.loc,I.cell,I.free,I.freeC,I.pin,I.hok,I.len⟩
theorem Inv.unwish (I:Inv (X.wish E) pins σ H s):Inv X pins σ H s:=⟨I.ok.unwish,I.os,I.bare,I.base,I.loc,I.cell,I.free,I.freeC,I.pin,I.hok,I.len⟩
theorem SP.unwish {D:Zfy} {f:Flow} {s':Shared} (h:SP (X.wish E) pins D f s'):SP X pins D f s':=by
 cases f with
 | next=>obtain ⟨σ',H',I,q⟩:=h; exact ⟨σ',H',I.unwish,q⟩
 | brk=>obtain ⟨σ',H',I,q⟩:=h; exact ⟨σ',H',I.unwish,q⟩
 | cont=>obtain ⟨σ',H',I,q⟩:=h; exact ⟨σ',H',I.unwish,q⟩
 | ret u=>obtain ⟨v,σ',H',I,r,q⟩:=h; exact ⟨v,σ',H',I.unwish,r,q⟩
theorem PSs.nox {st:List Stmt} {t:TS} (h:PSs X.nox st t):PSs X st t:=fun pins s σ H D I hw=>
 wpAny_mono (h pins s σ H D (I.wish _) hw) (fun _ _ q=>q.unwish) fun _ _ z=>False.elim z
end
section
variable {X:Cx} {st:Stmt} {rest:List Stmt} {t u:TS} {e:Expr} {te:TE} {pos:Pos}
def Zwb:TS:=fun D σ H=>D.nx σ H
def ZzZ (t u:TS):TS:=fun D σ H=>t { D with nx:=u D } σ H
theorem Zrk:PSs X [] Zwb:=fun _ _ σ H _ I h=>wpAny_execs_nil ⟨σ,H,I,h⟩
theorem Zoe (h1:PS X st t) (h2:PSs X rest u):PSs X (st::rest) (ZzZ t u):=by
 intro pins s σ H D I h
 refine wpAny_execs_cons (thn (h1 pins s σ H { D with nx:=u D } I h) fun f s1 q=>?_)
 cases f with
 | next=>
  obtain ⟨σ',H',I',q⟩:=q
  exact h2 pins s1 σ' H' D I' q
 | ret v=>exact q
 | brk=>exact q
 | cont=>exact q
theorem Zrj (h1:PS X st t):PSs X [st] t:=by
 intro pins s σ H D I h
 refine wpAny_execs_cons (thn (h1 pins s σ H D I h) fun f s1 q=>?_)
 cases f with
 | next=>exact wpAny_execs_nil q
 | ret v=>exact q
 | brk=>exact q
 | cont=>exact q
theorem Inv.quiet {pins:List (Addr×Obj)} {σ:St} {H:Hp} {s:Shared} (I:Inv X pins σ H s):interactive X.env=false:=by simp [interactive,I.ok.kind]
def Zwd (te:TE):TS:=fun D σ H=>te σ H fun _ H1=>D.nx σ H1
theorem ZlP (he:PE X e te) (hs:swapsWith e none pos.line X.env=pure false:=by rfl):PS X (.Expr e pos) (Zwd te):=by
 intro pins s σ H D I h
 exact wpAny_Expr_any (thn (he pins s σ H _ I h) fun v s1 ⟨x,H1,I1,r1,q1⟩=>⟨σ,H1,I1,q1⟩) I.quiet hs
def Zz0 (te:TE):TS:=fun D σ H=>te σ H D.rt
theorem ZuA (he:PE X e te):PS X (.Return (some e) pos) (Zz0 te):=by
 intro pins s σ H D I h
 exact wpAny_Return_some (thn (he pins s σ H _ I h) fun v s1 ⟨x,H1,I1,r1,q1⟩=>⟨x,σ,H1,I1,r1,q1⟩)
def Zv9:TS:=fun D _ H=>D.rt .non H
theorem Zrl:PS X (.Return none pos) Zv9:=fun _ _ σ H _ I h=>wpAny_Return_none ⟨.non,σ,H,I,rfl,h⟩
def Zz4 (c:TT) (t u:TS):TS:=fun D σ H=>c σ H fun b H1=>if b=true then t D σ H1 else u D σ H1
theorem Zwx {c:Expr} {a b:List Stmt} {tc:TT} (hc:PT X c tc) (ha:PSs X a t) (hb:PSs X b u):PS X (.If c a b pos) (Zz4 tc t u):=by
 intro pins s σ H D I h
 refine wpAny_If (thn (hc pins s σ H _ I h) fun d s1 ⟨H1,I1,q1⟩=>?_)
 cases d with
 | true=>exact ha pins s1 σ H1 D I1 q1
 | false=>exact hb pins s1 σ H1 D I1 q1
end
abbrev TG:=V→St→Hp→(St→Hp→Prop)→Prop
abbrev TGs:=List V→St→Hp→(St→Hp→Prop)→Prop
def PG (X:Cx) (target:Expr) (t:TG):Prop:=
 ∀(pins:List (Addr×Obj)) (s:Shared) (σ:St) (H:Hp) (v:V) (u:Value) (Q:St→Hp→Prop),Inv X pins σ H s→RelV v u→t v σ H Q→
  wpAny (model X.prog X.w) X.A (assign target X.env u) (fun _ s'=>∃σ' H',Inv X pins σ' H' s'∧Q σ' H') X.xe s
def PGs (X:Cx) (ts:List Expr) (t:TGs):Prop:=
 ∀(pins:List (Addr×Obj)) (s:Shared) (σ:St) (H:Hp) (vs:List V) (us:List Value) (Q:St→Hp→Prop),Inv X pins σ H s→Vals vs us→t vs σ H Q→
  wpAny (model X.prog X.w) X.A (assignInOrder ((assignEach ts X.env).map (·.2)) us) (fun _ s'=>∃σ' H',Inv X pins σ' H' s'∧Q σ' H') X.xe s
section
variable {X:Cx} {pos:Pos}
def ZkG (i:Nat):TG:=fun v σ H Q=>Q (σ.set i (some v)) H
theorem Zgb {i:Nat} {x:Str} (hN:X.N.Nodup) (hi:X.N[i]?=some x) (hx:Loc X.env.scope x) (hf:X.fn x=true∨X.env.scope.names.lookup x=some .local:=by first | exact .inl rfl | exact .inr rfl | assumption):PG X (.Name x pos) (ZkG i):=by
 intro pins s σ H v u Q I r h
 exact wpAny_assign_Name (Zj9 I hN hi hx r (fun s' I'=>⟨_,H,I',h⟩) hf)
def ZAG:TGs:=fun vs σ H Q=>vs=[]∧Q σ H
def Zw4 (t:TG) (u:TGs):TGs:=fun vs σ H Q=>∃v r,vs=v::r∧t v σ H fun σ' H'=>u r σ' H' Q
theorem Zro:PGs X [] ZAG:=by
 intro pins s σ H vs us Q I r h
 obtain ⟨e,h⟩:=h
 subst e
 cases r
 exact assignInOrder_nil ⟨σ,H,I,h⟩
theorem Zkm {e:Expr} {es:List Expr} {t:TG} {u:TGs} (h1:PG X e t) (h2:PGs X es u)
  (hs:(assignEach (e::es) X.env).map (·.2)=assign e X.env::(assignEach es X.env).map (·.2):=by rfl):PGs X (e::es) (Zw4 t u):=by
 intro pins s σ H vs us Q I r h
 obtain ⟨v,vr,e1,h⟩:=h
 subst e1
 cases r with
 | cons r rr=>
  rw [hs]
  refine assignInOrder_cons (thn (h1 pins s σ H _ _ _ I r h) fun _ s1 ⟨σ1,H1,I1,q1⟩=>?_)
  exact h2 pins s1 σ1 H1 _ _ Q I1 rr q1
def ZAF (K:PySem.W.Frag) (n:Nat) (t:TGs):TG:=fun v σ H Q=>∃a xs,v=.ref a∧SqT K H a xs∧xs.length=n∧t xs σ H Q
theorem ZuH {es:List Expr} {k:Nat} {t:TGs} {n:Nat} (hc:X.calm=true) (h:PGs X es t)
  (hn:(assignEach es X.env).length=n:=by rfl) (hst:(assignEach es X.env).findIdx? (·.1)=none:=by rfl):PG X (.Tuple es k pos) (ZAF X.K n t):=by
 intro pins s σ H v u Q I r hw
 obtain ⟨a,xs,e1,hq,hl,hw⟩:=hw
 subst e1
 cases r
 obtain ⟨its,rv,ht,hz⟩:=I.tuple hq
 refine assign_Tuple_tuple (I.ok.hd hc) ht (by simp [hn,←hl,rv.length]) hst fun h' hx=>?_
 have I1:Inv X pins σ H { s with heap:=h' }:=I.kept (t':=s.toks) fun b o e=>hx b o (Yp (Heap.lt_size e)) e
 exact h pins _ σ H xs _ Q I1 (by simpa using rv) hw
def Zwg (te:TE) (g:TG):TS:=fun D σ H=>te σ H fun x H1=>g x σ H1 D.nx
theorem Zog {i:Nat} {x:Str} {e:Expr} {te:TE} {pos':Pos} (hN:X.N.Nodup) (hi:X.N[i]?=some x) (hx:Loc X.env.scope x) (he:PE X e te) (hs:swapsWith e (some (.Name x pos')) pos.line X.env=pure false:=by rfl) (hf:X.fn x=true∨X.env.scope.names.lookup x=some .local:=by first | exact .inl rfl | exact .inr rfl | assumption) :
  PS X (.Assign [.Name x pos'] e pos) (Zwg te (ZkG i)):=by
 intro pins s σ H D I h
 refine wpAny_Assign_Name (thn (he pins s σ H _ I h) fun v s1 ⟨y,H1,I1,r1,q1⟩=>?_) hs
 exact Zj9 I1 hN hi hx r1 (fun s2 I2=>⟨_,H1,I2,q1⟩) hf
end
section
variable {X:Cx} {pos:Pos}
def Zuf (c:TT) (tb:TS):TS:=fun D σ H=>∃W:Nat→St→Hp→Prop,(∃m,W m σ H)∧∀m σ H,W m σ H→
 c σ H fun b H1=>if b=true then ∃N:St→Hp→Prop,(∀σ' H',N σ' H'→∃m',m'<m∧W m' σ' H')∧tb { D with nx:=N,ct:=N,bk:=D.nx } σ H1 else D.nx σ H1
theorem Zof {c:Expr} {body:List Stmt} {tc:TT} {tb:TS} (hp:PassesOwn (model X.prog X.w) X.A X.env X.xe) (hc:PT X c tc) (hb:PSs X body tb):PS X (.While c body [] pos) (Zuf tc tb):=by
 intro pins s σ H D I h
 obtain ⟨W,⟨m0,w0⟩,turn⟩:=h
 refine wpAny_While (codeAny_whileLoop (fun n s'=>∃σ' H',Inv X pins σ' H' s'∧W n σ' H') ?_ m0 ⟨σ,H,I,w0⟩)
 rintro n s1 ⟨σ1,H1,I1,w1⟩
 refine wpAny_passesOwn hp (thn (hc pins s1 σ1 H1 _ I1 (turn n σ1 H1 w1)) fun b s2 ⟨H2,I2,q2⟩=>?_)
 cases b with
 | true=>
  obtain ⟨N,hN,q2⟩:=q2
  rw [if_pos rfl]
  refine wpAny_passesOwn hp (thn (hb pins s2 σ1 H2 _ I2 q2) fun f s3 q3=>?_)
  cases f with
  | next=>
   obtain ⟨σ3,H3,I3,n3⟩:=q3
   obtain ⟨m',hm,w3⟩:=hN σ3 H3 n3
   exact ⟨m',hm,σ3,H3,I3,w3⟩
  | cont=>
   obtain ⟨σ3,H3,I3,n3⟩:=q3
   obtain ⟨m',hm,w3⟩:=hN σ3 H3 n3
   exact ⟨m',hm,σ3,H3,I3,w3⟩
  | brk=>exact q3
  | ret v=>exact q3
 | false=>
  rw [if_neg Yi]
  exact wpAny_execs_nil ⟨σ1,H2,I2,q2⟩
end
structure It where
 go:Nat→Hp→Prop
 yld:Nat→Hp→V→Hp→Prop
 stop:Nat→Hp→Prop
def ZiI (X:Cx) (pins:List (Addr×Obj)) (H:Hp) (b:Addr):Prop:=
 H b=none∧b≠X.env.locals∧b∉X.fs∧(b∈X.ex∨X.s₀.heap.objs.size≤b)∧(∀x c,X.env.cells.lookup x=some c→c≠b)∧∀p∈X.pn++pins,p.1≠b
theorem Inv.fpOk {X:Cx} {pins:List (Addr×Obj)} {σ:St} {H H':Hp} {s:Shared} {b:Addr} (I:Inv X pins σ H s) (hb:s.heap.objs.size≤b) (hn:H' b=none):ZiI X pins H' b:=by
 refine ⟨hn,Jo (Yh I.lt hb),I.nofs hb,.inr (Yt I.sz hb),fun x c e z=>?_,fun p hp z=>?_⟩
 ·obtain ⟨v,q⟩:=I.cell x c e
  exact absurd (Yh q.lt (by rw [z]; exact hb)) (YE _)
 ·exact absurd (Yh (Heap.lt_size (I.pin p hp).1) (by rw [z]; exact hb)) (YE _)
structure Znu (P:Program) (w:World) (K:PySem.W.Frag) (tg:Expr) (J:It) (fp:List Addr) (it:Addr) (tn:Nat→Heap→Prop):Prop where
 mem:it∈fp
 obj:∀i h,tn i h→∀b∈fp,∃o,h.get? b=some o∧∀v,o.data≠.cell v
 keep:∀i h h',tn i h→(∀b∈fp,∀o,h.get? b=some o→h'.get? b=some o)→tn i h'
 item:∀(X:Cx),X.prog=P→X.w=w→X.K=K→X.calm=true→∀(i:Nat) (pins:List (Addr×Obj)) (s:Shared) (σ:St) (H:Hp) (E:Value→Shared→Prop),Inv X pins σ H s→(∀b∈fp,ZiI X pins H b)→tn i s.heap→J.go i H→
  wpAny (model P w) X.A (pyNext (.ref it)) (fun r s1=>∃u,r=some u∧
   wpAny (model P w) X.A (letOwnedTupleGo tg (.ref it) u) (fun _ s2=>∃x H',Inv X pins σ H' s2∧RelV x u∧J.yld i H x H'∧tn (i+1) s2.heap∧∀b∈fp,H' b=none) E s1) E s
 done:∀(X:Cx),X.prog=P→X.w=w→X.K=K→X.calm=true→∀(i:Nat) (pins:List (Addr×Obj)) (s:Shared) (σ:St) (H:Hp) (E:Value→Shared→Prop),Inv X pins σ H s→(∀b∈fp,ZiI X pins H b)→tn i s.heap→J.stop i H→
  wpAny (model P w) X.A (pyNext (.ref it)) (fun r s1=>r=none∧Inv X pins σ H s1) E s
 self:∀(A:Around) (i:Nat) (s:Shared) (Q:Value→Shared→Prop) (E:Value→Shared→Prop),tn i s.heap→Q (.ref it) s→wpAny (model P w) A (pyIter (.ref it)) Q E s
abbrev TI:=St→Hp→(It→Hp→Prop)→Prop
def PIE (X:Cx) (pins:List (Addr×Obj)) (σ:St) (tg:Expr) (R:It→Hp→Prop) (itv:Value) (s2:Shared):Prop:=
 ∃(it:Addr) (fp:List Addr) (tn:Nat→Heap→Prop) (J:It) (H':Hp),itv=.ref it∧Inv X pins σ H' s2∧Znu X.prog X.w X.K tg J fp it tn∧tn 0 s2.heap∧(∀b∈fp,ZiI X pins H' b)∧R J H'
def PI (X:Cx) (tg iter:Expr) (wi:TI):Prop:=
 ∀(pins:List (Addr×Obj)) (s:Shared) (σ:St) (H:Hp) (R:It→Hp→Prop),Inv X pins σ H s→wi σ H R→
  wpAny (model X.prog X.w) X.A (eval iter X.env) (fun v s1=>wpAny (model X.prog X.w) X.A (pyIter v) (PIE X pins σ tg R) X.xe s1) X.xe s
theorem ZoY {M:Model} {A:Around} {E:Value→Shared→Prop} {s:Shared} {tg:Expr} {it:Addr} {u:Value} {o:Obj} {n:String} {vs:Array Value} {Q:Unit→Shared→Prop} (ho:s.heap.get? it=some o) (hc:o.cls=.type n) (hd:o.data=.fields vs)
  (hn:["enumerate","zip","dict_itemiterator","dict_reverseitemiterator","odict_iterator","itertools.zip_longest","itertools.pairwise"].contains n=false) (hQ:Q () s):wpAny M A (letOwnedTupleGo tg (.ref it) u) Q E s:=by
 unfold letOwnedTupleGo
 cases tg<;>first
  | exact wpAny_pure hQ
  | (cases u<;>first
    | exact wpAny_pure hQ
    | (refine wpAny_bind (wpAny_load ho ?_)
       rw [hc,hd]
       show wpAny M A (if (["enumerate","zip","dict_itemiterator","dict_reverseitemiterator","odict_iterator","itertools.zip_longest","itertools.pairwise"].contains n && vs[0]? == some (rawInt _))=true then _ else _) Q E s
       rw [if_neg (by intro h; rw [hn,Bool.false_and] at h; cases h)]
       exact wpAny_pure hQ))
def Itl (K:PySem.W.Frag) (a:Addr):It:=
 ⟨fun i H=>∃xs x,SqL K H a xs∧xs[i]?=some x,fun i H x H'=>H'=H∧∀xs,SqL K H a xs→xs[i]?=some x,fun i H=>∃xs,SqL K H a xs∧xs.length≤i⟩
def Itt (K:PySem.W.Frag) (a:Addr):It:=
 ⟨fun i H=>∃xs x,SqT K H a xs∧xs[i]?=some x,fun i H x H'=>H'=H∧∀xs,SqT K H a xs→xs[i]?=some x,fun i H=>∃xs,SqT K H a xs∧xs.length≤i⟩
def Itr (lo:Int) (n:Nat):It:=⟨fun i _=>i<n,fun i H x H'=>H'=H∧x=.int (lo+i),fun i _=>n≤i⟩
theorem ZmN {P:Program} {w:World} {K:PySem.W.Frag} {tg:Expr} (a it:Addr):Znu P w K tg (Itl K a) [it] it (fun i h=>h.IsListIter it a i) where
 mem:=by simp
 obj:=fun i h st b hb=>by
  have e:b=it:=by simpa using hb
  subst e
  obtain ⟨o,e,c,d⟩:=st
  exact ⟨o,e,fun v z=>by rw [d] at z; cases z⟩
 keep:=fun i h h' st k=>st.at fun o e=>k it (by simp) o e
 item:=by
  intro X hP hw hK hc i pins s σ H E I hf st hg
  subst hP hw hK
  obtain ⟨xs,x,hq,hx⟩:=hg
  obtain ⟨its,rv,p,hz⟩:=I.list hq
  obtain ⟨u,hu,ru⟩:=rv.get hx
  obtain ⟨f0,f1,f2,f3,f4,f5⟩:=hf it (by simp)
  refine wpAny_pyNext_list_item st p.isList (x:=u) (by simpa using hu) fun h' st' sb=>?_
  have I1:Inv X pins σ H { s with heap:=h' }:=I.turned (t':=s.toks) (fun b o hb e=>(sb.2 b hb).trans e) f0 f1 f3 f4 f5
  obtain ⟨o,e,c,d⟩:=id st'
  exact ⟨u,rfl,ZoY (s:={ s with heap:=h' }) e c d (by decide) ⟨x,H,I1,ru,⟨rfl,fun ys hy=>by rw [I.list_inj hy hq]; exact hx⟩,st',fun b hb=>(hf b hb).1⟩⟩
 done:=by
  intro X hP hw hK hc i pins s σ H E I hf st hg
  subst hP hw hK
  obtain ⟨xs,hq,hx⟩:=hg
  obtain ⟨its,rv,p,hz⟩:=I.list hq
  obtain ⟨f0,f1,f2,f3,f4,f5⟩:=hf it (by simp)
  have hl:=rv.length
  exact wpAny_pyNext_list_end (I.ok.hd hc) st p.isList (by simp; omega) fun h' eb=>⟨rfl,I.turned (t':=s.toks) (fun b o hb e=>eb b o hb e) f0 f1 f3 f4 f5⟩
 self:=fun _ _ _ _ _ st h=>wpAny_pyIter_listiter st h
theorem ZkW {P:Program} {w:World} {K:PySem.W.Frag} {tg:Expr} (a it:Addr):Znu P w K tg (Itt K a) [it] it (fun i h=>h.IsTupleIter it a i) where
 mem:=by simp
 obj:=fun i h st b hb=>by
  have e:b=it:=by simpa using hb
  subst e
  obtain ⟨o,e,c,d⟩:=st
  exact ⟨o,e,fun v z=>by rw [d] at z; cases z⟩
 keep:=fun i h h' st k=>st.at fun o e=>k it (by simp) o e
 item:=by
  intro X hP hw hK hc i pins s σ H E I hf st hg
  subst hP hw hK
  obtain ⟨xs,x,hq,hx⟩:=hg
  obtain ⟨its,rv,p,hz⟩:=I.tuple hq
  obtain ⟨u,hu,ru⟩:=rv.get hx
  obtain ⟨f0,f1,f2,f3,f4,f5⟩:=hf it (by simp)
  refine wpAny_pyNext_tuple_item st (show s.heap.IsTuple a its.toArray from p) (x:=u) (by simpa using hu) fun h' st' sb=>?_
  have I1:Inv X pins σ H { s with heap:=h' }:=I.turned (t':=s.toks) (fun b o hb e=>(sb.2 b hb).trans e) f0 f1 f3 f4 f5
  obtain ⟨o,e,c,d⟩:=id st'
  exact ⟨u,rfl,ZoY (s:={ s with heap:=h' }) e c d (by decide) ⟨x,H,I1,ru,⟨rfl,fun ys hy=>by rw [I.tuple_inj hy hq]; exact hx⟩,st',fun b hb=>(hf b hb).1⟩⟩
 done:=by
  intro X hP hw hK hc i pins s σ H E I hf st hg
  subst hP hw hK
  obtain ⟨xs,hq,hx⟩:=hg
  obtain ⟨its,rv,p,hz⟩:=I.tuple hq
  obtain ⟨f0,f1,f2,f3,f4,f5⟩:=hf it (by simp)
  have hl:=rv.length
  exact wpAny_pyNext_tuple_end (I.ok.hd hc) st (show s.heap.IsTuple a its.toArray from p) (by simp; omega) fun h' eb=>⟨rfl,I.turned (t':=s.toks) (fun b o hb e=>eb b o hb e) f0 f1 f3 f4 f5⟩
 self:=fun _ _ _ _ _ st h=>wpAny_pyIter_tupleiter st h
theorem ZkX {P:Program} {w:World} {K:PySem.W.Frag} {tg:Expr} (it:Addr) (lo:Int) (n:Nat):Znu P w K tg (Itr lo n) [it] it (fun i h=>IsRangeIter h it (lo+(i:Nat)*1) ((n:Int)-(i:Nat)) 1) where
 mem:=by simp
 obj:=fun i h st b hb=>by
  have e:b=it:=by simpa using hb
  subst e
  exact ⟨_,st,fun v z=>by
   have z':Data.fields _=Data.cell v:=z
   cases z'⟩
 keep:=fun i h h' st k=>k it (by simp) _ st
 item:=by
  intro X hP hw hK hc i pins s σ H E I hf st hg
  subst hP hw hK
  obtain ⟨f0,f1,f2,f3,f4,f5⟩:=hf it (by simp)
  have W:=Walks.range (prog:=X.prog) (w:=X.w) (I.ok.hd hc) it lo 1 n
  refine W.item i s _ _ hg st fun v h' tk hv st' kk=>?_
  obtain ⟨t,rfl⟩:=hv
  have I1:Inv X pins σ H { s with heap:=h',toks:=tk }:=I.turned (fun b o hb e=>kk b o (by simpa using hb) e) f0 f1 f3 f4 f5
  refine ⟨_,rfl,ZoY (s:={ s with heap:=h',toks:=tk }) (n:="range_iterator") st' rfl rfl (by decide) ⟨.int (lo+i),H,I1,⟨t,?_⟩,⟨rfl,rfl⟩,st',fun b hb=>(hf b hb).1⟩⟩
  rw [Int.mul_one]
 done:=by
  intro X hP hw hK hc i pins s σ H E I hf st hg
  subst hP hw hK
  obtain ⟨f0,f1,f2,f3,f4,f5⟩:=hf it (by simp)
  exact wpAny_pyNext_range_end (I.ok.hd hc) st (by have:n≤i:=hg; omega) fun h' eb=>⟨rfl,I.turned (t':=s.toks) (fun b o hb e=>eb b o hb e) f0 f1 f3 f4 f5⟩
 self:=fun _ _ _ _ _ st h=>wpAny_pyIter_rangeiter st h
section
variable {X:Cx} {tg:Expr}
theorem Zn9 {pins:List (Addr×Obj)} {σ:St} {H:Hp} {s:Shared} {R:It→Hp→Prop} {E:Value→Shared→Prop} {lo hi:Int} {t u v:Tok} {tk:Nat} (I:Inv X pins σ H s) (h1 : -(2 ^ 62)≤lo) (h2:lo<2 ^ 62) (h3 : -(2 ^ 62)≤hi) (h4:hi<2 ^ 62)
  (q:R (Itr lo (hi-lo).toNat) H):wpAny (model X.prog X.w) X.A (pyIter (.ref s.heap.objs.size)) (PIE X pins σ tg R) E { s with heap:=s.heap.push { cls:=.type "range",data:=.fields #[.int lo t,.int hi u,.int 1 v] },toks:=tk }:=by
 refine wpAny_pyIter_range (IsRange.new ..) (small_one h1 h2 h3 h4) ?_
 have I1:Inv X pins σ H { s with heap:=s.heap.push { cls:=.type "range",data:=.fields #[.int lo t,.int hi u,.int 1 v] },toks:=tk }:=I.kept fun b o e=>Heap.get?_push_of_some _ e
 refine ⟨(s.heap.push { cls:=.type "range",data:=.fields #[.int lo t,.int hi u,.int 1 v] }).objs.size,[(s.heap.push { cls:=.type "range",data:=.fields #[.int lo t,.int hi u,.int 1 v] }).objs.size],_,_,H,rfl,
  I1.kept (t':=tk) fun b o e=>Heap.get?_push_of_some _ e,ZkX _ lo (hi-lo).toNat,?_,fun b hb=>?_,q⟩
 ·have e1:lo+((0:Nat):Int)*1=lo:=by simp
  have e2:(((hi-lo).toNat:Nat):Int)-((0:Nat):Int)=Builtin.Range.rangeSize lo hi 1:=by rw [rangeSize_one]; split<;>omega
  show IsRangeIter _ _ (lo+((0:Nat):Int)*1) ((((hi-lo).toNat:Nat):Int)-((0:Nat):Int)) 1
  rw [e1,e2]
  exact Heap.get?_push_size _ rfl
 ·have e:b=(s.heap.push { cls:=.type "range",data:=.fields #[.int lo t,.int hi u,.int 1 v] }).objs.size:=by simpa using hb
  subst e
  exact I1.fpOk (Yd _) (I1.hok.fresh (Yd _))
def Zw0 (ta:TA):TI:=fun σ H R=>ta σ H fun vs H1=>∃j:Int,vs=[.int j]∧-(2 ^ 62)≤j∧j<2 ^ 62∧R (Itr 0 j.toNat) H1
theorem ZmZ {a:Expr} {ta:TA} {p pos:Pos} (hg:Gl X "range") (hm:X.mg "range"=none) (ha:PA X [a] ta) (hs:starEach [a] X.env=[(false,eval a X.env)]:=by rfl):PI X tg (.Call (.Name "range" p) [a] [] pos) (Zw0 ta):=by
 intro pins s σ H R I h
 refine Call_ (ZjA I hg hm boot_range (PyProof.Rows.callWith_type1 (thn (ha pos pins s σ H _ I h) fun us s1 ⟨vs,H1,I1,r1,q1⟩=>?_) hs rfl))
 obtain ⟨j,e,q1,q2,q⟩:=q1
 subst e
 cases r1 with
 | cons r rr=>
  cases rr
  obtain ⟨t,rfl⟩:=r
  exact call_range_1 (Zn9 I1 (by omega) (by omega) q1 q2 (by simpa using q))
def Zz5 (wi:TI) (g:TG) (tb:TS):TS:=fun D σ H=>wi σ H fun J H1=>∃W:Nat→Nat→St→Hp→Prop,(∃m,W 0 m σ H1)∧∀i m σ H,W i m σ H→
 (J.stop i H∧D.nx σ H)∨(J.go i H∧∃N:St→Hp→Prop,(∀σ' H',N σ' H'→∃m',m'<m∧W (i+1) m' σ' H')∧∀x H',J.yld i H x H'→g x σ H' fun σ2 H2=>tb { D with nx:=N,ct:=N,bk:=D.nx } σ2 H2)
def Zjs (fp:List Addr) (h:Heap):List (Addr×Obj):=fp.filterMap fun b=>(h.get? b).map fun o=>(b,o)
theorem Zct {fp:List Addr} {h:Heap} {b:Addr} {o:Obj} (hb:b∈fp) (e:h.get? b=some o):(b,o)∈Zjs fp h:=List.mem_filterMap.mpr ⟨b,hb,by rw [e]; rfl⟩
theorem Zm5 {fp:List Addr} {h:Heap} {p:Addr×Obj} (hp:p∈Zjs fp h):p.1∈fp∧h.get? p.1=some p.2:=by
 obtain ⟨b,hb,e⟩:=List.mem_filterMap.mp hp
 cases q:h.get? b with
 | none=>rw [q] at e; cases e
 | some o=>
  rw [q] at e
  have e':(b,o)=p:=Option.some.inj e
  subst e'
  exact ⟨hb,q⟩
theorem Inv.pinned {pins:List (Addr×Obj)} {σ:St} {H:Hp} {s:Shared} {fp:List Addr} (I:Inv X pins σ H s) (hf:∀b∈fp,ZiI X pins H b) (ho:∀b∈fp,∃o,s.heap.get? b=some o∧∀v,o.data≠.cell v):Inv X (pins++Zjs fp s.heap) σ H s:=
 I.pins_of fun p hp=>(YK.mp hp).elim (fun z=>I.pin p (Yj _ z)) fun z=>by
  obtain ⟨hb,e⟩:=Zm5 z
  obtain ⟨f0,f1,f2,_⟩:=hf p.1 hb
  obtain ⟨o,e',d⟩:=ho p.1 hb
  rw [e] at e'; cases e'
  exact ⟨e,f0,f1,f2,d⟩
theorem Inv.unpinned {pins pl:List (Addr×Obj)} {σ:St} {H:Hp} {s:Shared} (I:Inv X (pins++pl) σ H s):Inv X pins σ H s:=I.pins_of fun p hp=>I.pin p (Yj _ (YQ _ hp))
theorem Zoh {iter:Expr} {body:List Stmt} {wi:TI} {g:TG} {tb:TS} {pos:Pos} (hp:PassesOwn (model X.prog X.w) X.A X.env X.xe) (hc:X.calm=true) (hi:PI X tg iter wi) (hg:PG X tg g) (hb:PSs X body tb)
  (hs:∀x,foldedSetIterable iter X.env x=pure x:=by intro _; rfl):PS X (.For tg iter body [] pos) (Zz5 wi g tb):=by
 intro pins s σ H D I h
 refine wpAny_For (thn (hi pins s σ H _ I h) fun v s1 h1=>thn h1 fun itv s2 h2=>?_) hs
 obtain ⟨it,fp,tn,J,H2,e,I2,T,st2,f2,W,⟨m0,w0⟩,turn⟩:=h2
 subst e
 have stat:∀{H':Hp},(∀b∈fp,H' b=none)→∀b∈fp,ZiI X pins H' b:=fun hn b hb=>⟨hn b hb,(f2 b hb).2⟩
 refine codeAny_forLoop_any (fun n s'=>∃i σ' H',Inv X pins σ' H' s'∧tn i s'.heap∧(∀b∈fp,H' b=none)∧W i n σ' H') ?_ m0 ⟨0,σ,H2,I2,st2,fun b hb=>(f2 b hb).1,w0⟩
 rintro n s3 ⟨i,σ3,H3,I3,st3,fr3,w3⟩
 rcases turn i n σ3 H3 w3 with ⟨stop,qn⟩ | ⟨go,N,hN,step⟩
 ·refine wpAny_passesOwn hp (thn (T.done X rfl rfl rfl hc i pins s3 σ3 H3 X.xe I3 (stat fr3) st3 stop) fun r s4 ⟨hr,I4⟩=>?_)
  subst hr
  exact wpAny_execs_nil ⟨σ3,H3,I4,qn⟩
 ·refine wpAny_passesOwn hp (thn (T.item X rfl rfl rfl hc i pins s3 σ3 H3 X.xe I3 (stat fr3) st3 go) fun r s4 ⟨u,hr,h4⟩=>?_)
  subst hr
  refine wpAny_passesOwn hp (thn h4 fun _ s5 ⟨x,H5,I5,r5,y5,st5,fr5⟩=>?_)
  have I5':=I5.pinned (stat fr5) (T.obj _ _ st5)
  refine wpAny_passesOwn hp (thn (hg _ s5 σ3 H5 x u _ I5' r5 (step x H5 y5)) fun _ s6 ⟨σ6,H6,I6,q6⟩=>?_)
  refine wpAny_passesOwn hp (thn (hb _ s6 σ6 H6 _ I6 q6) fun f s7 q7=>?_)
  have again:∀{σ7:St} {H7:Hp},Inv X (pins++Zjs fp s5.heap) σ7 H7 s7→N σ7 H7→∃m,m<n∧∃i σ' H',Inv X pins σ' H' s7∧tn i s7.heap∧(∀b∈fp,H' b=none)∧W i m σ' H':=fun {σ7 H7} I7 n7=>by
   obtain ⟨m',hm,w7⟩:=hN σ7 H7 n7
   refine ⟨m',hm,i+1,σ7,H7,I7.unpinned,T.keep _ _ _ st5 fun b hb o e=>(I7.pin (b,o) (Yj _ (Yj _ (Zct hb e)))).1,fun b hb=>?_,w7⟩
   obtain ⟨o,e,d⟩:=T.obj _ _ st5 b hb
   exact (I7.pin (b,o) (Yj _ (Yj _ (Zct hb e)))).2.1
  cases f with
  | next=>obtain ⟨σ7,H7,I7,n7⟩:=q7; exact again I7 n7
  | cont=>obtain ⟨σ7,H7,I7,n7⟩:=q7; exact again I7 n7
  | brk=>obtain ⟨σ7,H7,I7,q7⟩:=q7; exact ⟨σ7,H7,I7.unpinned,q7⟩
  | ret v=>obtain ⟨x7,σ7,H7,I7,r7,q7⟩:=q7; exact ⟨x7,σ7,H7,I7.unpinned,r7,q7⟩
end
abbrev R2:=V→V→Hp→VK→Prop
def OpR (X:Cx) (f:Value→Value→Sem Value) (r:R2):Prop:=
 ∀(pins:List (Addr×Obj)) (s:Shared) (σ:St) (H:Hp) (x y:V) (v u:Value) (Q:VK),Inv X pins σ H s→RelV x v→RelV y u→r x y H Q→
  wpAny (model X.prog X.w) X.A (f v u) (EP X pins σ Q) X.xe s
def CallR (X:Cx) (f:Value) (r:List V→Hp→VK→Prop):Prop:=
 ∀(pins:List (Addr×Obj)) (s:Shared) (σ:St) (H:Hp) (xs:List V) (us:List Value) (Q:VK),Inv X pins σ H s→Vals xs us→r xs H Q→
  wpAny (model X.prog X.w) X.A (call f us) (EP X pins σ Q) X.xe s
def ZAN (X:Cx) (r:V→Hp→(Bool→Hp→Prop)→Prop):Prop:=
 ∀(pins:List (Addr×Obj)) (s:Shared) (σ:St) (H:Hp) (x:V) (v:Value) (Q:Bool→Hp→Prop),Inv X pins σ H s→RelV x v→r x H Q→
  wpAny (model X.prog X.w) X.A (truthy v) (TP X pins σ Q) X.xe s
def tOp (r:R2) (ta tb:TE):TE:=fun σ H Q=>ta σ H fun x H1=>tb σ H1 fun y H2=>r x y H2 Q
def rI (C:Int→Int→Prop) (g:Int→Int→V):R2:=fun x y H Q=>∃i j,x=.int i∧y=.int j∧C i j∧Q (g i j) H
def rI0 (g:Int→Int→V):R2:=fun x y H Q=>∃i j,x=.int i∧y=.int j∧Q (g i j) H
section
variable {X:Cx} {a b c:Expr} {ta tb tc:TE} {pos:Pos}
theorem Zvn (ha:PE X a ta) (hb:PE X b tb) {pins:List (Addr×Obj)} {s:Shared} {σ:St} {H:Hp} {R:V→V→Hp→Prop} (I:Inv X pins σ H s)
  (h:ta σ H fun x H1=>tb σ H1 fun y H2=>R x y H2) {Q:Value→Shared→Prop} {f:Value→Value→Sem Value}
  (hf:∀v u s2 x y H2,Inv X pins σ H2 s2→RelV x v→RelV y u→R x y H2→wpAny (model X.prog X.w) X.A (f v u) Q X.xe s2) :
  wpAny (model X.prog X.w) X.A (eval a X.env) (fun v s₁=>wpAny (model X.prog X.w) X.A (eval b X.env) (fun u s₂=>wpAny (model X.prog X.w) X.A (f v u) Q X.xe s₂) X.xe s₁) X.xe s:=by
 refine thn (ha pins s σ H _ I h) fun v s1 ⟨x,H1,I1,r1,q1⟩=>?_
 refine thn (hb pins s1 σ H1 _ I1 q1) fun u s2 ⟨y,H2,I2,r2,q2⟩=>?_
 exact hf v u s2 x y H2 I2 r1 r2 q2
theorem ZwA {op:Operator} {r:R2} (ho:OpR X (binaryOp op) r) (ha:PE X a ta) (hb:PE X b tb):PE X (.BinOp a op b pos) (tOp r ta tb):=by
 intro pins s σ H Q I h
 exact wpAny_BinOp (Zvn ha hb I h fun v u s2 x y H2 I2 rx ry q=>ho pins s2 σ H2 x y v u Q I2 rx ry q)
theorem opI {f:Value→Value→Sem Value} {C:Int→Int→Prop} {g:Int→Int→Int}
  (rule:∀(i j:Int) (t u:Tok) (s:Shared) (Q:Value→Shared→Prop) (E:Value→Shared→Prop),C i j→Q (.int (g i j) s.toks) { s with toks:=s.toks+1 }→wpAny (model X.prog X.w) X.A (f (.int i t) (.int j u)) Q E s) :
  OpR X f (rI C fun i j=>.int (g i j)):=by
 intro pins s σ H x y v u Q I rx ry h
 obtain ⟨i,j,rfl,rfl,hc,q⟩:=h
 obtain ⟨t,rfl⟩:=rx
 obtain ⟨t',rfl⟩:=ry
 exact rule i j t t' s _ _ hc ⟨.int (g i j),H,I.tok _,⟨_,rfl⟩,q⟩
theorem ZuZ {f:Value→Value→Sem Value} {g:Int→Int→Int}
  (rule:∀(i j:Int) (t u:Tok) (s:Shared) (Q:Value→Shared→Prop) (E:Value→Shared→Prop),Q (.int (g i j) s.toks) { s with toks:=s.toks+1 }→wpAny (model X.prog X.w) X.A (f (.int i t) (.int j u)) Q E s) :
  OpR X f (rI0 fun i j=>.int (g i j)):=by
 intro pins s σ H x y v u Q I rx ry h
 obtain ⟨i,j,rfl,rfl,q⟩:=h
 obtain ⟨t,rfl⟩:=rx
 obtain ⟨t',rfl⟩:=ry
 exact rule i j t t' s _ _ ⟨.int (g i j),H,I.tok _,⟨_,rfl⟩,q⟩
theorem Zrw {f:Value→Value→Sem Value} {g:Int→Int→Bool}
  (rule:∀(i j:Int) (t u:Tok) (s:Shared) (Q:Value→Shared→Prop) (E:Value→Shared→Prop),Q (.bool (g i j)) s→wpAny (model X.prog X.w) X.A (f (.int i t) (.int j u)) Q E s) :
  OpR X f (rI0 fun i j=>.bl (g i j)):=by
 intro pins s σ H x y v u Q I rx ry h
 obtain ⟨i,j,rfl,rfl,q⟩:=h
 obtain ⟨t,rfl⟩:=rx
 obtain ⟨t',rfl⟩:=ry
 exact rule i j t t' s _ _ ⟨.bl (g i j),H,I,rfl,q⟩
def CMul (i j:Int):Prop:=(-(2 ^ 64)<i∧i<2 ^ 64)∨(-(2 ^ 64)<j∧j<2 ^ 64)
theorem CMul.ok {i j:Int} (h:CMul i j):IntMulOk i j:=by
 rcases h with ⟨h1,h2⟩ | ⟨h1,h2⟩
 ·exact .of_left (intBits_le_64 h1 h2)
 ·exact .of_right (intBits_le_64 h1 h2)
theorem op_add:OpR X (binaryOp .Add) (rI0 fun i j=>.int (i+j)):=ZuZ fun _ _ _ _ _ _ _ q=>add_int q
theorem ZuR:OpR X (binaryOp .Sub) (rI0 fun i j=>.int (i-j)):=ZuZ fun _ _ _ _ _ _ _ q=>sub_int q
theorem op_mul:OpR X (binaryOp .Mult) (rI CMul fun i j=>.int (i*j)):=opI fun _ _ _ _ _ _ _ hc q=>mul_int q hc.ok
theorem ZuU:OpR X (binaryOp .Mod) (rI (fun _ j=>0<j) fun i j=>.int (i % j)):=opI fun i j _ _ _ _ _ hc q=>by
 have h1:(0:Int)<j:=hc
 exact mod_int' (by omega) (by rw [Int.fmod_eq_emod_of_nonneg i (by omega)]; exact q)
theorem ZuY:OpR X (binaryOp .BitAnd) (rI0 fun i j=>.int (Builtin.bitAnd i j)):=ZuZ fun _ _ _ _ _ _ _ q=>and_int q
end
section
variable {X:Cx} {a b c:Expr} {ta tb tc:TE} {pos:Pos}
theorem Zo2 {pins:List (Addr×Obj)} {σ:St} {H:Hp} {s:Shared} {Q:VK} {k k':Bool} (I:Inv X pins σ H s) (q:Q (.bl k) H) (e:k=k'):EP X pins σ Q (.bool k') s:=by
 subst e
 exact ⟨.bl k,H,I,rfl,q⟩
theorem ZwF:OpR X (compareOp .Lt) (rI0 fun i j=>.bl (decide (i<j))):=Zrw fun _ _ _ _ _ _ _ q=>lt_int q
theorem ZwG:OpR X (compareOp .LtE) (rI0 fun i j=>.bl (decide (i≤j))):=Zrw fun _ _ _ _ _ _ _ q=>le_int q
theorem ZwH:OpR X (compareOp .Gt) (rI0 fun i j=>.bl (decide (j<i))):=Zrw fun _ _ _ _ _ _ _ q=>gt_int q
theorem ZwI:OpR X (compareOp .GtE) (rI0 fun i j=>.bl (decide (j≤i))):=Zrw fun _ _ _ _ _ _ _ q=>ge_int q
theorem op_isN:OpR X (compareOp .Is) (fun x y H Q=>y=.non∧Q (.bl (decide (x=.non))) H):=by
 intro pins s σ H x y v u Q I rx ry h
 obtain ⟨rfl,q⟩:=h
 cases ry
 refine is_none_gen (Zo2 I q ?_)
 cases x<;>first
  | (cases rx; rfl)
  | (obtain ⟨t,rfl⟩:=rx; rfl)
theorem op_notN:OpR X (compareOp .IsNot) (fun x y H Q=>y=.non∧Q (.bl (!decide (x=.non))) H):=by
 intro pins s σ H x y v u Q I rx ry h
 obtain ⟨rfl,q⟩:=h
 cases ry
 refine isnot_none_gen (Zo2 I q ?_)
 cases x<;>first
  | (cases rx; rfl)
  | (obtain ⟨t,rfl⟩:=rx; rfl)
theorem OpR.or {f:Value→Value→Sem Value} {r r':R2} (h:OpR X f r) (h':OpR X f r'):OpR X f (fun x y H Q=>r x y H Q∨r' x y H Q):=by
 intro pins s σ H x y v u Q I rx ry q
 rcases q with q | q
 ·exact h pins s σ H x y v u Q I rx ry q
 ·exact h' pins s σ H x y v u Q I rx ry q
theorem ZoD (b:Expr) {op:CmpOp} (h:op≠.In:=by decide) (h2:op≠.NotIn:=by decide):behindInMarks op b=false:=by
 have e1:(op == CmpOp.In)=false:=by cases op<;>first | rfl | exact absurd rfl h
 have e2:(op == CmpOp.NotIn)=false:=by cases op<;>first | rfl | exact absurd rfl h2
 cases b<;>simp [behindInMarks,e1,e2]
theorem Zrt {op:CmpOp} {r:R2} (ho:OpR X (compareOp op) r) (ha:PE X a ta) (hb:PE X b tb) (hm:behindInMarks op b=false):PE X (.Compare a [op] [b] pos) (tOp r ta tb):=by
 intro pins s σ H Q I h
 exact wpAny_Compare1 (Zvn ha hb I h fun v u s2 x y H2 I2 rx ry q=>ho pins s2 σ H2 x y v u Q I2 rx ry q) hm
def Zv8 (t:TE):TT:=fun σ H Q=>t σ H fun x H'=>∃k,x=.bl k∧Q k H'
theorem Zri {op:CmpOp} {r:R2} (ho:OpR X (compareOp op) r) (ha:PE X a ta) (hb:PE X b tb) (hm:behindInMarks op b=false):PT X (.Compare a [op] [b] pos) (Zv8 (tOp r ta tb)):=by
 intro pins s σ H Q I h
 refine wpAny_isTrue_Compare1 (thn (ha pins s σ H _ I h) fun v s1 ⟨x,H1,I1,r1,q1⟩=>thn (hb pins s1 σ H1 _ I1 q1) fun u s2 ⟨y,H2,I2,r2,q2⟩=>
  thn (ho pins s2 σ H2 x y v u _ I2 r1 r2 q2) fun c s3 ⟨z,H3,I3,r3,k,e,q3⟩=>?_) hm
 subst e
 cases r3
 exact wpAny_truthy_bool ⟨H3,I3,q3⟩
def ZnV (r r':R2) (ta tb tc:TE):TE:=fun σ H Q=>ta σ H fun x H1=>tb σ H1 fun y H2=>r x y H2 fun z H3=>∃k,z=.bl k∧
 (if k=true then tc σ H3 fun w' H4=>r' y w' H4 Q else Q (.bl false) H3)
theorem Zot {op op':CmpOp} {r r':R2} (ho:OpR X (compareOp op) r) (ho':OpR X (compareOp op') r') (ha:PE X a ta) (hb:PE X b tb) (hc:PE X c tc)
  (hm:lastMarks [op,op'] [b,c]=false:=by with_unfolding_all rfl):PE X (.Compare a [op,op'] [b,c] pos) (ZnV r r' ta tb tc):=by
 intro pins s σ H Q I h
 refine Compare_chain (thn (ha pins s σ H _ I h) fun v s1 ⟨x,H1,I1,r1,q1⟩=>chain_link (thn (hb pins s1 σ H1 _ I1 q1) fun u s2 ⟨y,H2,I2,r2,q2⟩=>
  thn (ho pins s2 σ H2 x y v u _ I2 r1 r2 q2) fun d s3 ⟨z,H3,I3,r3,k,e,q3⟩=>?_)) hm
 subst e
 cases r3
 refine wpAny_truthy_bool ?_
 cases k with
 | false=>exact ite_ff ⟨.bl false,H3,I3,rfl,q3⟩
 | true=>exact ite_tt (chain_last (thn (hc pins s3 σ H3 _ I3 q3) fun w' s4 ⟨z',H4,I4,r4,q4⟩=>ho' pins s4 σ H4 y z' u w' Q I4 r2 r4 q4))
def TruV (K:PySem.W.Frag) (x:V) (H:Hp) (k:Bool):Prop:=
 match x with
 | .non=>k=false
 | .bl b=>k=b
 | .int i=>k=(i != 0)
 | .str y=>y.length≤sizeLine∧k=((y.length:Int) != 0)
 | .byt y=>y.size≤sizeLine∧k=((y.size:Int) != 0)
 | .ref p=>(∃xs,SqL K H p xs∧k=!xs.isEmpty)∨(∃xs,SqT K H p xs∧k=!xs.isEmpty)∨∃kvs,H p=some (.dK kvs)∧k=!kvs.isEmpty
 | _=>False
theorem Zln {κ:Type} {kvs:List (κ×V)} {vs:List (κ×Value)} (r:KV kvs vs):(!vs.isEmpty)=!kvs.isEmpty:=by
 cases r<;>rfl
theorem Zh7 {xs:List V} {its:List Value} (r:Vals xs its):(!its.toArray.isEmpty)=!xs.isEmpty:=by
 cases r<;>simp
theorem ZgV:(sizeLine:Nat)<2 ^ 63:=by rw [sizeLine_eq]; decide
theorem ZnJ:ZAN X (fun x H Q=>∃k,TruV X.K x H k∧Q k H):=by
 intro pins s σ H x v Q I rx h
 obtain ⟨k,e,q⟩:=h
 have hl:=ZgV
 have hs:sizeLine=16777216:=sizeLine_eq
 cases x with
 | non=>
  cases rx
  have e':k=false:=e
  subst e'
  exact truthy_none ⟨H,I,q⟩
 | bl b=>
  cases rx
  have e':k=b:=e
  subst e'
  exact wpAny_truthy_bool ⟨H,I,q⟩
 | int i=>
  obtain ⟨t,rfl⟩:=rx
  have e':k=(i != 0):=e
  subst e'
  exact PySem.P.truthy_int ⟨H,I,q⟩
 | str y=>
  obtain ⟨t,rfl⟩:=rx
  obtain ⟨hy,e'⟩:y.length≤sizeLine∧k=((y.length:Int) != 0):=e
  subst e'
  exact PySem.P.truthy_str (by omega) ⟨H,I.tok _,q⟩
 | byt y=>
  obtain ⟨t,rfl⟩:=rx
  obtain ⟨hy,e'⟩:y.size≤sizeLine∧k=((y.size:Int) != 0):=e
  subst e'
  exact PySem.W.truthy_bytes (by omega) ⟨H,I.tok _,q⟩
 | ref p=>
  cases rx
  have e':(∃xs,SqL X.K H p xs∧k=!xs.isEmpty)∨(∃xs,SqT X.K H p xs∧k=!xs.isEmpty)∨∃kvs,H p=some (.dK kvs)∧k=!kvs.isEmpty:=e
  rcases e' with ⟨xs,hx,e'⟩ | ⟨xs,hx,e'⟩ | ⟨kvs,hx,e'⟩
  ·subst e'
   obtain ⟨its,r,pl,hz⟩:=I.list hx
   have hlen:=r.length
   exact wpAny_truthy_list pl.isList (by simp only [Ye]; omega) ⟨H,I.tok _,by rw [Zh7 r]; exact q⟩
  ·subst e'
   obtain ⟨its,r,pl,hz⟩:=I.tuple hx
   have hlen:=r.length
   exact truthy_tuple pl (by simp only [Ye]; omega) ⟨H,I.tok _,by rw [Zh7 r]; exact q⟩
  ·subst e'
   obtain ⟨hz,hS,vs,r,m⟩:kvs.length≤sizeLine∧(p == sysModules)=false∧∃vs,KV kvs vs∧s.heap.DictOf (z9 X.prog X.w) p vs:=I.hok p _ hx
   have hlen:kvs.length=vs.length:=Paired.length r
   exact wpAny_truthy_dict hS m (by omega) ⟨H,I.tok _,by rw [Zln r]; exact q⟩
 | _=>exact (show False from e).elim
theorem Zoc (ha:PE X a ta) (he:∀whole,isTrue a X.env whole=(do let v ←whole; standAt a.pos; holding [v] (truthy v))) :
  PT X a (fun σ H Q=>ta σ H fun x H'=>∃k,TruV X.K x H' k∧Q k H'):=by
 intro pins s σ H Q I h
 exact isTrue_plain (thn (ha pins s σ H _ I h) fun v s1 ⟨x,H1,I1,r1,q1⟩=>ZnJ pins s1 σ H1 x v Q I1 r1 q1) (he _)
theorem op_add_str:OpR X (binaryOp .Add) (fun x y H Q=>∃i j,x=.str i∧y=.str j∧i.length+j.length≤sizeLine∧Q (.str (i++j)) H):=by
 intro pins s σ H x y v u Q I rx ry h
 obtain ⟨i,j,rfl,rfl,hz,q⟩:=h
 obtain ⟨t,rfl⟩:=rx
 obtain ⟨t',rfl⟩:=ry
 exact add_str (fun t' tk=>⟨.str (i++j),H,I.tok _,⟨_,rfl⟩,q⟩) hz
theorem ZiL {x:V} {us:List Value} (r:Vals [x] us):∃u,us=[u]∧RelV x u:=by
 cases r with
 | cons r1 r2=>cases r2; exact ⟨_,rfl,r1⟩
theorem ZnH {x y:V} {us:List Value} (r:Vals [x,y] us):∃u w',us=[u,w']∧RelV x u∧RelV y w':=by
 cases r with
 | cons r1 r2=>
  cases r2 with
  | cons r3 r4=>cases r4; exact ⟨_,_,rfl,r1,r3⟩
theorem Znt (hc:X.calm=true):CallR X (.builtin "max") (fun xs H Q=>∃i j,xs=[.int i,.int j]∧Q (.int (if j > i then j else i)) H):=by
 intro pins s σ H xs us Q I r h
 obtain ⟨i,j,rfl,q⟩:=h
 obtain ⟨u,w',rfl,⟨t,rfl⟩,⟨t',rfl⟩⟩:=ZnH r
 refine max_two_ints (I.ok.hd hc) fun h' tk k=>⟨_,H,I.kept k,?_,q⟩
 by_cases hj:j > i
 ·rw [if_pos hj,if_pos hj]; exact ⟨_,rfl⟩
 ·rw [if_neg hj,if_neg hj]; exact ⟨_,rfl⟩
theorem Zns (hc:X.calm=true):CallR X (.builtin "min") (fun xs H Q=>∃i j,xs=[.int i,.int j]∧Q (.int (if j<i then j else i)) H):=by
 intro pins s σ H xs us Q I r h
 obtain ⟨i,j,rfl,q⟩:=h
 obtain ⟨u,w',rfl,⟨t,rfl⟩,⟨t',rfl⟩⟩:=ZnH r
 refine min_two_ints (I.ok.hd hc) fun h' tk k=>⟨_,H,I.kept k,?_,q⟩
 by_cases hj:j<i
 ·rw [if_pos hj,if_pos hj]; exact ⟨_,rfl⟩
 ·rw [if_neg hj,if_neg hj]; exact ⟨_,rfl⟩
end
structure ObjM (h:Heap) (x dx C:Addr) (mA:Str→Option Value):Prop where
 obj:h.get? x=some (PySem.W.instObj C dx)
 ns:h.Ns1 dx mA
 ne:dx≠x
theorem Znd {h:Heap} {dx:Addr} {mA:Str→Option Value} (n:h.Ns1 dx mA):∃od,h.get? dx=some od∧∀name,PySem.W.lookIn name od=some (mA name):=by
 obtain ⟨o,es,ep,ho,hd,hk,_,hm⟩:=n
 refine ⟨o,ho,fun name=>?_⟩
 have e:=hm name
 unfold nsFind findBy at e
 rw [←Array.find?_toList] at e
 unfold PySem.W.lookIn
 rw [hd]
 dsimp only
 split
 ·rename_i y q
  rw [q] at e
  exact congrArg some e
 ·rename_i q
  rw [q] at e
  have a:es.toList.any (·.refKey)=false:=by
   rw [List.any_eq_false]
   intro y hy
   obtain ⟨z,t,hkey⟩:=hk y (Array.mem_toList_iff.mp hy)
   simp [DictEntry.refKey,hkey]
  have a':¬es.toList.any (·.refKey)=true:=by rw [a]; exact Yi
  rw [if_neg a']
  exact congrArg some e
theorem ObjM.look {h:Heap} {x dx C:Addr} {mA:Str→Option Value} (I:ObjM h x dx C mA):∃od,PySem.W.InstAt h x (PySem.W.instObj C dx) C (some od)∧∀name,PySem.W.lookIn name od=some (mA name):=
 let ⟨od,ho,hl⟩:=Znd I.ns
 ⟨od,⟨I.obj,rfl,rfl,ho⟩,hl⟩
section
variable {prog:Program} {w:World} {A:Around} {E:Value→Shared→Prop} {s:Shared} {K:PySem.W.Frag} {x dx C f:Addr} {mA:Str→Option Value} {name:Str} {v:Value}
theorem ZrP {expr:Bool} {Q:Value→Shared→Prop} (X:K.In s.heap) (I:ObjM s.heap x dx C mA) (hg:PySem.W.plainGet K C name=true) (hh:PySem.W.hasDictIn K C=true)
  (ha:PySem.W.findIn K (.ref C) name=some none) (hv:mA name=some v) (hv':PySem.W.handedIn v=true) (h:Q v { s with toks:=s.toks+1 }) :
  wpAny (model prog w) A (getAttr (.ref x) name expr) Q E s:=by
 obtain ⟨od,J,hl⟩:=I.look
 exact PySem.W.get_value X J (PySem.W.plainGet_of hg).1 (PySem.W.findObj_own hh ha rfl (by rw [hl,hv])) hv' h
theorem ZoZ {pl:Sem Bool} {Q:Value×List Value→Shared→Prop} (X:K.In s.heap) (I:ObjM s.heap x dx C mA) (hg:PySem.W.plainGet K C name=true)
  (hf:PySem.W.findIn K (.ref C) name=some (some (.ref f))) (ht:PySem.W.isFn K (.ref f)=true) (hv:mA name=none) (h:Q (.ref f,[.ref x]) s) :
  wpAny (model prog w) A (getMethod (.ref x) name pl) Q E s:=by
 obtain ⟨od,J,hl⟩:=I.look
 exact PySem.W.method_fn X J (PySem.W.plainGet_of hg).1 (PySem.W.plainGet_of hg).2 hf (beq_iff_eq.mp ht) (by show (PySem.W.lookIn name od).map (·.isSome)=some false; rw [hl,hv]; rfl) h
theorem Zra {ns:List Str} {Q:Unit→Shared→Prop} (X:K.In s.heap) (I:ObjM s.heap x dx C mA)
  (hs:PySem.W.findIn K (.ref C) "__setattr__"=some (some (.builtin "object.__setattr__"))) (hp:PySem.W.plainOver K C=true) (ht:PySem.W.takerIn K C name=some none) (hh:PySem.W.hasDictIn K C=true)
  (hw:PySem.Within mA ns) (hsz:ns.length≤sizeLine)
  (h:∀h',ObjM h' x dx C (fun y=>if y=name then some v else mA y)→Heap.SameBut dx s.heap h'→Q () { s with heap:=h',toks:=s.toks+2 }) :
  wpAny (model prog w) A (setAttr (.ref x) name v) Q E s:=by
 obtain ⟨od,J,hl⟩:=I.look
 refine PySem.W.set_plain X J hs (PySem.W.osa_open (s:={ s with toks:=s.toks+1 }) (r:=none) X J hp ht fun b=>?_)
 obtain ⟨cd,hc,hd'⟩:=PySem.W.any_some hh
 have hx:s.heap.get? x=some ⟨.ref C,some dx,.plain,#[]⟩:=I.obj
 refine wpAny_bind (wpAny_pure (wpAny_bind (wpAny_bind (wpAny_loadPart hx (wpAny_bind (PySem.W.Looks.here (s:={ s with toks:=s.toks+1 }) (PySem.W.looks_clsIn X hc) ?_))))))
 rw [hd']
 refine wpAny_pure (a:=some dx) (wpAny_bind (wpAny_pure (wpAny_bind ?_)))
 refine wpAny_nsSet1 (s:={ s with toks:=s.toks+1 }) I.ns fun h' hn2 hs2=>?_
 obtain ⟨oD,esD,epD,hoD,hdD,hcD⟩:=hn2.count (PySem.Within.cons name v hw)
 refine wpAny_bind (wpAny_lookBehind hoD (by rw [hdD]; exact pastItsLine_dict (Yt hcD (by rw [Yb]; omega))) ?_)
 exact wpAny_pure (h _ ⟨(hs2.2 _ (Ne.symm I.ne)).trans I.obj,hn2,I.ne⟩ hs2)
theorem ZoL {R:Result→Shared→Prop} {vs:List Value} {kw:List (Str×Value)} (X:K.In s.heap) (hm:PySem.W.makesIn K C=true)
  (hi:PySem.W.findIn K (.ref C) "__init__"=some (some (.ref f))) (hf:PySem.W.typeIn K (.ref f)=some (.type "function"))
  (h:codeAny (model prog w) (A.under (.builtin "type.__call__" ⟨.ref C::vs,kw⟩)) (.call (.ref f) ⟨.ref (s.heap.objs.size+1)::vs,kw⟩) (PySem.W.InitBack (s.heap.objs.size+1) R)
   { s with heap:=(s.heap.push PySem.W.emptyDict).push (PySem.W.instObj C s.heap.objs.size) }) :
  codeAny (model prog w) A (.call (.ref C) ⟨vs,kw⟩) R s:=by
 obtain ⟨hh,g,d,t,os⟩:=s
 exact PySem.W.make_core (PySem.W.makes_of X hm) (PySem.W.looks_findIn X hi) (fun self=>PySem.W.bind_fn X self hf) (.inl rfl) h
end
def Zd2 (f:Str) (v:V):List (Str×V)→List (Str×V)
 | []=>[(f,v)]
 | (g,x)::r=>if g=f then (g,v)::r else (g,x)::Zd2 f v r
theorem Zha (f g:Str) (v:V):∀fs:List (Str×V),(Zd2 f v fs).lookup g=if g=f then some v else fs.lookup g
 | []=>by
  show List.lookup g [(f,v)]=_
  by_cases h:g=f
  ·have hb:(g == f)=true:=beq_iff_eq.mpr h
   simp only [List.lookup,hb,if_pos h]
  ·have hb:(g == f)=false:=beq_eq_false_iff_ne.mpr h
   simp only [List.lookup,hb,if_neg h]
 | (k,x)::r=>by
  have ih:=Zha f g v r
  rw [show Zd2 f v ((k,x)::r)=(if k=f then (k,v)::r else (k,x)::Zd2 f v r) from rfl]
  by_cases hk:k=f
  ·rw [if_pos hk]
   by_cases h:g=k
   ·have hb:(g == k)=true:=beq_iff_eq.mpr h
    simp only [List.lookup,hb,if_pos (h.trans hk)]
   ·have hb:(g == k)=false:=beq_eq_false_iff_ne.mpr h
    simp only [List.lookup,hb,if_neg (fun e:g=f=>h (e.trans hk.symm))]
  ·rw [if_neg hk]
   by_cases h:g=k
   ·have hb:(g == k)=true:=beq_iff_eq.mpr h
    simp only [List.lookup,hb,if_neg (fun e:g=f=>hk (h.symm.trans e))]
   ·have hb:(g == k)=false:=beq_eq_false_iff_ne.mpr h
    simp only [List.lookup,hb]
    exact ih
theorem ZgX (f:Str) (v:V):∀fs:List (Str×V),f∈(Zd2 f v fs).map (·.1)∧∀g,g∈fs.map (·.1)→g∈(Zd2 f v fs).map (·.1)
 | []=>⟨by simp [Zd2],fun g h=>by simp at h⟩
 | (k,x)::r=>by
  obtain ⟨i1,i2⟩:=ZgX f v r
  rw [show Zd2 f v ((k,x)::r)=(if k=f then (k,v)::r else (k,x)::Zd2 f v r) from rfl]
  by_cases hk:k=f
  ·rw [if_pos hk]
   subst hk
   exact ⟨by simp,fun g h=>by simpa using h⟩
  ·rw [if_neg hk]
   refine ⟨?_,fun g h=>?_⟩
   ·rw [Yf]
    exact Yq _ i1
   ·rw [Yf] at h ⊢
    rcases Yr.mp h with e | e
    ·exact Yr.mpr (.inl e)
    ·exact Yq _ (i2 g e)
theorem Zhb (f:Str) (v:V):∀fs:List (Str×V),(Zd2 f v fs).length≤fs.length+1
 | []=>by simp [Zd2]
 | (k,x)::r=>by
  have ih:=Zhb f v r
  rw [show Zd2 f v ((k,x)::r)=(if k=f then (k,v)::r else (k,x)::Zd2 f v r) from rfl]
  by_cases hk:k=f
  ·rw [if_pos hk,Yb,Yb]; omega
  ·rw [if_neg hk,Yb,Yb]; omega
theorem RelO.some_of {v:V} {o:Option Value} (r:RelO (some v) o):∃u,o=some u∧RelV v u:=by
 cases o with
 | none=>exact (show False from r).elim
 | some u=>exact ⟨u,rfl,r⟩
theorem RelO.none_of {o:Option Value} (r:RelO none o):o=none:=by
 cases o with
 | none=>rfl
 | some u=>exact (show False from r).elim
theorem Znj {v:V} {u:Value} (r:RelV v u):PySem.W.handedIn u=true:=by
 cases v with
 | non=>cases (show u=Value.none from r); rfl
 | bl b=>cases (show u=Value.bool b from r); rfl
 | int i=>obtain ⟨t,e⟩:=(show ∃t,u=Value.int i t from r); cases e; rfl
 | str x=>obtain ⟨t,e⟩:=(show ∃t,u=Value.str x t from r); cases e; rfl
 | byt b=>obtain ⟨t,e⟩:=(show ∃t,u=Value.bytes b t from r); cases e; rfl
 | flt b=>obtain ⟨t,e⟩:=(show ∃t,u=Value.float b t from r); cases e; rfl
 | ref a=>cases (show u=Value.ref a from r); rfl
 | ty n=>cases (show u=Value.type n from r); rfl
section
variable {P:Program} {w:World} {H H':Hp} {h h':Heap} {a C dx:Addr} {fs fs':List (Str×V)}
theorem ZjE (hok:HOk P w H h) (e:H a=some (.ins C dx fs)):∃mA,ObjM h a dx C mA∧(∀f,RelO (fs.lookup f) (mA f))∧PySem.Within mA (fs.map (·.1))∧fs.length≤1000∧H dx=some (.own a):=by
 obtain ⟨d,z,ne,ob,mA,n,r,q⟩:=(show ObjOk P w H h a (.ins C dx fs) from hok a _ e)
 exact ⟨mA,⟨ob,n,ne⟩,r,q,z,d⟩
end
structure Cls (K:PySem.W.Frag) (C:Addr):Prop where
 pg:PySem.W.plainGet K C Str.empty=true
 hd:PySem.W.hasDictIn K C=true
 po:PySem.W.plainOver K C=true
 sa:PySem.W.findIn K (.ref C) "__setattr__"=some (some (.builtin "object.__setattr__"))
theorem Cls.get {K:PySem.W.Frag} {C:Addr} (c:Cls K C) (f:Str):PySem.W.plainGet K C f=true:=c.pg
def NoAttr (K:PySem.W.Frag) (C:Addr) (f:Str):Prop:=PySem.W.findIn K (.ref C) f=some none
theorem NoAttr.taker {K:PySem.W.Frag} {C:Addr} {f:Str} (n:NoAttr K C f):PySem.W.takerIn K C f=some none:=by
 unfold PySem.W.takerIn
 rw [show PySem.W.findIn K (.ref C) f=some none from n]
 rfl
structure Con (K:PySem.W.Frag) (C:Addr) (f:Str) (v:V) (u:Value):Prop where
 at_:PySem.W.findIn K (.ref C) f=some (some u)
 rel:RelV v u
 get:PySem.W.specialIn K u "__get__"=some none
 cp:PySem.W.copiedNames.contains f=false
structure Znv (K:PySem.W.Frag) (C:Addr) (m:Str) (f:Addr):Prop where
 at_:PySem.W.findIn K (.ref C) m=some (some (.ref f))
 fn:PySem.W.isFn K (.ref f)=true
 kp:PySem.W.keepIn K (.ref f)=true
section
variable {X:Cx} {pins:List (Addr×Obj)} {σ:St} {H:Hp} {s:Shared} {a C dx:Addr} {fs:List (Str×V)} {f:Str} {v:V} {A:Around} {E:Value→Shared→Prop}
theorem Zlp {b:Bool} {Q:Value→Shared→Prop} (I:Inv X pins σ H s) (e:H a=some (.ins C dx fs)) (c:Cls X.K C) (n:NoAttr X.K C f) (l:fs.lookup f=some v)
  (h:∀u s',Inv X pins σ H s'→RelV v u→Q u s'):wpAny (model X.prog X.w) A (getAttr (.ref a) f b) Q E s:=by
 obtain ⟨mA,O,r,_,_,_⟩:=ZjE I.hok e
 obtain ⟨u,hu,ru⟩:=RelO.some_of (v:=v) (o:=mA f) (by rw [←l]; exact r f)
 exact ZrP I.kIn O (c.get f) c.hd n hu (Znj ru) (h u _ (I.tok _) ru)
theorem Zic {m:Str} {g:Addr} {pl:Sem Bool} {Q:Value×List Value→Shared→Prop} (I:Inv X pins σ H s) (e:H a=some (.ins C dx fs)) (c:Cls X.K C) (k:Znv X.K C m g) (l:fs.lookup m=none)
  (h:Q (.ref g,[.ref a]) s):wpAny (model X.prog X.w) A (getMethod (.ref a) m pl) Q E s:=by
 obtain ⟨mA,O,r,_,_,_⟩:=ZjE I.hok e
 have hn:mA m=none:=RelO.none_of (by rw [←l]; exact r m)
 exact ZoZ I.kIn O (c.get m) k.at_ k.fn hn h
theorem Zk2 {y:V} {u:Value} {Q:Unit→Shared→Prop} (I:Inv X pins σ H s) (e:H a=some (.ins C dx fs)) (c:Cls X.K C) (n:NoAttr X.K C f) (hl:fs.length<1000) (ry:RelV y u)
  (h:∀s',Inv X pins σ (upd H a (.ins C dx (Zd2 f y fs))) s'→Q () s'):wpAny (model X.prog X.w) A (setAttr (.ref a) f u) Q E s:=by
 obtain ⟨mA,O,r,wi,_,ho⟩:=ZjE I.hok e
 have hz:(fs.map (·.1)).length≤sizeLine:=by rw [List.length_map,sizeLine_eq]; omega
 refine Zra I.kIn O c.sa c.po n.taker c.hd wi hz fun h' O' sb=>h _ ?_
 have hd:∃o,h'.get? dx=some o:=let ⟨o,_,_,e',_⟩:=O'.ns; ⟨o,e'⟩
 refine I.write (x:=a) (e:=dx) (by rw [e]; exact True.intro) (.inr ho) (fun b q hb z=>(sb.2 b hb).trans z) hd ?_
 refine ⟨by rw [ZS O.ne]; exact ho,?_,O.ne,O'.obj,_,O'.ns,fun g=>?_,fun g hg=>?_⟩
 ·have:=Zhb f y fs; omega
 ·show RelO ((Zd2 f y fs).lookup g) (if g=f then some u else mA g)
  rw [Zha]
  by_cases q:g=f
  ·rw [if_pos q,if_pos q]; exact ry
  ·rw [if_neg q,if_neg q]; exact r g
 ·by_cases q:g=f
  ·rw [q]; exact (ZgX f y fs).1
  ·refine (ZgX f y fs).2 g (wi g fun z=>hg ?_)
   show (if g=f then some u else mA g)=none
   rw [if_neg q]; exact z
theorem Inv.made (I:Inv X pins σ H s):Inv X pins σ (upd (upd H s.heap.objs.size (.own (s.heap.objs.size+1))) (s.heap.objs.size+1) (.ins C s.heap.objs.size []))
  { s with heap:=(s.heap.push PySem.W.emptyDict).push (PySem.W.instObj C s.heap.objs.size) }:=by
 have e1:(s.heap.push PySem.W.emptyDict).get? s.heap.objs.size=some PySem.W.emptyDict:=Heap.get?_push_size s.heap rfl
 have e2:((s.heap.push PySem.W.emptyDict).push (PySem.W.instObj C s.heap.objs.size)).get? (s.heap.objs.size+1)=some (PySem.W.instObj C s.heap.objs.size):=by
  have:=Heap.get?_push_size (s.heap.push PySem.W.emptyDict) (o:=PySem.W.instObj C s.heap.objs.size) rfl
  rwa [Heap.size_push] at this
 have e3:(s.heap.push PySem.W.emptyDict).Ns s.heap.objs.size (fun _=>none):=⟨PySem.W.emptyDict,#[],_,e1,rfl,(fun e he=>absurd he (by simp)),fun _=>rfl⟩
 have I1:=I.laid (a:=s.heap.objs.size) (o:=.own (s.heap.objs.size+1)) (h':=s.heap.push PySem.W.emptyDict) (t':=s.toks) (fun b u q=>Heap.get?_push_of_some _ q) (Yd _) ⟨_,e1⟩
 refine I1.laid (a:=s.heap.objs.size+1) (o:=.ins C s.heap.objs.size []) (t':=s.toks) (fun b u q=>Heap.get?_push_of_some _ q) (Nat.le_of_eq (Heap.size_push _ _)) ?_
 have ne:s.heap.objs.size≠s.heap.objs.size+1:=Yp (YD _)
 refine ⟨by rw [ZS ne,zd],YB _,ne,e2,fun _=>none,(Heap.Ns1.of_empty e3).at fun o q=>Heap.get?_push_of_some _ q,fun _=>True.intro,fun y hy=>absurd rfl hy⟩
theorem Zr4 {prog:Program} {w:World} {env:Env} {e:Expr} {f:Str} {pos:Pos} {s:Shared} {Q:Value→Shared→Prop} (hb:attributeBase e f env (eval e env)=eval e env)
  (h:wpAny (model prog w) A (eval e env) (fun o s₁=>wpAny (model prog w) A (getAttr o f true) Q E s₁) E s):wpAny (model prog w) A (eval (.Attribute e f pos) env) Q E s:=
 Attribute_any_ h (by rw [arm_eval_Attribute,hb])
end
def Zz6 (K:PySem.W.Frag) (ta:TE) (f:Str):TE:=fun σ H Q=>ta σ H fun x H1=>∃a C dx fs v,x=.ref a∧H1 a=some (.ins C dx fs)∧Cls K C∧NoAttr K C f∧fs.lookup f=some v∧Q v H1
def ZAd (K:PySem.W.Frag) (ta tv:TE) (f:Str):TS:=fun D σ H=>tv σ H fun y H1=>ta σ H1 fun x H2=>∃a C dx fs,x=.ref a∧H2 a=some (.ins C dx fs)∧Cls K C∧NoAttr K C f∧fs.length<1000∧
 D.nx σ (upd H2 a (.ins C dx (Zd2 f y fs)))
section
variable {X:Cx} {o e value:Expr} {f:Str} {pos pos' tpos:Pos} {ta tv:TE}
theorem ZuO (he:PE X e ta) (hb:attributeBase e f X.env (eval e X.env)=eval e X.env):PE X (.Attribute e f pos) (Zz6 X.K ta f):=by
 intro pins s σ H Q I h
 refine Zr4 hb (thn (he pins s σ H _ I h) fun u s1 ⟨x,H1,I1,rx,a,C,dx,fs,v,ex,ea,c,n,l,q⟩=>?_)
 subst ex
 obtain rfl:u=Value.ref a:=rx
 exact Zlp I1 ea c n l fun u' s2 I2 ru=>⟨v,H1,I2,ru,q⟩
theorem ZuC (ha:PE X o ta) (hv:PE X value tv) (hs:swapsWith value (some (.Attribute o f pos')) pos.line X.env=pure false):PS X (.Assign [.Attribute o f pos'] value pos) (ZAd X.K ta tv f):=by
 intro pins s σ H D I h
 refine plainObj_wpAny_Assign_Attribute (thn (hv pins s σ H _ I h) fun u s1 ⟨y,H1,I1,ry,q⟩=>thn (ha pins s1 σ H1 _ I1 q) fun ov s2 ⟨x,H2,I2,rx,a,C,dx,fs,ex,ea,c,n,l,q2⟩=>?_) hs
 subst ex
 obtain rfl:ov=Value.ref a:=rx
 exact Zk2 I2 ea c n l ry fun s3 I3=>⟨σ,_,I3,q2⟩
theorem Zsy {pl:Sem Bool} {m:Str} {apos:Pos} {args:List Expr} {pins:List (Addr×Obj)} {s:Shared} {σ:St} {H:Hp} {Q:Value→Shared→Prop} {te:TE} (he:PE X e te) (I:Inv X pins σ H s)
  (h:te σ H fun x H1=>∃a C dx fs g,x=.ref a∧H1 a=some (.ins C dx fs)∧Cls X.K C∧Znv X.K C m g∧fs.lookup m=none∧
   ∀s1,Inv X pins σ H1 s1→wpAny (model X.prog X.w) X.A (callWith pos (.ref g) [.ref a] (backTo pos (starEach args X.env)) (backToKw pos (keywordEach [] X.env))) Q X.xe s1)
  (ht:eval (.Call (.Attribute e m apos) args [] pos) X.env=(do
   let ov ←eval e X.env
   standAt apos.atName
   let (f,first) ←holding [ov] (getMethod ov m pl)
   callWith pos f first (backTo pos (starEach args X.env)) (backToKw pos (keywordEach [] X.env)))) :
  wpAny (model X.prog X.w) X.A (eval (.Call (.Attribute e m apos) args [] pos) X.env) Q X.xe s:=by
 refine PySem.W.methodCall_KW (pl:=pl) (thn (he pins s σ H _ I h) fun u s1 ⟨x,H1,I1,rx,a,C,dx,fs,g,ex,ea,c,k,l,q⟩=>?_) ht
 subst ex
 obtain rfl:u=Value.ref a:=rx
 exact Zic I1 ea c k l (q s1 I1)
end
section
variable {X:Cx} {pins:List (Addr×Obj)} {σ:St} {H:Hp} {s:Shared} {A:Around} {E:Value→Shared→Prop} {Q:Value→Shared→Prop} {c:Value} {b:Bool}
inductive Ziy (K:PySem.W.Frag) (H:Hp):V→Value→Prop where
 | non:Ziy K H .non (.type "NoneType")
 | bl (x:Bool):Ziy K H (.bl x) (.type "bool")
 | int (i:Int):Ziy K H (.int i) (.type "int")
 | str (x:Str):Ziy K H (.str x) (.type "str")
 | flt (x:UInt64):Ziy K H (.flt x) (.type "float")
 | lst {a:Addr} {xs:List V} (e:H a=some (.lst xs)):Ziy K H (.ref a) (.type "list")
 | frz {a:Addr} {o:Obj} {xs:List V} (e:H a=some (.frz o (.lst xs))):Ziy K H (.ref a) (.type "list")
 | tup {a:Addr} {xs:List V} (e:H a=some (.tup xs)):Ziy K H (.ref a) (.type "tuple")
 | dK {a:Addr} {kvs:List (Key×V)} (e:H a=some (.dK kvs)):Ziy K H (.ref a) (.type "dict")
 | dT {a:Addr} {kvs:List (List Key×V)} (e:H a=some (.dT kvs)):Ziy K H (.ref a) (.type "dict")
 | ins {a C dx:Addr} {fs:List (Str×V)} (e:H a=some (.ins C dx fs)) (cl:Cls K C) (ha:PySem.W.findIn K (.ref C) "__class__"=some (some (.builtin "object.__class__")))
   (hn:PySem.W.specialIn K (.builtin "object.__class__") "__get__"=some (some (.builtin "getset_descriptor.__get__"))) (htk:PySem.W.takesIn K (.builtin "object.__class__")=some true)
   (hm:PySem.W.mroIn K C (.type "object")=some true):Ziy K H (.ref a) (.ref C)
end
structure Room (k:Nat) (A:Around):Prop where
 hd:A.handled=none
 dp:A.depth+3*k+5<recursionLimit
 un:A.units+16*k+200<cLine
theorem Room.mono {j k:Nat} {A:Around} (r:Room k A) (h:j≤k):Room j A:=⟨r.hd,by have:=r.dp; omega,by have:=r.un; omega⟩
theorem Room.deeper {k:Nat} {A:Around} (r:Room (k+1) A) (env:Env):Room k (A.deeper env):=
 ⟨r.hd,by have:=r.dp; show A.depth+1+3*k+5<_; omega,by have:=r.un; show A.units+3+16*k+200<_; omega⟩
theorem Zlh {A:Around} {C:Addr} {us:List Value} {kw:List (Str×Value)}:(A.under (.builtin "type.__call__" ⟨.ref C::us,kw⟩)).depth=A.depth+1:=by
 first | rfl | simp [Around.under,Code.weight,Code.isCreation,Code.isGuard,Code.isCaller,Code.frames,Code.isFrame,guardIds]
theorem Zlg {A:Around} {C:Addr} {us:List Value} {kw:List (Str×Value)}:(A.under (.builtin "type.__call__" ⟨.ref C::us,kw⟩)).units=A.units+1:=by
 first | rfl | simp [Around.under,Code.cUnits,Code.frames,Code.isFrame]
theorem Room.make {k:Nat} {A:Around} (r:Room (k+1) A) (C:Addr) (us:List Value) (kw:List (Str×Value)):Room k (A.under (.builtin "type.__call__" ⟨.ref C::us,kw⟩)):=
 ⟨r.hd,by have:=r.dp; rw [Zlh]; omega,by have:=r.un; rw [Zlg]; omega⟩
theorem Room.depth {k:Nat} {A:Around} (r:Room k A):A.depth<recursionLimit:=by have:=r.dp; omega
theorem Room.units {k:Nat} {A:Around} (r:Room k A):A.units+64<cLine:=by have:=r.un; omega
def ZnT:TA:=fun _ H Q=>Q [] H
def ZlJ (ta:TE) (tr:TA):TA:=fun σ H Q=>ta σ H fun x H1=>tr σ H1 fun xs H2=>Q (x::xs) H2
section
variable {X:Cx} {e:Expr} {es:List Expr} {te:TE} {t:TA} {pos:Pos}
theorem ZfG:PA X [] ZnT:=fun _ _ _ _ H Q I h=>Calls.spliced_nil ⟨[],H,I,.nil,h⟩
theorem Zer (ha:PE X e te) (hr:PA X es t) (hs:starEach (e::es) X.env=(false,eval e X.env)::starEach es X.env:=by rfl):PA X (e::es) (ZlJ te t):=by
 intro pos pins s σ H Q I h
 rw [hs]
 show wpAny _ _ (spliced ((false,eval e X.env)::backTo pos (starEach es X.env))) _ _ s
 refine Calls.spliced_cons (thn (ha pins s σ H _ I h) fun u s1 ⟨x,H1,I1,r1,q1⟩=>?_)
 exact thn (hr pos pins s1 σ H1 _ I1 q1) fun us s2 ⟨xs,H2,I2,r2,q2⟩=>⟨x::xs,H2,I2,.cons r1 r2,q2⟩
def ZzX (t:TA):TE:=fun σ H Q=>t σ H fun xs H1=>xs.length≤sizeLine∧∀p,H1 p=none→Q (.ref p) (upd H1 p (.tup xs))
def Zz3 (t:TA):TE:=fun σ H Q=>t σ H fun xs H1=>xs.length≤sizeLine∧∀p,H1 p=none→Q (.ref p) (upd H1 p (.lst xs))
theorem ZuI {x1} (h:PA X es t):PE X (.Tuple es x1 pos) (ZzX t):=by
 intro pins s σ H Q I hq
 refine wpAny_Tuple_spliced (thn (h pos pins s σ H _ I hq) fun us s1 ⟨xs,H1,I1,r,z,q⟩=>⟨by rw [←r.length]; exact z,?_⟩)
 have hf:H1 s1.heap.objs.size=none:=I1.hok.fresh (Yd _)
 refine ⟨.ref s1.heap.objs.size,upd H1 s1.heap.objs.size (.tup xs),I1.laid (t':=s1.toks) (fun b u e=>Heap.get?_push_of_some _ e) (Yd _) ?_,rfl,q _ hf⟩
 exact ⟨z,us,r,⟨_,Heap.get?_push_size _ rfl,rfl,_,rfl⟩⟩
theorem Zk8 (h:PA X es t):PE X (.List es pos) (Zz3 t):=by
 intro pins s σ H Q I hq
 refine wpAny_List_spliced (thn (h pos pins s σ H _ I hq) fun us s1 ⟨xs,H1,I1,r,z,q⟩=>⟨by rw [←r.length]; exact z,?_⟩)
 have hf:H1 s1.heap.objs.size=none:=I1.hok.fresh (Yd _)
 refine ⟨.ref s1.heap.objs.size,upd H1 s1.heap.objs.size (.lst xs),I1.laid (t':=s1.toks) (fun b u e=>Heap.get?_push_of_some _ e) (Yd _) ?_,rfl,q _ hf⟩
 exact ⟨z,us,0,r,Heap.get?_push_size _ rfl⟩
end
abbrev Sp:=List V→Hp→VK→XK→Prop
abbrev CXT:=List Env→Hp→Shared→XK→Value→Shared→Prop
structure Env0 (P:Program) (w:World) (K:PySem.W.Frag) (mg:Str→Option Value) (base:Heap) (A:Around) (outer:List Env) (s:Shared) (H:Hp):Prop where
 frames:A.frames=some outer
 mod:Mod K mg base
 bs:∀b o,base.get? b=some o→s.heap.get? b=some o∧H b=none
 bsz:base.objs.size≤s.heap.objs.size
 funs:s.heap.FunFrames base outer
 frf:∀b∈frs outer,H b=none
 hok:HOk P w H s.heap
 bare:AllBare s.gens
def CE (outer:List Env) (P:Program) (w:World) (H:Hp) (s:Shared) (Q:VK) (u:Value) (s':Shared):Prop:=
 ∃v H',s'.os=s.os∧AllBare s'.gens∧Un (frs outer) [] H H' s.heap s'.heap∧HOk P w H' s'.heap∧RelV v u∧Q v H'
def CR (CX:CXT) (outer:List Env) (P:Program) (w:World) (H:Hp) (s:Shared) (Q:VK) (E:XK) (r:Result) (s':Shared):Prop:=
 match r with
 | .ok (.ret u)=>CE outer P w H s Q u s'
 | .ok _=>False
 | .error e=>CX outer H s E e s'
structure FnOk (P:Program) (w:World) (K:PySem.W.Frag) (mg:Str→Option Value) (base:Heap) (CX:CXT) (k:Nat) (f:Addr) (fd:FuncData) (ps:List Str) (sp:Sp):Prop where
 len:∀vs H Q E,sp vs H Q E→vs.length=ps.length
 run:∀(A:Around) (outer:List Env) (s:Shared) (H:Hp) (args:Args) (us:List Value) (vs:List V) (Q:VK) (E:XK),Room k A→Env0 P w K mg base A outer s H→BindsTo s fd args (ps.zip us)→Vals vs us→sp vs H Q E→
  codeAny (model P w) A (.call (.ref f) args) (CR CX outer P w H s Q E) s
theorem FnOk.imp {P:Program} {w:World} {K:PySem.W.Frag} {mg:Str→Option Value} {base:Heap} {CX:CXT} {k:Nat} {f:Addr} {fd:FuncData} {ps:List Str} {sp sp':Sp} (F:FnOk P w K mg base CX k f fd ps sp)
  (h:∀vs H Q E,sp' vs H Q E→sp vs H Q E):FnOk P w K mg base CX k f fd ps sp':=
 ⟨fun vs H Q E q=>F.len vs H Q E (h _ _ _ _ q),fun A outer s H args us vs Q E hr he hb hv hs=>F.run A outer s H args us vs Q E hr he hb hv (h _ _ _ _ hs)⟩
theorem Env0.make {P:Program} {w:World} {K:PySem.W.Frag} {mg:Str→Option Value} {base:Heap} {A:Around} {outer:List Env} {s:Shared} {H:Hp} (e:Env0 P w K mg base A outer s H) (C:Addr) (us:List Value) (kw:List (Str×Value)) :
  Env0 P w K mg base (A.under (.builtin "type.__call__" ⟨.ref C::us,kw⟩)) outer s H:=⟨by first | exact e.frames | (simpa [Around.under,Code.envs,Code.isFrame,pushEnvs] using e.frames),e.mod,e.bs,e.bsz,e.funs,e.frf,e.hok,e.bare⟩
section
variable {X:Cx} {pins:List (Addr×Obj)} {σ:St} {H:Hp} {s s':Shared}
theorem Inv.env0 (I:Inv X pins σ H s):Env0 X.prog X.w X.K X.mg X.base X.A X.stack s H:=
 ⟨I.ok.frames,I.ok.mod,I.bs,Yt I.ok.bsz I.sz,I.stack,I.stkFree,I.hok,I.bare⟩
theorem Inv.after {Q:VK} {u:Value} (I:Inv X pins σ H s) (h:CE X.stack X.prog X.w H s Q u s'):EP X pins σ Q u s':=by
 obtain ⟨v,H',os,bare,un,hok,r,q⟩:=h
 obtain ⟨hh,g,d,t,os'⟩:=s'
 obtain rfl:os'=s.os:=os
 exact ⟨v,H',I.call (h':=hh) (g':=g) (d':=d) (t':=t) (ch:=[]) un hok bare (fun b z=>absurd z (by simp)),r,q⟩
end
def Zsn (sp:Sp) (dvs:List V) (E:XK) (t:TA):TE:=fun σ H Q=>t σ H fun vs H1=>sp (vs++dvs) H1 Q E
def Zwc (C:Addr) (m:Str) (sp:Sp) (dvs:List V) (E:XK) (ta:TE) (t:TA):TE:=fun σ H Q=>ta σ H fun x H1=>∃a dx fs,x=.ref a∧H1 a=some (.ins C dx fs)∧fs.lookup m=none∧
 t σ H1 fun vs H2=>sp (x::(vs++dvs)) H2 Q E
def Zsl (C:Addr) (sp:Sp) (dvs:List V) (E:XK) (t:TA):TE:=fun σ H Q=>t σ H fun vs H1=>∀x dx,H1 x=none→H1 dx=none→dx≠x→
 sp (.ref x::(vs++dvs)) (upd (upd H1 dx (.own x)) x (.ins C dx [])) (fun v H2=>v=.non∧Q (.ref x) H2) E
def Binds (K:PySem.W.Frag) (fd:FuncData) (ps:List Str) (ds:List Value):Prop:=
 ∀(s:Shared) (us:List Value),K.In s.heap→(us++ds).length=ps.length→BindsTo s fd ⟨us,[]⟩ (ps.zip (us++ds))
theorem Binds.all {K:PySem.W.Frag} {fd:FuncData} {ps:List Str} (h:∀us:List Value,us.length=ps.length→bindArgs fd ⟨us,[]⟩=pure (ps.zip us)):Binds K fd ps []:=fun s us _ hl=>by
 rw [YC] at hl ⊢
 exact .of_eq (h us hl)
def ZfZ (CX:CXT) (X:Cx) (E:XK):Prop:=∀(pins:List (Addr×Obj)) (σ:St) (H:Hp) (s:Shared) (e:Value) (s':Shared),Inv X pins σ H s→CX X.stack H s E e s'→X.xe e s'
section
variable {X:Cx} {CX:CXT} {k:Nat} {f C:Addr} {fd:FuncData} {ps:List Str} {sp:Sp} {dvs:List V} {ds:List Value} {E:XK} {x m:Str} {p pos apos:Pos} {e o:Expr} {es:List Expr} {ta:TE} {t:TA}
theorem Zn4 {pins:List (Addr×Obj)} {σ:St} {H:Hp} {s:Shared} {Q:VK} {us:List Value} {vs:List V} (F:FnOk X.prog X.w X.K X.mg X.base CX k f fd ps sp) (hr:Room k X.A) (hb:Binds X.K fd ps ds) (hd:Vals dvs ds) (hx:ZfZ CX X E)
  (I:Inv X pins σ H s) (r:Vals vs us) (h:sp (vs++dvs) H Q E):wpAny (model X.prog X.w) X.A (call (.ref f) us) (EP X pins σ Q) X.xe s:=by
 have r2:Vals (vs++dvs) (us++ds):=r.append hd
 have hl:(us++ds).length=ps.length:=by rw [←r2.length]; exact F.len _ _ _ _ h
 refine wpAny_call (codeAny_mono (F.run X.A X.stack s H ⟨us,[]⟩ (us++ds) (vs++dvs) Q E hr I.env0 (hb s us I.kIn hl) r2 h) fun r s' hq=>?_)
 cases r with
 | error e=>exact hx pins σ H s e s' I hq
 | ok fl=>
  cases fl with
  | ret u=>exact I.after hq
  | next=>exact False.elim hq
  | brk=>exact False.elim hq
  | cont=>exact False.elim hq
theorem Zru (F:FnOk X.prog X.w X.K X.mg X.base CX k f fd ps sp) (hr:Room k X.A) (hg:Gl X x) (hm:X.mg x=some (.ref f)) (hk:PySem.W.keepIn X.K (.ref f)=true) (hb:Binds X.K fd ps ds) (hd:Vals dvs ds) (hx:ZfZ CX X E)
  (ha:PA X (e::es) t) (hdb:(x == ("__debug__":Str))=false:=by decide) (he:starEach (e::es) X.env=(false,eval e X.env)::starEach es X.env:=by rfl) (hpl:(backTo pos (starEach es X.env)).any (·.1)=false:=by rfl) :
  PE X (.Call (.Name x p) (e::es) [] pos) (Zsn sp dvs E t):=by
 intro pins s σ H Q I h
 refine wpAny_Call_Name_kw (ZhA I hg hm ?_ hdb)
 refine PySem.W.callWith_K (h₀:=X.base) I.ok.mod.kin hk (thn (ha pos pins s σ H _ I h) fun us s1 ⟨vs,H1,I1,r,q⟩=>⟨I1.kIn,?_⟩) he hpl
 exact Zn4 F hr hb hd hx I1 r q
theorem Zrp {pl:Sem Bool} (he:PE X o ta) (c:Cls X.K C) (hm:Znv X.K C m f) (F:FnOk X.prog X.w X.K X.mg X.base CX k f fd ps sp) (hr:Room k X.A) (hb:Binds X.K fd ps ds) (hd:Vals dvs ds) (hx:ZfZ CX X E) (ha:PA X (e::es) t)
  (hst:starEach (e::es) X.env=(false,eval e X.env)::starEach es X.env:=by rfl) (hpl:(backTo pos (starEach es X.env)).any (·.1)=false:=by rfl)
  (ht:eval (.Call (.Attribute o m apos) (e::es) [] pos) X.env=(do
   let ov ←eval o X.env
   standAt apos.atName
   let (f,first) ←holding [ov] (getMethod ov m pl)
   callWith pos f first (backTo pos (starEach (e::es) X.env)) (backToKw pos (keywordEach [] X.env))):=by rfl) :
  PE X (.Call (.Attribute o m apos) (e::es) [] pos) (Zwc C m sp dvs E ta t):=by
 intro pins s σ H Q I h
 refine PySem.W.methodCall_KW (pl:=pl) (thn (he pins s σ H _ I h) fun u s1 ⟨x,H1,I1,rx,a,dx,fs,ex,ea,l,q⟩=>?_) ht
 subst ex
 obtain rfl:u=Value.ref a:=rx
 refine Zic I1 ea c hm l ?_
 refine PySem.W.callWith_K (first:=[.ref a]) (h₀:=X.base) I.ok.mod.kin hm.kp (thn (ha pos pins s1 σ H1 _ I1 q) fun us s2 ⟨vs,H2,I2,r,q2⟩=>⟨I2.kIn,?_⟩) hst hpl
 exact Zn4 (us:=.ref a::us) (vs:=.ref a::vs) F hr hb hd hx I2 (.cons rfl r) q2
structure Mk (K:PySem.W.Frag) (C f:Addr):Prop where
 makes:PySem.W.makesIn K C=true
 init:PySem.W.findIn K (.ref C) "__init__"=some (some (.ref f))
 fn:PySem.W.isFn K (.ref f)=true
 kp:PySem.W.keepIn K (.ref C)=true
theorem Zkh {pins:List (Addr×Obj)} {σ:St} {H:Hp} {s:Shared} {Q:VK} {us:List Value} {vs:List V} (M:Mk X.K C f) (F:FnOk X.prog X.w X.K X.mg X.base CX k f fd ps sp) (hr:Room (k+1) X.A) (hb:Binds X.K fd ps ds) (hd:Vals dvs ds)
  (hx:ZfZ CX X E) (I:Inv X pins σ H s) (r:Vals vs us)
  (h:∀x dx,H x=none→H dx=none→dx≠x→sp (.ref x::(vs++dvs)) (upd (upd H dx (.own x)) x (.ins C dx [])) (fun v H2=>v=.non∧Q (.ref x) H2) E) :
  wpAny (model X.prog X.w) X.A (call (.ref C) us) (EP X pins σ Q) X.xe s:=by
 have hq:=h (s.heap.objs.size+1) s.heap.objs.size (I.hok.fresh (Jq _)) (I.hok.fresh (Yd _)) (Yp (YD _))
 have I2:=Inv.made (C:=C) I
 have r2:Vals (V.ref (s.heap.objs.size+1)::(vs++dvs)) (Value.ref (s.heap.objs.size+1)::(us++ds)):=.cons rfl (r.append hd)
 have hl:(Value.ref (s.heap.objs.size+1)::us++ds).length=ps.length:=by
  have e:=r2.length
  rw [F.len _ _ _ _ hq] at e
  exact e.symm
 refine wpAny_call (ZoL (f:=f) I.kIn M.makes M.init (beq_iff_eq.mp M.fn) (codeAny_mono (F.run _ X.stack _ _ ⟨Value.ref (s.heap.objs.size+1)::us,[]⟩ (Value.ref (s.heap.objs.size+1)::(us++ds)) _ _ E (hr.make C us [])
  (I2.env0.make C us []) (hb _ (Value.ref (s.heap.objs.size+1)::us) I2.kIn hl) r2 hq) fun r s' hq'=>?_))
 cases r with
 | error e=>exact hx pins σ _ _ e s' I2 hq'
 | ok fl=>
  cases fl with
  | ret u=>
   obtain ⟨v,H',I3,rv,ev,q3⟩:=I2.after hq'
   subst ev
   exact ⟨rv,⟨V.ref (s.heap.objs.size+1),H',I3,rfl,q3⟩⟩
  | next=>exact False.elim hq'
  | brk=>exact False.elim hq'
  | cont=>exact False.elim hq'
theorem Zrq (M:Mk X.K C f) (F:FnOk X.prog X.w X.K X.mg X.base CX k f fd ps sp) (hr:Room (k+1) X.A) (hg:Gl X x) (hm:X.mg x=some (.ref C)) (hb:Binds X.K fd ps ds) (hd:Vals dvs ds) (hx:ZfZ CX X E)
  (ha:PA X (e::es) t) (hdb:(x == ("__debug__":Str))=false:=by decide) (he:starEach (e::es) X.env=(false,eval e X.env)::starEach es X.env:=by rfl) (hpl:(backTo pos (starEach es X.env)).any (·.1)=false:=by rfl) :
  PE X (.Call (.Name x p) (e::es) [] pos) (Zsl C sp dvs E t):=by
 intro pins s σ H Q I h
 refine wpAny_Call_Name_kw (ZhA I hg hm ?_ hdb)
 refine PySem.W.callWith_K (h₀:=X.base) I.ok.mod.kin M.kp (thn (ha pos pins s σ H _ I h) fun us s1 ⟨vs,H1,I1,r,q⟩=>⟨I1.kIn,?_⟩) he hpl
 exact Zkh M F hr hb hd hx I1 r q
theorem Zom (M:Mk X.K C f) (F:FnOk X.prog X.w X.K X.mg X.base CX k f fd ps sp) (hr:Room (k+1) X.A) (hg:Gl X x) (hm:X.mg x=some (.ref C)) (hb:Binds X.K fd ps ds) (hd:Vals dvs ds) (hx:ZfZ CX X E)
  (hdb:(x == ("__debug__":Str))=false:=by decide):PE X (.Call (.Name x p) [] [] pos) (Zsl C sp dvs E ZnT):=by
 intro pins s σ H Q I h
 refine wpAny_Call_Name_kw (ZhA I hg hm ?_ hdb)
 exact PySem.W.callWith_K0 I.kIn M.kp (Zkh (us:=[]) M F hr hb hd hx I .nil h)
end
section
variable {X:Cx} {CX:CXT} {k:Nat} {f C:Addr} {fd:FuncData} {ps ks:List Str} {sp:Sp} {E:XK} {x m:Str} {p pos apos kpos:Pos} {e o:Expr} {es:List Expr} {kws:List Keyword} {te ta:TE} {t tk:TA} {nm:Option Str}
structure ZAQ (K:PySem.W.Frag) (fd:FuncData) (ps ks:List Str) (g:List Value→List Value→List Value) (gV:List V→List V→List V):Prop where
 to:∀(s:Shared) (us ws:List Value),K.In s.heap→(g us ws).length=ps.length→BindsTo s fd ⟨us,ks.zip ws⟩ (ps.zip (g us ws))
 rel:∀{vs:List V} {us:List Value} {zs:List V} {ws:List Value},Vals vs us→Vals zs ws→Vals (gV vs zs) (g us ws)
variable {g:List Value→List Value→List Value} {gV:List V→List V→List V}
end
structure Zo (N P:List Str) (sc:Scope):Prop where
 kind:sc.kind=.function
 co:sc.isCoroutine=false
 gen:sc.isGenerator=false
 nd:N.Nodup
 pre:N.take P.length=P
 par:∀x∈P,sc.names.lookup x=some .local∨sc.names.lookup x=some .cell
 nofree:∀y∈sc.names,y.2≠.free
theorem Zjc {kindOf:Str→Option NameKind} {x:Str}:∀{binds:List (Str×Value)} {m:Str→Option Value},(∀v,(x,v)∉binds)→bindL kindOf binds m x=m x
 | [],_,_=>rfl
 | (n,v)::r,m,h=>by
  unfold bindL
  rw [Zjc fun w hw=>h w (Yq _ hw)]
  split
  ·have:x≠n:=by rintro rfl; exact h v Ys
   simp [this]
  ·rfl
theorem Zje {kindOf:Str→Option NameKind} {x:Str}:∀{binds:List (Str×Value)} {m:Str→Option Value},(∀v,(x,v)∉binds)→bindC kindOf binds m x=m x
 | [],_,_=>rfl
 | (n,v)::r,m,h=>by
  unfold bindC
  rw [Zje fun w hw=>h w (Yq _ hw)]
  split
  ·rfl
  ·have:x≠n:=by rintro rfl; exact h v Ys
   simp [this]
theorem Zjd {kindOf:Str→Option NameKind} {x:Str} {v:Value}:∀{P:List Str} {vs:List Value} {i:Nat} {m:Str→Option Value},P.Nodup→P[i]?=some x→vs[i]?=some v→kindOf x=some .local→
  bindL kindOf (P.zip vs) m x=some v
 | [],_,_,_,_,h,_,_=>by simp at h
 | _::_,[],_,_,_,_,h,_=>by simp at h
 | p::P,w::vs,0,m,nd,h1,h2,hk=>by
  simp at h1 h2; subst h1; subst h2
  show bindL kindOf ((p,w)::P.zip vs) m p=_
  unfold bindL
  rw [Zjc fun v hv=>(Jc.mp nd).1 (Jp hv).1,if_pos hk]
  simp
 | p::P,w::vs,i+1,m,nd,h1,h2,hk=>by
  show bindL kindOf ((p,w)::P.zip vs) m x=_
  unfold bindL
  exact Zjd (i:=i) (Jc.mp nd).2 (by simpa using h1) (by simpa using h2) hk
theorem Zjf {kindOf:Str→Option NameKind} {x:Str} {v:Value}:∀{P:List Str} {vs:List Value} {i:Nat} {m:Str→Option Value},P.Nodup→P[i]?=some x→vs[i]?=some v→kindOf x≠some .local→
  bindC kindOf (P.zip vs) m x=some v
 | [],_,_,_,_,h,_,_=>by simp at h
 | _::_,[],_,_,_,_,h,_=>by simp at h
 | p::P,w::vs,0,m,nd,h1,h2,hk=>by
  simp at h1 h2; subst h1; subst h2
  show bindC kindOf ((p,w)::P.zip vs) m p=_
  unfold bindC
  rw [Zje fun v hv=>(Jc.mp nd).1 (Jp hv).1,if_neg hk]
  simp
 | p::P,w::vs,i+1,m,nd,h1,h2,hk=>by
  show bindC kindOf ((p,w)::P.zip vs) m x=_
  unfold bindC
  exact Zjf (i:=i) (Jc.mp nd).2 (by simpa using h1) (by simpa using h2) hk
def ZeO (N:List Str) (vs:List V):St:=vs.map some++List.replicate (N.length-vs.length) none
def Zg0 (CX:CXT) (P:Program) (w:World) (K:PySem.W.Frag) (mg:Str→Option Value) (base:Heap) (N:List Str) (qual:Str) (scope:Scope) (f:Addr) (cd:Value) (A:Around) (outer:List Env) (s:Shared) (H:Hp) (E:XK):Cx where
 prog:=P
 w:=w
 K:=K
 mg:=mg
 base:=base
 A:=A.deeper (envOfC qual scope s.heap.objs.size f cd)
 N:=N
 s₀:=s
 H₀:=H
 env:=envOfC qual scope s.heap.objs.size f cd
 outer:=outer
 stack:=envOfC qual scope s.heap.objs.size f cd::outer
 ex:=[]
 calm:=true
 fn:=fun _=>true
 pn:=[]
 xe:=fun e s'=>wpAny (model P w) (A.deeper (envOfC qual scope s.heap.objs.size f cd)) (leaving (envOfC qual scope s.heap.objs.size f cd) e) (fun _ s''=>CX outer H s E e s'') (fun e' s''=>CX outer H s E e' s'') s'
theorem ZkN {sc:Scope} {n:Nat} {x:Str} (h:sc.names.lookup x=some .cell):∃c,(cellsFrom n sc.names []).lookup x=some c:=by
 have q:=PySem.W.cellsFrom_some sc.names n [] (.inl h)
 exact Option.isSome_iff_exists.mp q
theorem Zng {CX:CXT} {P:Program} {w:World} {K:PySem.W.Frag} {mg:Str→Option Value} {base:Heap} {N ps:List Str} {qual:Str} {scope:Scope} {f:Addr} {cd:Value} {A:Around} {outer:List Env} {s s1:Shared} {H:Hp} {E:XK} {us:List Value} {vs:List V}
  (S:Zo N ps scope) (hd:A.handled=none) (e0:Env0 P w K mg base A outer s H) (hl:vs.length=ps.length) (r:Vals vs us)
  (x:InCallC s s.heap.objs.size (bindL (envOfC qual scope s.heap.objs.size f cd).kindOf (ps.zip us) fun _=>none) (cellsFrom (s.heap.objs.size+1) scope.names []) (bindC (envOfC qual scope s.heap.objs.size f cd).kindOf (ps.zip us) fun _=>none) s1) :
  Inv (Zg0 CX P w K mg base N qual scope f cd A outer s H E) [] (ZeO N vs) H s1:=by
 have hpl:ps.length≤N.length:=by have:=congrArg List.length S.pre; rw [Y8] at this; omega
 obtain ⟨h1,tk,rfl,hk⟩:=x.done
 have noA:∀b:Addr,b∉(Zg0 CX P w K mg base N qual scope f cd A outer s H E).ex:=fun b z=>absurd (show b∈([]:List Addr) from z) (by simp)
 refine ⟨⟨e0.mod,S.kind,rfl,rfl,Yd _,fun y z c h1 h2=>?_,fun y hy=>?_,fun y c _ h=>?_,fun _=>hd,Around.frames_deeper e0.frames,.inr ⟨rfl,rfl⟩,fun b z=>absurd z (noA b),e0.bs,e0.bsz,fun b _ _=>noA b,fun b z=>absurd z (noA b),e0.funs,e0.frf⟩,
  rfl,e0.bare,Un.kept hk,⟨_,x.toInCall.ns,fun i y v h1 h2 h3=>?_⟩,fun y c h=>⟨_,x.cell y c h⟩,e0.hok.fresh (Yd _),fun y c h=>?_,fun p hp=>absurd (show p∈([]:List (Addr×Obj)) from hp) (by simp),e0.hok.kept hk,?_⟩
 ·exact name_of_addr x.apart (PySem.mem_of_lookup h1) (PySem.mem_of_lookup h2)
 ·have hy:scope.names.lookup y=some .cell∨scope.names.lookup y=some .free:=hy
  rcases hy with hy | hy
  ·exact ZkN hy
  ·exact absurd rfl (S.nofree _ (PySem.mem_of_lookup hy))
 ·exact Nat.le_of_lt (x.above y c (PySem.mem_of_lookup h))
 ·have hi:i<vs.length:=by
   unfold ZeO at h2
   by_cases hi:i<vs.length
   ·exact hi
   ·rw [YA (by simpa using hi)] at h2
    rw [List.getElem?_replicate] at h2
    split at h2<;>cases h2
  have ha:vs[i]?=some v:=by
   unfold ZeO at h2
   rw [Yu (by simpa using hi),Yn] at h2
   cases e:vs[i]? with
   | none=>rw [e] at h2; cases h2
   | some a=>rw [e] at h2; cases h2; rfl
  obtain ⟨u,hu,rv⟩:=r.get ha
  have hp:ps[i]?=some y:=by
   rw [←S.pre,List.getElem?_take_of_lt (by omega)]; exact h1
  have ndP:ps.Nodup:=by rw [←S.pre]; exact S.nd.sublist (List.take_sublist _ _)
  refine ⟨u,rv,?_⟩
  rcases S.par y (List.mem_of_getElem? hp) with k | k
  ·exact .inl ⟨k,Zjd ndP hp hu k⟩
  ·obtain ⟨c,e⟩:=ZkN (n:=s.heap.objs.size+1) k
   refine .inr ⟨.inl k,c,e,?_⟩
   have q:=x.cell y c e
   rw [Zjf ndP hp hu (by show scope.names.lookup y≠_; rw [k]; decide)] at q
   exact q
 ·exact e0.hok.fresh (Nat.le_of_lt (x.above y c (PySem.mem_of_lookup h)))
 ·unfold ZeO
  show _=N.length
  rw [Ym,List.length_map,Y6]
  omega
theorem Zw7 {CX:CXT} {P:Program} {w:World} {K:PySem.W.Frag} {mg:Str→Option Value} {base:Heap} {k:Nat} {f:Addr} {name qual:Str} {params:Arguments} {body:List Stmt} {scope:Scope} {dV kV doc pm cdv ct oc:Value} {an od:Option Addr}
  {osl:Array (Option Value)} {N ps:List Str} {sp:Sp} (lk:K.lookup f=some ⟨oc,od,.func (PySem.W.fnOf name qual params body scope dV kV doc pm an cdv ct),osl⟩) (hcd:PySem.W.codeIn K cdv qual=true) (S:Zo N ps scope)
  (len:∀vs H Q E,sp vs H Q E→vs.length=ps.length)
  (hbody:∀(A:Around) (outer:List Env) (s:Shared) (H:Hp) (vs:List V) (Q:VK) (E:XK),Room k (A.deeper (envOfC qual scope s.heap.objs.size f cdv))→sp vs H Q E→
   ∃t,PSs (Zg0 CX P w K mg base N qual scope f cdv A outer s H E) body t∧t { nx:=fun _ H'=>Q .non H',rt:=Q } (ZeO N vs) H) :
  FnOk P w K mg base CX (k+1) f (PySem.W.fnOf name qual params body scope dV kV doc pm an cdv ct) ps sp:=by
 refine ⟨len,fun A outer s H args us vs Q E hr e0 hb r hsp=>?_⟩
 have hl:=len _ _ _ _ hsp
 have KX:K.In s.heap:=e0.mod.kin.keeps fun b o e=>(e0.bs b o e).1
 have lim:s.heap.NoLimit:=e0.mod.nolimit.keeps fun b o e=>(e0.bs b o e).1
 have hkind:∀y∈ps.zip us,scope.names.lookup y.1=some .local∨(scope.names.lookup y.1=some .cell∧((cellsFrom (s.heap.objs.size+1) scope.names []).lookup y.1).isSome=true):=fun ⟨n,v⟩ hy=>by
  rcases S.par n (Jp hy).1 with q | q
  ·exact .inl q
  ·exact .inr ⟨q,PySem.W.cellsFrom_some _ _ _ (.inl q)⟩
 refine codeAny_call_function hr.depth (KX _ _ lk) rfl S.co S.gen rfl (PySem.W.codeRec_of KX hcd) (hb _ _ _ _ ?_)
 refine wpAny_newFunctionEnv_cells S.kind hkind fun env he s1 x=>?_
 subst he
 refine ⟨lim.keeps x.toInCall.keep,codeAny_func ?_⟩
 obtain ⟨t,ht,hq⟩:=hbody A outer s H vs Q E (hr.deeper _) hsp
 have I:Inv (Zg0 CX P w K mg base N qual scope f cdv A outer s H E) [] (ZeO N vs) H s1:=Zng S hr.hd e0 hl r x
 refine wpAny_mono (ht [] s1 (ZeO N vs) H _ I hq) (fun fl s' hs=>?_) fun e s' hs=>hs
 have fin:∀{σ':St} {H':Hp} {v:V} {u:Value},Inv (Zg0 CX P w K mg base N qual scope f cdv A outer s H E) [] σ' H' s'→RelV v u→Q v H'→CE outer P w H s Q u s':=
  fun {σ' H' v u} J rv q=>⟨v,H',J.os,J.bare,J.base,J.hok,rv,q⟩
 cases fl with
 | ret u=>
  obtain ⟨v,σ',H',J,rv,q⟩:=hs
  exact fin J rv q
 | next=>
  obtain ⟨σ',H',J,q⟩:=hs
  exact fin (v:=V.non) (u:=Value.none) J rfl q
 | brk=>
  obtain ⟨_,_,_,q⟩:=hs
  exact False.elim q
 | cont=>
  obtain ⟨_,_,_,q⟩:=hs
  exact False.elim q
section
variable {X:Cx} {x:Str} {p pos:Pos} {e:Expr} {es:List Expr} {t:TA} {id T:String} {r:List V→Hp→VK→Prop}
def tCB (r:List V→Hp→VK→Prop) (t:TA):TE:=fun σ H Q=>t σ H fun vs H1=>r vs H1 Q
theorem Zov (hc:CallR X (.builtin id) r) (hg:Gl X x) (hm:X.mg x=none) (hv:bootBuiltins x=some (.builtin id)) (ha:PA X (e::es) t) (hn:x≠"__name__":=by decide) (hdb:(x == ("__debug__":Str))=false:=by decide)
  (he:starEach (e::es) X.env=(false,eval e X.env)::starEach es X.env:=by rfl) (hpl:(backTo pos (starEach es X.env)).any (·.1)=false:=by rfl):PE X (.Call (.Name x p) (e::es) [] pos) (tCB r t):=by
 intro pins s σ H Q I h
 refine wpAny_Call_Name_kw (ZjA I hg hm hv ?_ hn hdb)
 exact PyProof.Rows.callWith_builtin1 (thn (ha pos pins s σ H _ I h) fun us s1 ⟨vs,H1,I1,r1,q1⟩=>hc pins s1 σ H1 vs us Q I1 r1 q1) he hpl
theorem Zm1 (hc:CallR X (.type T) r) (hg:Gl X x) (hm:X.mg x=none) (hv:bootBuiltins x=some (.type T)) (ha:PA X (e::es) t) (hn:x≠"__name__":=by decide) (hdb:(x == ("__debug__":Str))=false:=by decide)
  (he:starEach (e::es) X.env=(false,eval e X.env)::starEach es X.env:=by rfl) (hpl:(backTo pos (starEach es X.env)).any (·.1)=false:=by rfl):PE X (.Call (.Name x p) (e::es) [] pos) (tCB r t):=by
 intro pins s σ H Q I h
 refine wpAny_Call_Name_kw (ZjA I hg hm hv ?_ hn hdb)
 exact PyProof.Rows.callWith_type1 (thn (ha pos pins s σ H _ I h) fun us s1 ⟨vs,H1,I1,r1,q1⟩=>hc pins s1 σ H1 vs us Q I1 r1 q1) he hpl
end
end L2
namespace HT
open PySem PyProof.Rows
section
variable {prog:Program} {w:World} {A:Around} {E:Value→Shared→Prop} {s:Shared}
theorem cat_tup {t b:Addr} {vs ws:List Value} {Q:Value→Shared→Prop} (ht:IsTup s.heap t vs.toArray) (hb:IsTup s.heap b ws.toArray) (hv:vs≠[])
  (h1:ws=[]→Q (.ref t) s) (h2:ws≠[]→Q (.ref s.heap.objs.size) { s with heap:=s.heap.push { cls:=.type "tuple",data:=.seq (vs++ws).toArray } })
  (hsz:vs.length+ws.length≤sizeLine):wpAny (model prog w) A (binaryOp .Add (.ref t) (.ref b)) Q E s:=by
 obtain ⟨⟨cls,dd,data,sl⟩,ho,hc,n,hd⟩:=id ht
 obtain ⟨⟨cls2,dd2,data2,sl2⟩,ho2,hc2,n2,hd2⟩:=id hb
 simp only at hc hd hc2 hd2
 subst hc hd hc2 hd2
 have e:vs.toArray++ws.toArray=(vs++ws).toArray:=by simp
 by_cases hw:ws=[]
 ·exact concat_meets ⟨_,ho,rfl⟩ ⟨_,ho2,rfl⟩ noFill_tuple_add seq_tuple_add PySem.F.slot_tuple_add PySem.F.entry_tuple_add (PySem.F.args_tuple_add_2 _ _)
   (tuple_addW1 t b vs.toArray ws.toArray n n2 dd dd2 sl sl2 (by simpa using hv) (by simp [hw])) ⟨ho,ho2,h1 hw⟩
 ·refine concat_meets ⟨_,ho,rfl⟩ ⟨_,ho2,rfl⟩ noFill_tuple_add seq_tuple_add PySem.F.slot_tuple_add PySem.F.entry_tuple_add (PySem.F.args_tuple_add_2 _ _)
   (tuple_addW2 t b vs.toArray ws.toArray n n2 dd dd2 sl sl2 (by simpa using hv) (by simpa using hw) (by rw [Ye,Ye]; exact hsz)) ⟨ho,ho2,?_⟩
  rw [e]
  exact h2 hw
def sIx (n d:Nat):Option Int→Nat
 | none=>d
 | some v=>if v<0 then (v+(n:Int)).toNat else min v.toNat n
theorem sIx_none (n d:Nat):sIx n d none=d:=rfl
theorem sIx_nat (n d k:Nat):sIx n d (some (k:Int))=min k n:=by
 show (if (k:Int)<0 then ((k:Int)+(n:Int)).toNat else min (k:Int).toNat n)=min k n
 rw [if_neg (by omega),Int.toNat_natCast]
theorem Zut (n d:Nat) (hd:d≤n) (o:Option Int):sIx n d o≤n:=by
 cases o with
 | none=>exact hd
 | some v=>
  show (if v<0 then (v+(n:Int)).toNat else min v.toNat n)≤n
  by_cases hv:v<0
  ·rw [if_pos hv]; omega
  ·rw [if_neg hv]; exact Nat.min_le_right _ _
theorem Zmv (v:Int) (n d:Nat):(if v<0 then max (v+(n:Int)) 0 else min v (n:Int))=((sIx n d (some v):Nat):Int):=by
 show (if v<0 then max (v+(n:Int)) 0 else min v (n:Int))=(((if v<0 then (v+(n:Int)).toNat else min v.toNat n):Nat):Int)
 by_cases hv:v<0
 ·simp only [if_pos hv]; omega
 ·simp only [if_neg hv]; omega
theorem Zlx (lo hi:Option Int) (n:Nat):Builtin.Slice.sliceAdjust lo hi 1 (n:Int)=(((sIx n 0 lo:Nat):Int),((sIx n n hi:Nat):Int)):=by
 have h1:¬((1:Int)<0):=by omega
 unfold Builtin.Slice.sliceAdjust
 simp only [h1,if_false]
 refine Prod.ext ?_ ?_
 ·cases lo with
  | none=>rfl
  | some v=>exact Zmv v n 0
 ·cases hi with
  | none=>rfl
  | some v=>exact Zmv v n n
theorem Zk7 (i j:Nat):Builtin.Slice.slicePlaces (i:Int) (j:Int) 1=j-i:=by
 unfold Builtin.Slice.slicePlaces
 have h1:(1:Int) > 0:=by omega
 simp only [h1,if_true,Int.ediv_one]
 split<;>omega
theorem ZhQ {v:Value} {o:Option Int} {Q:Option Int→Shared→Prop} (p:IsPart v o) (h:Q o s):wpAny (model prog w) A (Builtin.Slice.slicePartIndex v) Q E s:=by
 cases p with
 | none=>exact slicePart_none h
 | int i t=>exact slicePart_int h
theorem ZgK {sl:Addr} {vl vu:Value} {lo hi:Option Int} {n:Nat} {Q:Int×Int×Nat→Shared→Prop} (hs:s.heap.IsSliceOf sl vl vu .none) (pl:IsPart vl lo) (pu:IsPart vu hi)
  (h:Q (((sIx n 0 lo:Nat):Int),1,sIx n n hi-sIx n 0 lo) s):wpAny (model prog w) A (Builtin.Slice.sliceApplied (.ref sl) (pure (n:Int))) Q E s:=by
 obtain ⟨os,hos,hcs,hds⟩:=id hs
 unfold Builtin.Slice.sliceApplied Builtin.Slice.sliceFields
 refine wpAny_bind (wpAny_bind (wpAny_field hos hds (x:=vl) rfl (wpAny_bind (wpAny_field hos hds (x:=vu) rfl (wpAny_bind (wpAny_field hos hds (x:=.none) rfl (wpAny_pure ?_)))))))
 refine wpAny_bind (slicePart_none ?_)
 show wpAny _ _ (if ((1:Int) == 0)=true then _ else _) _ _ s
 rw [if_neg (by decide)]
 refine wpAny_bind (ZhQ pl (wpAny_bind (ZhQ pu (wpAny_bind (wpAny_pure ?_)))))
 show wpAny _ _ (match Builtin.Slice.sliceAdjust lo hi 1 (n:Int) with | (lo,hi)=>pure (lo,(1:Int),Builtin.Slice.slicePlaces lo hi 1)) _ _ s
 rw [Zlx lo hi n]
 show wpAny _ _ (pure (((sIx n 0 lo:Nat):Int),(1:Int),Builtin.Slice.slicePlaces ((sIx n 0 lo:Nat):Int) ((sIx n n hi:Nat):Int) 1)) _ _ s
 rw [Zk7]
 exact wpAny_pure h
theorem Zoj (xs:Array Value) (i k:Nat):((List.range k).filterMap fun (m:Nat)=>xs[((i:Int)+(m:Int)*1).toNat]?).toArray=((xs.toList.drop i).take k).toArray:=by
 have e:(fun (m:Nat)=>xs[((i:Int)+(m:Int)*1).toNat]?)=fun m=>xs[i+m]?:=by
  funext m
  have:((i:Int)+(m:Int)*1).toNat=i+m:=by omega
  rw [this]
 rw [e]
 have:=pick_run xs i k
 rw [List.filterMap_map] at this
 have e2:((fun x=>xs[x]?)∘fun x=>i+x)=fun m=>xs[i+m]?:=rfl
 rw [e2] at this
 rw [this]
theorem getItem_tuple_cut {t sl:Addr} {items:Array Value} {vl vu:Value} {lo hi:Option Int} {Q:Value→Shared→Prop} (ht:IsTup s.heap t items) (hs:s.heap.IsSliceOf sl vl vu .none) (pl:IsPart vl lo) (pu:IsPart vu hi)
  (hw:¬(sIx items.size 0 lo=0∧sIx items.size items.size hi=items.size))
  (h:Q (.ref s.heap.objs.size) { s with heap:=s.heap.push { cls:=.type "tuple",data:=.seq ((items.toList.drop (sIx items.size 0 lo)).take (sIx items.size items.size hi-sIx items.size 0 lo)).toArray } })
  (hsz:items.size≤sizeLine):wpAny (model prog w) A (getItem (.ref t) (.ref sl)) Q E s:=by
 have htake:sizeOk (.seq ((items.toList.drop (sIx items.size 0 lo)).take (sIx items.size items.size hi-sIx items.size 0 lo)).toArray):=by
  show ((items.toList.drop (sIx items.size 0 lo)).take (sIx items.size items.size hi-sIx items.size 0 lo)).toArray.size≤sizeLine
  rw [Ye,Y8,Y9,Array.length_toList]
  omega
 have hj:sIx items.size items.size hi≤items.size:=Zut _ _ (Yd _) hi
 obtain ⟨os,hos,hcs,hds⟩:=id hs
 have hTs:s.TypeIs (.ref sl) "slice":=⟨os,hos,hcs⟩
 unfold getItem
 try with_reducible refine wpAny_holding ?_
 first | refine wpAny_bind (wpAny_pure ?_) | skip
 refine wpAny_bind (wpAny_sequenceKey ht.typeIs (by decide) ?_)
 refine wpAny_bind (wpAny_callSpecial?_slot (name:=Str.ofString "__getitem__") ht.typeIs PyProof.Rows.slot_tuple_getitem
  (wpAny_call_entry PyProof.Rows.slot_tuple_getitem ht.typeIs entry_tuple_getitem ?_ (args_tuple_getitem _ _)))
 show wpAny _ _ (Builtin.Tuple.tupleItemsOf (.ref t) >>= _) _ _ s
 refine wpAny_bind (tupleItemsOf_ ht ?_)
 refine wpAny_bind (wpAny_typeOf hTs ?_)
 rw [if_pos (by decide)]
 refine wpAny_bind (ZgK hs pl pu ?_)
 have hno:¬((((sIx items.size 0 lo:Nat):Int) == 0 && (1:Int) == 1 && (sIx items.size items.size hi-sIx items.size 0 lo) == items.size)=true):=by
  intro q
  rw [Yl,Yl] at q
  have q1:((sIx items.size 0 lo:Nat):Int)=0:=eq_of_beq q.1.1
  have q2:sIx items.size items.size hi-sIx items.size 0 lo=items.size:=eq_of_beq q.2
  exact hw ⟨by omega,by omega⟩
 show wpAny _ _ (if (((sIx items.size 0 lo:Nat):Int) == 0 && (1:Int) == 1 && (sIx items.size items.size hi-sIx items.size 0 lo) == items.size)=true then _ else _) _ _ s
 rw [if_neg hno,Zoj]
 first
  | exact wpAny_bind (m:=Builtin.Tuple.tupleExact _) (wpAny_newObj_type (wpAny_pure ⟨_,rfl,wpAny_pure h⟩) htake)
  | exact wpAny_bind (m:=Builtin.Tuple.tupleExact _) (wpAny_newObj_type (wpAny_bind (wpAny_pure (wpAny_pure ⟨_,rfl,wpAny_pure h⟩))) htake)
  | exact wpAny_bind (wpAny_bind (m:=Builtin.Tuple.tupleExact _) (wpAny_newObj_type (wpAny_pure (wpAny_pure ⟨_,rfl,wpAny_pure h⟩)) htake))
  | exact wpAny_bind (wpAny_bind (m:=Builtin.Tuple.tupleExact _) (wpAny_newObj_type (wpAny_pure ⟨_,rfl,wpAny_pure h⟩) htake))
end
end HT
namespace L2
open PySem PySem.Spec PyProof.Rows
abbrev TO:=St→Hp→(Option Int→Hp→Prop)→Prop
def PO (X:Cx) (e:Option Expr) (t:TO):Prop:=
 ∀(pins:List (Addr×Obj)) (s:Shared) (σ:St) (H:Hp) (Q:Option Int→Hp→Prop),Inv X pins σ H s→t σ H Q→
  wpAny (model X.prog X.w) X.A (evalPart e X.env) (fun u s'=>∃o H',Inv X pins σ H' s'∧IsPart u o∧Q o H') X.xe s
def Zq6:TO:=fun _ H Q=>Q none H
def Zwa (t:TE):TO:=fun σ H Q=>t σ H fun x H1=>∃i,x=.int i∧Q (some i) H1
section
variable {X:Cx} {e:Expr} {te:TE} {lo hi:Option Expr} {tl th:TO} {pos p2:Pos}
theorem Zrn:PO X none Zq6:=by
 intro pins s σ H Q I h
 rw [evalPart_none]
 exact wpAny_pure ⟨none,H,I,.none,h⟩
theorem Zrm (h:PE X e te):PO X (some e) (Zwa te):=by
 intro pins s σ H Q I hw
 rw [evalPart_some]
 refine thn (h pins s σ H _ I hw) fun u s1 ⟨x,H1,I1,r1,q1⟩=>?_
 obtain ⟨i,rfl,q⟩:=q1
 obtain ⟨t,rfl⟩:=r1
 exact ⟨some i,H1,I1,.int i t,q⟩
def SlR (X:Cx) (r:V→Option Int→Option Int→Hp→VK→Prop):Prop:=
 ∀(pins:List (Addr×Obj)) (s:Shared) (σ:St) (H:Hp) (x:V) (v vl vu:Value) (lo hi:Option Int) (sl:Addr) (Q:VK),Inv X pins σ H s→RelV x v→s.heap.IsSliceOf sl vl vu .none→IsPart vl lo→IsPart vu hi→r x lo hi H Q→
  ∃T id,typeLookup (.type T) "__getitem__"=pure (some (.builtin id))∧s.TypeIs v T∧wpAny (model X.prog X.w) X.A (getItem v (.ref sl)) (EP X pins σ Q) X.xe s
theorem SlR.or {r r':V→Option Int→Option Int→Hp→VK→Prop} (h:SlR X r) (h':SlR X r'):SlR X (fun x lo hi H Q=>r x lo hi H Q∨r' x lo hi H Q):=by
 intro pins s σ H x v vl vu lo hi sl Q I rx hs pl pu q
 rcases q with q | q
 ·exact h pins s σ H x v vl vu lo hi sl Q I rx hs pl pu q
 ·exact h' pins s σ H x v vl vu lo hi sl Q I rx hs pl pu q
def tSl (r:V→Option Int→Option Int→Hp→VK→Prop) (te:TE) (tl th:TO):TE:=fun σ H Q=>te σ H fun x H1=>tl σ H1 fun l H2=>th σ H2 fun u H3=>r x l u H3 Q
theorem Zol {r:V→Option Int→Option Int→Hp→VK→Prop} (hr:SlR X r) (he:PE X e te) (hl:PO X lo tl) (hu:PO X hi th):PE X (.Subscript e (.Slice lo hi none p2) pos) (tSl r te tl th):=by
 intro pins s σ H Q I h
 refine Subscript_ (thn (he pins s σ H _ I h) fun v s1 ⟨x,H1,I1,r1,q1⟩=>?_)
 refine wpAny_Slice (thn (hl pins s1 σ H1 _ I1 q1) fun vl s2 ⟨l,H2,I2,pl,q2⟩=>thn (hu pins s2 σ H2 _ I2 q2) fun vu s3 ⟨u,H3,I3,pu,q3⟩=>?_)
 rw [evalPart_none]
 refine wpAny_pure ?_
 have I4:Inv X pins σ H3 { s3 with heap:=s3.heap.push { cls:=.type "slice",data:=.fields #[vl,vu,.none] } }:=I3.kept (t':=s3.toks) fun b ob q=>Heap.get?_push_of_some _ q
 obtain ⟨T,id,hT,ht,hg⟩:=hr pins { s3 with heap:=s3.heap.push { cls:=.type "slice",data:=.fields #[vl,vu,.none] } } σ H3 x v vl vu l u s3.heap.objs.size Q I4 r1 (Heap.IsSliceOf.new ..) pl pu q3
 show wpAny (model X.prog X.w) X.A (subscriptTail e (.Slice lo hi none p2) v (.ref s3.heap.objs.size)) (EP X pins σ Q) X.xe { s3 with heap:=s3.heap.push { cls:=.type "slice",data:=.fields #[vl,vu,.none] } }
 exact tail_any (ops:=[.ref s3.heap.objs.size,v]) ht hT hg (by with_unfolding_all rfl)
def ZkL (xs:List V) (lo hi:Option Int):List V:=(xs.drop (HT.sIx xs.length 0 lo)).take (HT.sIx xs.length xs.length hi-HT.sIx xs.length 0 lo)
theorem Zhf (xs:List V) (lo hi:Option Int):(ZkL xs lo hi).length≤xs.length:=by
 unfold ZkL
 rw [Y8,Y9]
 omega
def ZAe (K:PySem.W.Frag):V→Option Int→Option Int→Hp→VK→Prop:=fun x lo hi H Q=>∃a xs,x=.ref a∧SqT K H a xs∧
 ¬(HT.sIx xs.length 0 lo=0∧HT.sIx xs.length xs.length hi=xs.length)∧∀p,H p=none→Q (.ref p) (upd H p (.tup (ZkL xs lo hi)))
theorem Zuo:SlR X (ZAe X.K):=by
 intro pins s σ H x v vl vu lo hi sl Q I rx hs pl pu h
 obtain ⟨a,xs,rfl,hx,hw,q⟩:=h
 cases rx
 obtain ⟨its,r,ht,hz⟩:=I.tuple hx
 have hlen:its.toArray.size=xs.length:=by rw [Ye]; exact r.length.symm
 refine ⟨"tuple",_,PyProof.Rows.slot_tuple_getitem.lookup,ht.typeIs,?_⟩
 refine HT.getItem_tuple_cut ht hs pl pu (by rw [hlen]; exact hw) ?_ (by rw [hlen]; exact hz)
 rw [hlen]
 refine ⟨.ref s.heap.objs.size,_,I.laid (t':=s.toks) (o:=.tup (ZkL xs lo hi)) (fun b ob q=>Heap.get?_push_of_some _ q) (Yd _) ?_,rfl,q _ (I.hok.fresh (Yd _))⟩
 exact ⟨Yt (Zhf xs lo hi) hz,_,(r.drop (HT.sIx xs.length 0 lo)).take (HT.sIx xs.length xs.length hi-HT.sIx xs.length 0 lo),IsTup.new _ _⟩
def Zwv (K:PySem.W.Frag):R2:=fun x y H Q=>∃a b xs ys,x=.ref a∧y=.ref b∧SqT K H a xs∧SqT K H b ys∧xs≠[]∧xs.length+ys.length≤sizeLine∧
 (ys=[]→Q (.ref a) H)∧(ys≠[]→∀p,H p=none→Q (.ref p) (upd H p (.tup (xs++ys))))
theorem Vals.nil_iff {xs:List V} {us:List Value} (r:Vals xs us):us=[]↔xs=[]:=by
 cases r with
 | nil=>simp
 | cons _ _=>simp
theorem op_catT:OpR X (binaryOp .Add) (Zwv X.K):=by
 intro pins s σ H x y v u Q I rx ry h
 obtain ⟨a,b,xs,ys,rfl,rfl,ha,hb,hx,hz,q1,q2⟩:=h
 cases rx
 cases ry
 obtain ⟨its,r1,p1,_⟩:=I.tuple ha
 obtain ⟨its2,r2,p2,_⟩:=I.tuple hb
 refine HT.cat_tup p1 p2 (fun z=>hx (r1.nil_iff.mp z)) (fun z=>⟨.ref a,H,I,rfl,q1 (r2.nil_iff.mp z)⟩) (fun z=>?_) (by rw [←r1.length,←r2.length]; exact hz)
 refine ⟨.ref s.heap.objs.size,_,I.laid (t':=s.toks) (o:=.tup (xs++ys)) (fun b ob q=>Heap.get?_push_of_some _ q) (Yd _) ?_,rfl,q2 (fun w=>z (r2.nil_iff.mpr w)) _ (I.hok.fresh (Yd _))⟩
 exact ⟨by rw [Ym]; exact hz,_,r1.append r2,IsTup.new _ _⟩
end
def ixN (n:Nat) (i:Int):Option Nat:=if 0≤i then (if i<n then some i.toNat else none) else if -(n:Int)≤i then some (i+n).toNat else none
def atI {α:Type} (xs:List α) (i:Int):Option α:=(ixN xs.length i).bind fun j=>xs[j]?
theorem ZrH {n:Nat} {i:Int} {j:Nat} (h:ixN n i=some j):seqIndex? i n=some j∧j<n∧-(n:Int)≤i∧i<n:=by
 unfold ixN at h
 by_cases h0:0≤i
 ·rw [if_pos h0] at h
  by_cases h1:i<n
  ·rw [if_pos h1] at h
   have e:i.toNat=j:=Option.some.inj h
   exact ⟨by rw [seqIndex_of h0 h1,e],by omega,by omega,h1⟩
  ·rw [if_neg h1] at h; cases h
 ·rw [if_neg h0] at h
  by_cases h1 : -(n:Int)≤i
  ·rw [if_pos h1] at h
   have e:(i+n).toNat=j:=Option.some.inj h
   exact ⟨by rw [seqIndex_neg (by omega) h1,e],by omega,h1,by omega⟩
  ·rw [if_neg h1] at h; cases h
theorem ZjW {α:Type} {xs:List α} {i:Int} {v:α} (h:atI xs i=some v):∃j,seqIndex? i xs.length=some j∧xs[j]?=some v∧j<xs.length∧-(xs.length:Int)≤i∧i<xs.length:=by
 unfold atI at h
 cases e:ixN xs.length i with
 | none=>rw [e] at h; cases h
 | some j=>
  rw [e] at h
  obtain ⟨h1,h2,h3,h4⟩:=ZrH e
  exact ⟨j,h1,h,h2,h3,h4⟩
theorem ZeN {α:Type} {xs:List α} {j:Nat} {v:α} (h:xs[j]?=some v):atI xs (j:Int)=some v:=by
 have hj:j<xs.length:=(Ya.mp h).1
 have e:ixN xs.length (j:Int)=some j:=by
  unfold ixN
  rw [if_pos (by omega),if_pos (by omega)]; simp
 unfold atI; rw [e]; exact h
def ZmC (b:Expr):Prop:=∀o i,subscripted b false o i=operate [o,i] (getItem o i)
def IxR (X:Cx) (r:R2):Prop:=
 ∀(value slice:Expr) (pins:List (Addr×Obj)) (s:Shared) (σ:St) (H:Hp) (x y:V) (v u:Value) (Q:VK),Inv X pins σ H s→RelV x v→RelV y u→r x y H Q→
  subscripted slice false v u=operate [v,u] (getItem v u)→wpAny (model X.prog X.w) X.A (subscriptTail value slice v u) (EP X pins σ Q) X.xe s
def MtR (X:Cx) (id:String) (r:V→List V→Hp→VK→Prop):Prop:=
 ∀(pins:List (Addr×Obj)) (s:Shared) (σ:St) (H:Hp) (x:V) (xs:List V) (v:Value) (us:List Value) (Q:VK),Inv X pins σ H s→RelV x v→Vals xs us→r x xs H Q→
  wpAny (model X.prog X.w) X.A (call (.builtin id) (v::us)) (EP X pins σ Q) X.xe s
section
variable {X:Cx} {a b:Expr} {ta tb:TE} {pos:Pos}
theorem IxR.or {r r':R2} (h:IxR X r) (h':IxR X r'):IxR X (fun x y H Q=>r x y H Q∨r' x y H Q):=by
 intro value slice pins s σ H x y v u Q I rx ry q hs
 rcases q with q | q
 ·exact h value slice pins s σ H x y v u Q I rx ry q hs
 ·exact h' value slice pins s σ H x y v u Q I rx ry q hs
theorem ZwB {r:R2} (hr:IxR X r) (ha:PE X a ta) (hb:PE X b tb) (hs:ZmC b):PE X (.Subscript a b pos) (tOp r ta tb):=by
 intro pins s σ H Q I h
 exact Subscript_ (Zvn ha hb I h fun v u s2 x y H2 I2 rx ry q=>hr a b pins s2 σ H2 x y v u Q I2 rx ry q (hs _ _))
def Zwu (K:PySem.W.Frag):R2:=fun x y H Q=>∃p xs i v,x=.ref p∧y=.int i∧SqL K H p xs∧atI xs i=some v∧Q v H
def Zws (K:PySem.W.Frag):R2:=fun x y H Q=>∃p xs i v,x=.ref p∧y=.int i∧SqT K H p xs∧atI xs i=some v∧Q v H
def Zwt:R2:=fun x y H Q=>∃z i c,x=.str z∧y=.int i∧z.length≤sizeLine∧atI z.cps.toList i=some c∧Q (.str ⟨#[c]⟩) H
theorem ix_list:IxR X (Zwu X.K):=by
 intro value slice pins s σ H x y v u Q I rx ry h hs
 obtain ⟨p,xs,i,z,rfl,rfl,hq,he,q⟩:=h
 cases rx
 obtain ⟨t,rfl⟩:=ry
 obtain ⟨its,r,pl,hz⟩:=I.list hq
 obtain ⟨j,h1,h2,h3,h4,h5⟩:=ZjW he
 obtain ⟨w,ew,rw'⟩:=r.get h2
 have hl:=r.length
 have hn:=ZgV
 have fin:EP X pins σ Q w s:=⟨z,H,I,rw',q⟩
 by_cases h0:0≤i
 ·have hj:i.toNat=j:=by
   rw [seqIndex_of h0 h5] at h1
   exact Option.some.inj h1
  exact item_listR pl.isList h0 (by omega) (by rw [hj]; simpa using ew) fin hs
 ·have hj:(i+(its.toArray.size:Int)).toNat=j:=by
   rw [seqIndex_neg (by omega) h4] at h1
   rw [Ye,←hl]
   exact Option.some.inj h1
  exact subscriptTail_builtinR (x:=w) pl.isList.typeIs slot_list_getitem.lookup
   (wpAny_getItem_list_neg (Q:=fun r s'=>r=w∧EP X pins σ Q r s') pl.isList (by omega) (by rw [Ye]<;>omega) (by omega) (by rw [hj]; simpa using ew) ⟨rfl,fin⟩) hs
theorem ix_tup:IxR X (Zws X.K):=by
 intro value slice pins s σ H x y v u Q I rx ry h hs
 obtain ⟨p,xs,i,z,rfl,rfl,hq,he,q⟩:=h
 cases rx
 obtain ⟨t,rfl⟩:=ry
 obtain ⟨its,r,pl,hz⟩:=I.tuple hq
 obtain ⟨j,h1,h2,h3,h4,h5⟩:=ZjW he
 obtain ⟨w,ew,rw'⟩:=r.get h2
 have hl:=r.length
 have hn:=ZgV
 have fin:EP X pins σ Q w s:=⟨z,H,I,rw',q⟩
 exact subscriptTail_builtinR (x:=w) pl.typeIs slot_tuple_getitem.lookup
  (getItem_tuple (j:=j) (Q:=fun r s'=>r=w∧EP X pins σ Q r s') pl (by omega) (by omega) (by rw [Ye,←hl]; exact h1) (by simpa using ew) ⟨rfl,fin⟩) hs
theorem Zu9:IxR X Zwt:=by
 intro value slice pins s σ H x y v u Q I rx ry h hs
 obtain ⟨z,i,c,rfl,rfl,hz,he,q⟩:=h
 obtain ⟨t,rfl⟩:=rx
 obtain ⟨t',rfl⟩:=ry
 obtain ⟨j,h1,h2,h3,h4,h5⟩:=ZjW he
 have hl:z.cps.toList.length=z.length:=by simp [Str.length]
 rw [hl] at h1 h4 h5
 have hn:=ZgV
 exact tail_any (typeIs_str s z t) slot_str_getitem.lookup (getItem_str (c:=c) (by
  have e1:decide (i < -(2 ^ 63:Int))=false:=decide_eq_false (by omega)
  have e2:decide (i≥2 ^ 63)=false:=decide_eq_false (by omega)
  rw [e1,e2,Bool.or_false]) (by rw [h1]; simpa using h2) ⟨.str ⟨#[c]⟩,H,I.tok _,⟨_,rfl⟩,q⟩) hs
def rIx (K:PySem.W.Frag):R2:=fun x y H Q=>Zwu K x y H Q∨Zws K x y H Q∨Zwt x y H Q
theorem Zva:IxR X (rIx X.K):=ix_list.or (ix_tup.or Zu9)
theorem Zjl (lo hi:Option Int) (n:Nat):(sliceBounds lo hi none n).1=((HT.sIx n 0 lo:Nat):Int)∧(sliceBounds lo hi none n).2.1=((HT.sIx n n hi:Nat):Int)∧(sliceBounds lo hi none n).2.2=1:=by
 refine ⟨?_,?_,rfl⟩
 ·cases lo with
  | none=>simp [sliceBounds,HT.sIx]
  | some i=>
   simp only [sliceBounds,HT.sIx,Option.getD_none,show (1:Int) > 0 by decide,if_true]
   by_cases h:i<0
   ·simp only [h,if_true]<;>omega
   ·simp only [h,if_false]<;>omega
 ·cases hi with
  | none=>simp [sliceBounds,HT.sIx]
  | some i=>
   simp only [sliceBounds,HT.sIx,Option.getD_none,show (1:Int) > 0 by decide,if_true]
   by_cases h:i<0
   ·simp only [h,if_true]<;>omega
   ·simp only [h,if_false]<;>omega
theorem ZiC (its:List Value) (lo hi:Option Int):slicePick its.toArray lo hi none=((its.drop (HT.sIx its.length 0 lo)).take (HT.sIx its.length its.length hi-HT.sIx its.length 0 lo)).toArray:=by
 obtain ⟨h1,h2,h3⟩:=Zjl lo hi its.toArray.size
 unfold slicePick
 rw [h1,h2,h3]
 simp only [sliceRange_one,pick_run,Ye]<;>rfl
def Zwq (K:PySem.W.Frag):V→Option Int→Option Int→Hp→VK→Prop:=fun x lo hi H Q=>∃a xs,x=.ref a∧SqL K H a xs∧∀p,H p=none→Q (.ref p) (upd H p (.lst (ZkL xs lo hi)))
theorem sl_list:SlR X (Zwq X.K):=by
 intro pins s σ H x v vl vu lo hi sl Q I rx hs pl pu h
 obtain ⟨a,xs,rfl,hx,q⟩:=h
 cases rx
 obtain ⟨its,r,ht,hz⟩:=I.list hx
 have hlen:=r.length
 refine ⟨"list",_,slot_list_getitem.lookup,ht.isList.typeIs,?_⟩
 refine wpAny_getItem_list_slice ht.isList hs pl pu .none (by simp) ?_ (by rw [Ye]<;>omega)
 rw [ZiC,←hlen]
 refine ⟨.ref s.heap.objs.size,_,I.laid (t':=s.toks) (o:=.lst (ZkL xs lo hi)) (fun b ob q=>Heap.get?_push_of_some _ q) (Yd _) ?_,rfl,q _ (I.hok.fresh (Yd _))⟩
 exact ⟨Yt (Zhf xs lo hi) hz,_,0,(r.drop (HT.sIx xs.length 0 lo)).take (HT.sIx xs.length xs.length hi-HT.sIx xs.length 0 lo),Heap.get?_push_size _ rfl⟩
def ZdD:V→Bool
 | .non=>true
 | .bl _=>true
 | .int _=>true
 | .str _=>true
 | _=>false
def eqV:V→V→Bool
 | .non,.non=>true
 | .bl a,.bl b=>a == b
 | .bl a,.int b=>(if a then 1 else 0) == b
 | .int a,.bl b=>a == (if b then 1 else 0)
 | .int a,.int b=>a == b
 | .str a,.str b=>a == b
 | _,_=>false
theorem Zvg {A:Around} {s:Shared} {y x:V} {u v:Value} (ry:RelV y u) (rx:RelV x v) (fy:ZdD y=true) (fx:ZdD x=true):SeqAt.EqAt A s u v (eqV y x):=by
 cases y with
 | non=>
  cases ry
  cases x with
  | non=>cases rx; exact SeqAt.EqAt.same _
  | bl b=>cases rx; exact SeqAt.EqAt.none_bool b
  | int b=>obtain ⟨t,rfl⟩:=rx; exact SeqAt.EqAt.none_int b t
  | str b=>obtain ⟨t,rfl⟩:=rx; exact SeqAt.EqAt.none_str b t
  | _=>exact absurd (show false=true from fx) Yi
 | bl a=>
  cases ry
  cases x with
  | non=>cases rx; exact SeqAt.EqAt.bool_none a
  | bl b=>cases rx; exact SeqAt.EqAt.bool_bool a b
  | int b=>obtain ⟨t,rfl⟩:=rx; exact SeqAt.EqAt.bool_int a b t
  | str b=>obtain ⟨t,rfl⟩:=rx; exact SeqAt.EqAt.bool_str a b t
  | _=>exact absurd (show false=true from fx) Yi
 | int a=>
  obtain ⟨t',rfl⟩:=ry
  cases x with
  | non=>cases rx; exact SeqAt.EqAt.int_none a t'
  | bl b=>cases rx; exact SeqAt.EqAt.int_bool a t' b
  | int b=>obtain ⟨t,rfl⟩:=rx; exact SeqAt.EqAt.int_int a t' b t
  | str b=>obtain ⟨t,rfl⟩:=rx; exact SeqAt.EqAt.int_str a t' b t
  | _=>exact absurd (show false=true from fx) Yi
 | str a=>
  obtain ⟨t',rfl⟩:=ry
  cases x with
  | non=>cases rx; exact SeqAt.EqAt.str_none a t'
  | bl b=>cases rx; exact SeqAt.EqAt.str_bool a t' b
  | int b=>obtain ⟨t,rfl⟩:=rx; exact SeqAt.EqAt.str_int a t' b t
  | str b=>obtain ⟨t,rfl⟩:=rx; exact SeqAt.EqAt.str_str a t' b t
  | _=>exact absurd (show false=true from fx) Yi
 | _=>exact absurd (show false=true from fy) Yi
def eqU (x:V) (u:Value):Bool:=match u with
 | .none=>eqV .non x
 | .bool b=>eqV (.bl b) x
 | .int i _=>eqV (.int i) x
 | .str z _=>eqV (.str z) x
 | _=>false
theorem Zo6 {x y:V} {u:Value} (r:RelV y u) (f:ZdD y=true):eqU x u=eqV y x:=by
 cases y with
 | non=>cases r; rfl
 | bl b=>cases r; rfl
 | int i=>obtain ⟨t,rfl⟩:=r; rfl
 | str z=>obtain ⟨t,rfl⟩:=r; rfl
 | _=>exact absurd (show false=true from f) Yi
theorem ZgB {x:V}:∀{xs:List V} {us:List Value},Vals xs us→xs.all ZdD=true→us.any (eqU x)=xs.any fun y=>eqV y x
 | _,_,.nil,_=>rfl
 | y::xs,u::us,.cons r t,f=>by
  rw [List.all_cons,Yl] at f
  rw [YF,YF,Zo6 r f.1,ZgB t f.2]
theorem Ze4 {A:Around} {s:Shared} {x:V} {v:Value} (rx:RelV x v) (fx:ZdD x=true):∀{xs:List V} {us:List Value},Vals xs us→xs.all ZdD=true→∀u∈us,SeqAt.EqAt A s u v (eqU x u)
 | _,_,.nil,_=>fun u hu=>by cases hu
 | y::xs,u::us,.cons r t,f=>fun u' hu=>by
  rw [List.all_cons,Yl] at f
  rcases Yr.mp hu with rfl | hu
  ·rw [Zo6 r f.1]; exact Zvg r rx f.1 fx
  ·exact Ze4 rx fx t f.2 u' hu
def inV (x:V) (xs:List V):Bool:=xs.any fun y=>eqV y x
def rIn (K:PySem.W.Frag) (neg:Bool):R2:=fun x y H Q=>∃p xs,y=.ref p∧(SqL K H p xs∨SqT K H p xs)∧ZdD x=true∧xs.all ZdD=true∧Q (.bl (if neg then !inV x xs else inV x xs)) H
theorem Zm3:OpR X (compareOp .In) (rIn X.K false):=by
 intro pins s σ H x y v u Q I rx ry h
 obtain ⟨p,xs,rfl,hq,fx,fs,q⟩:=h
 cases ry
 rcases hq with hq | hq
 ·obtain ⟨its,r,pl,hz⟩:=I.list hq
  refine SeqAt.in_listAt (eqU x) pl.isList (fun w hw=>Ze4 rx fx r fs w (by simpa using hw)) ⟨.bl _,H,I,rfl,?_⟩
  rw [show its.toArray.any (eqU x)=its.any (eqU x) by simp,ZgB r fs]
  exact q
 ·obtain ⟨its,r,pl,hz⟩:=I.tuple hq
  refine SeqAt.in_tupleAt (eqU x) pl (fun w hw=>Ze4 rx fx r fs w (by simpa using hw)) ⟨.bl _,H,I,rfl,?_⟩
  rw [show its.toArray.any (eqU x)=its.any (eqU x) by simp,ZgB r fs]
  exact q
theorem Zjt:OpR X (compareOp .NotIn) (rIn X.K true):=by
 intro pins s σ H x y v u Q I rx ry h
 obtain ⟨p,xs,rfl,hq,fx,fs,q⟩:=h
 cases ry
 rcases hq with hq | hq
 ·obtain ⟨its,r,pl,hz⟩:=I.list hq
  refine SeqAt.notIn_listAt (eqU x) pl.isList (fun w hw=>Ze4 rx fx r fs w (by simpa using hw)) ⟨.bl _,H,I,rfl,?_⟩
  rw [show its.toArray.any (eqU x)=its.any (eqU x) by simp,ZgB r fs]
  exact q
 ·obtain ⟨its,r,pl,hz⟩:=I.tuple hq
  refine SeqAt.notIn_tupleAt (eqU x) pl (fun w hw=>Ze4 rx fx r fs w (by simpa using hw)) ⟨.bl _,H,I,rfl,?_⟩
  rw [show its.toArray.any (eqU x)=its.any (eqU x) by simp,ZgB r fs]
  exact q
theorem ZjS:CallR X (.builtin "len") (fun xs H Q=>∃p ys,xs=[.ref p]∧(SqL X.K H p ys∨SqT X.K H p ys)∧Q (.int ys.length) H):=by
 intro pins s σ H xs us Q I r h
 obtain ⟨p,ys,rfl,hq,q⟩:=h
 obtain ⟨u,rfl,rx⟩:=ZiL r
 cases rx
 have hn:=ZgV
 rcases hq with hq | hq
 ·obtain ⟨its,r',pl,hz⟩:=I.list hq
  have hlen:=r'.length
  exact Calls.call_len_list pl.isList (by simp only [Ye]<;>omega) ⟨.int ys.length,H,I.tok _,⟨s.toks+1,by rw [Ye,hlen]⟩,q⟩
 ·obtain ⟨its,r',pl,hz⟩:=I.tuple hq
  have hlen:=r'.length
  exact len_tuple pl (by simp only [Ye]<;>omega) ⟨.int ys.length,H,I.tok _,⟨s.toks+1,by rw [Ye,hlen]⟩,q⟩
theorem call_len_str:CallR X (.builtin "len") (fun xs H Q=>∃z,xs=[.str z]∧z.length≤sizeLine∧Q (.int z.length) H):=by
 intro pins s σ H xs us Q I r h
 obtain ⟨z,rfl,hz,q⟩:=h
 obtain ⟨u,rfl,t,rfl⟩:=ZiL r
 have hn:=ZgV
 exact len_str (by omega) ⟨.int z.length,H,I.tok _,⟨_,rfl⟩,q⟩
theorem CallR.or {f:Value} {r r':List V→Hp→VK→Prop} (h:CallR X f r) (h':CallR X f r'):CallR X f (fun xs H Q=>r xs H Q∨r' xs H Q):=by
 intro pins s σ H xs us Q I rs q
 rcases q with q | q
 ·exact h pins s σ H xs us Q I rs q
 ·exact h' pins s σ H xs us Q I rs q
theorem ZjR:CallR X (.type "list") (fun xs H Q=>∃p ys,xs=[.ref p]∧(SqL X.K H p ys∨SqT X.K H p ys)∧∀l,H l=none→Q (.ref l) (upd H l (.lst ys))):=by
 intro pins s σ H xs us Q I r h
 obtain ⟨p,ys,rfl,hq,q⟩:=h
 obtain ⟨u,rfl,rx⟩:=ZiL r
 cases rx
 have fin:∀(its:List Value),Vals ys its→ys.length≤sizeLine→∀(h':Heap) (c':Nat),(∀b o',s.heap.get? b=some o'→h'.get? b=some o')→
   h'.get? s.heap.objs.size=some { cls:=.type "list",dict:=none,data:=.seq its.toArray c',slots:=#[] }→EP X pins σ Q (.ref s.heap.objs.size) { s with heap:=h' }:=fun its r' hz h' c' kp e=>
  ⟨.ref s.heap.objs.size,_,I.laid (t':=s.toks) kp (Yd _) (show ObjOk X.prog X.w _ h' _ (.lst ys) from ⟨hz,its,c',r',e⟩),rfl,q _ (I.hok.fresh (Yd _))⟩
 rcases hq with hq | hq
 ·obtain ⟨its,r',pl,hz⟩:=I.list hq
  have hlen:=r'.length
  obtain ⟨o,ho,hc,n,hd⟩:=pl.isList
  exact call_list_seq p (.inl rfl) ho hc hd (fun h' c' kp e=>fin its r' hz h' c' kp e) (by simp only [Ye]<;>omega)
 ·obtain ⟨its,r',pl,hz⟩:=I.tuple hq
  have hlen:=r'.length
  obtain ⟨o,ho,hc,n,hd⟩:=pl
  exact call_list_seq p (.inr rfl) ho hc hd (fun h' c' kp e=>fin its r' hz h' c' kp e) (by simp only [Ye]<;>omega)
theorem ZiG:CallR X (.type "tuple") (fun xs H Q=>∃p ys,xs=[.ref p]∧((SqL X.K H p ys∧∀l,H l=none→Q (.ref l) (upd H l (.tup ys)))∨(SqT X.K H p ys∧Q (.ref p) H))):=by
 intro pins s σ H xs us Q I r h
 obtain ⟨p,ys,rfl,h⟩:=h
 obtain ⟨u,rfl,rx⟩:=ZiL r
 cases rx
 rcases h with ⟨hq,q⟩ | ⟨hq,q⟩
 ·obtain ⟨its,r',pl,hz⟩:=I.list hq
  have hlen:=r'.length
  refine call_tuple_list pl.isList (fun h' kp=>?_) (by simp only [Ye]<;>omega)
  have I1:Inv X pins σ H { s with heap:=h' }:=I.kept (t':=s.toks) kp
  have I2:Inv X pins σ (upd H h'.objs.size (.tup ys)) { s with heap:=h'.push { cls:=.type "tuple",data:=.seq its.toArray } }:=
   I1.laid (t':=s.toks) (fun b o e=>Heap.get?_push_of_some _ e) (Yd _) (show ObjOk X.prog X.w _ _ _ (.tup ys) from ⟨hz,its,r',IsTup.new _ _⟩)
  exact ⟨.ref h'.objs.size,_,I2,rfl,q _ (I1.hok.fresh (Yd _))⟩
 ·obtain ⟨its,r',pl,hz⟩:=I.tuple hq
  exact call_tuple_same pl ⟨.ref p,H,I,rfl,q⟩
def tyV (K:PySem.W.Frag) (T:String) (x:V) (H:Hp):Prop:=match x with
 | .str _=>T = "str"
 | .int _=>T = "int"
 | .ref p=>(T = "list"∧∃xs,SqL K H p xs)∨(T = "tuple"∧∃o,K.lookup p=some o∧o.cls=.type "tuple"∧o.dict=none)∨
   (T = "dict"∧((∃kvs,H p=some (.dK kvs))∨∃kvs,H p=some (.dT kvs)))∨(T = "set"∧∃S n,H p=some (.set S n))
 | _=>False
theorem Zt1 {pins:List (Addr×Obj)} {σ:St} {H:Hp} {s:Shared} {T:String} {x:V} {v:Value} (I:Inv X pins σ H s) (r:RelV x v) (ty:tyV X.K T x H) :
  s.TypeIs v T∧∀a,v=.ref a→∃ob,s.heap.get? a=some ob∧ob.dict=none:=by
 cases x with
 | str z=>
  obtain ⟨t,rfl⟩:=r
  cases (show T = "str" from ty)
  exact ⟨typeIs_str s z t,fun _ e=>nomatch e⟩
 | int i=>
  obtain ⟨t,rfl⟩:=r
  cases (show T = "int" from ty)
  exact ⟨typeIs_int s i t,fun _ e=>nomatch e⟩
 | ref p=>
  cases r
  rcases ty with ⟨rfl,xs,hq⟩ | ⟨rfl,o,hk,hc,hd⟩ | ⟨rfl,hk⟩ | ⟨rfl,S,n,hk⟩
  ·obtain ⟨its,_,pl,_⟩:=I.list hq
   refine ⟨pl.isList.typeIs,fun a e=>?_⟩
   cases e
   obtain ⟨o,n,e,c,hd,_⟩:=pl
   exact ⟨o,e,hd⟩
  ·refine ⟨⟨o,I.kIn p o hk,hc⟩,fun a e=>?_⟩
   cases e
   exact ⟨o,I.kIn _ o hk,hd⟩
  ·have z:∃o,s.heap.get? p=some o∧o.ExactDict:=by
    rcases hk with ⟨kvs,hk⟩ | ⟨kvs,hk⟩
    ·obtain ⟨_,_,_,_,o,_,_,e,ex,_⟩:=I.hok p _ hk
     exact ⟨o,e,ex⟩
    ·obtain ⟨_,_,_,_,o,_,_,e,ex,_⟩:=I.hok p _ hk
     exact ⟨o,e,ex⟩
   obtain ⟨o,e,ex⟩:=z
   refine ⟨⟨o,e,ex.1⟩,fun a e2=>?_⟩
   cases e2
   exact ⟨o,e,ex.2.1⟩
  ·obtain ⟨o,_,_,_,e,ex,_⟩:=I.hok p _ hk
   refine ⟨⟨o,e,ex.1⟩,fun a e2=>?_⟩
   cases e2
   exact ⟨o,e,ex.2.1⟩
 | _=>exact False.elim ty
def tBM (K:PySem.W.Frag) (T:String) (r:V→List V→Hp→VK→Prop) (to:TE) (t:TA):TE:=fun σ H Q=>to σ H fun x H1=>tyV K T x H1∧t σ H1 fun xs H2=>r x xs H2 Q
variable {o e:Expr} {es:List Expr} {to:TE} {t:TA} {name:Str} {apos cpos:Pos} {T id:String} {r:V→List V→Hp→VK→Prop}
theorem ZiV (pa:PlainAttrs T) (slot:Slot T name id) (hty:typeOf (.builtin id)=pure (.type "method_descriptor")) (hm:MtR X id r) (ho:PE X o to) (ha:PA X (e::es) t)
  (hbase:attributeBase o name X.env (eval o X.env)=eval o X.env:=by rfl)
  (hfew:((backTo cpos (starEach (e::es) X.env)).all (fun x=>!x.1) && (backToKw cpos (keywordEach [] X.env)).all (fun x=>x.1.isSome)
   && decide ((e::es).length+([]:List Keyword).length+(if ([]:List Keyword).isEmpty then 0 else 1)<30))=true:=by rfl)
  (hline:(apos.endLine == cpos.line)=true:=by rfl) (hs:starEach (e::es) X.env=(false,eval e X.env)::starEach es X.env:=by rfl) (hplain:(backTo cpos (starEach es X.env)).any (·.1)=false:=by rfl) :
  PE X (.Call (.Attribute o name apos) (e::es) [] cpos) (tBM X.K T r to t):=by
 intro pins s σ H Q I h
 refine wpAny_Call_method_late hbase hfew hline rfl (thn (ho pins s σ H _ I h) fun v s1 ⟨x,H1,I1,r1,ty,q1⟩=>?_)
 obtain ⟨h1,h2⟩:=Zt1 I1 r1 ty
 refine ⟨T,id,pa,slot,hty,h1,h2,?_⟩
 have hA:=ha cpos pins s1 σ H1 _ I1 q1
 rw [hs] at hA ⊢
 refine Calls.callWith_builtin (by show (false || (backTo cpos (starEach es X.env)).any (·.1))=false; rw [hplain]<;>rfl) (Calls.evalArgs_plain ?_)
 exact thn hA fun us s2 ⟨vs,H2,I2,r2,q2⟩=>hm pins s2 σ H2 x vs v us Q I2 r1 r2 q2
end
def MtM (X:Cx) (id:String) (r:V→List V→Hp→VK→Prop):Prop:=
 ∀(pins:List (Addr×Obj)) (s:Shared) (σ:St) (H:Hp) (x:V) (xs:List V) (v:Value) (us:List Value) (Q:VK),Inv X pins σ H s→RelV x v→Vals xs us→r x xs H Q→
  wpAny (model X.prog X.w) X.A (call (.builtin id) (v::us)) (EP X pins σ Q) X.xe s
theorem Vals.one:∀{x:V} {us:List Value},Vals [x] us→∃u,us=[u]∧RelV x u
 | _,_,.cons r .nil=>⟨_,rfl,r⟩
theorem Vals.rep {xs:List V} {us:List Value} (h:Vals xs us):∀k:Nat,Vals (List.replicate k xs).flatten (List.replicate k us).flatten
 | 0=>.nil
 | k+1=>by
  rw [Yx,Yx,YG,YG]
  exact Vals.append h (Vals.rep h k)
theorem Zfr (its:List Value):∀(k:Nat) (acc:List Value),
  List.foldl (fun x1 x2=>x1++x2) acc.toArray (List.replicate k its.toArray)=(acc++(List.replicate k its).flatten).toArray
 | 0,acc=>by simp
 | k+1,acc=>by
  have e:acc.toArray++its.toArray=(acc++its).toArray:=by simp
  have e2:(acc++its)++(List.replicate k its).flatten=acc++(List.replicate (k+1) its).flatten:=by
   rw [Yx,YG,Yz]
  rw [←e2,←Zfr its k (acc++its),←e,Yx,List.foldl_cons]
section
variable {X:Cx} {pins:List (Addr×Obj)} {σ:St} {H:Hp} {s:Shared} {l b:Addr} {xs ys zs:List V}
theorem Inv.lset {its its':List Value} {n:Nat} {f:Array Value→Array Value} {t':Nat} (I:Inv X pins σ H s) (hH:H l=some (.lst xs))
  (e:s.heap.get? l=some { cls:=.type "list",data:=.seq its.toArray n }) (hf:f its.toArray=its'.toArray) (hv:Vals ys its') (hz:ys.length≤sizeLine) :
  Inv X pins σ (upd H l (.lst ys)) { s with heap:=s.heap.update l (Obj.mapSeq f),toks:=t' }:=by
 have q:=PySem.IsL.update e f
 rw [hf] at q
 refine I.write (x:=l) (e:=l) (by rw [hH]; exact trivial) (.inl rfl) (fun b' u hb hu=>(Heap.get?_update_other s.heap (Obj.mapSeq f) (Ne.symm hb)).trans hu) ⟨_,q⟩ ?_
 exact ⟨hz,its',_,hv,q⟩
theorem Inv.lnew {its:List Value} {t':Nat} (I:Inv X pins σ H s) (hv:Vals ys its) (hz:ys.length≤sizeLine) :
  Inv X pins σ (upd H s.heap.objs.size (.lst ys)) { s with heap:=s.heap.push { cls:=.type "list",data:=.seq its.toArray },toks:=t' }:=
 I.laid (fun _ _ q=>Heap.get?_push_of_some _ q) (Yd _) ⟨hz,its,0,hv,Heap.get?_push_size _ rfl⟩
theorem Inv.fresh (I:Inv X pins σ H s):H s.heap.objs.size=none:=I.hok.fresh (Yd _)
theorem Inv.lstM (I:Inv X pins σ H s) (hH:H l=some (.lst xs)):xs.length≤sizeLine∧∃(its:List Value) (n:Nat),Vals xs its∧xs.length=its.length∧s.heap.get? l=some { cls:=.type "list",data:=.seq its.toArray n }:=by
 obtain ⟨z,its,n,r,e⟩:=I.hok l _ hH
 exact ⟨z,its,n,r,r.length,e⟩
theorem Zgf {n:Nat} (h:n≤sizeLine):Builtin.List.listTooLong n=false:=by
 unfold Builtin.List.listTooLong
 exact decide_eq_false (by omega)
end
section
variable {X:Cx}
def Zjp:V→List V→Hp→VK→Prop:=fun x vs H Q=>∃l xs y,x=.ref l∧vs=[y]∧H l=some (.lst xs)∧xs.length<sizeLine∧Q .non (upd H l (.lst (xs++[y])))
theorem Zd9:MtM X "list.append" Zjp:=by
 intro pins s σ H x vs v us Q I rx rv h
 obtain ⟨l,xs,y,rfl,rfl,hH,hz,q⟩:=h
 cases rx
 obtain ⟨u,rfl,ru⟩:=rv.one
 obtain ⟨z,its,n,r,hl,e⟩:=I.lstM hH
 refine call_meets F.slot_list_append ⟨_,e,rfl⟩ F.entry_list_append (F.args_list_append_2 _ _) (PySem.list_append l its.toArray n u (by rw [Ye]; omega)) ⟨e,?_⟩
 refine ⟨.non,_,I.lset (its':=its++[u]) hH e (by simp) (r.append (.cons ru .nil)) ?_,rfl,q⟩
 rw [Ym,Y7]
 omega
def Zrf:V→List V→Hp→VK→Prop:=fun x vs H Q=>∃l b xs zs,x=.ref l∧vs=[.ref b]∧H l=some (.lst xs)∧H b=some (.lst zs)∧xs.length+zs.length≤sizeLine∧Q .non (upd H l (.lst (xs++zs)))
theorem ZvJ:MtM X "list.extend" Zrf:=by
 intro pins s σ H x vs v us Q I rx rv h
 obtain ⟨l,b,xs,zs,rfl,rfl,hH,hB,hz,q⟩:=h
 cases rx
 obtain ⟨u,rfl,ru⟩:=rv.one
 cases ru
 obtain ⟨z,its,n,r,hl,e⟩:=I.lstM hH
 obtain ⟨z2,its2,n2,r2,hl2,e2⟩:=I.lstM hB
 have hsz:its.toArray.size+its2.toArray.size≤sizeLine:=by rw [Ye,Ye]; omega
 have hlong:¬(!its.toArray.isEmpty && Builtin.List.listTooLong (its.toArray.size+its2.toArray.size))=true:=by
  rw [Zgf hsz,Y0]
  exact Yi
 refine call_meets F.slot_list_extend ⟨_,e,rfl⟩ F.entry_list_extend (F.args_list_extend_2 _ _)
  (AutoSeq1.list_extend_list_list_0 l its.toArray n b its2.toArray n2 hlong (by rw [Ye]; omega) (by omega)) ⟨e,e2,?_⟩
 refine ⟨.non,_,I.lset (its':=its++its2) hH e (by simp) (r.append r2) ?_,rfl,q⟩
 rw [Ym]
 omega
def ZAg:R2:=fun x y H Q=>∃l b xs zs,x=.ref l∧y=.ref b∧H l=some (.lst xs)∧H b=some (.lst zs)∧xs.length+zs.length≤sizeLine∧∀p,H p=none→Q (.ref p) (upd H p (.lst (xs++zs)))
theorem ZuX:OpR X (binaryOp .Add) ZAg:=by
 intro pins s σ H x y v u Q I rx ry h
 obtain ⟨l,b,xs,zs,rfl,rfl,hH,hB,hz,q⟩:=h
 cases rx
 cases ry
 obtain ⟨z,its,n,r,hl,e⟩:=I.lstM hH
 obtain ⟨z2,its2,n2,r2,hl2,e2⟩:=I.lstM hB
 refine PySem.P.add_list e e2 ?_ (by rw [Ye,Ye]; omega)
 have ea:its.toArray++its2.toArray=(its++its2).toArray:=by simp
 rw [ea]
 exact ⟨.ref _,_,I.lnew (t':=s.toks) (r.append r2) (by rw [Ym]; omega),rfl,q _ I.fresh⟩
def ZAf:R2:=fun x y H Q=>∃l k xs,x=.ref l∧y=.int k∧H l=some (.lst xs)∧-(2 ^ 63)≤k∧k<2 ^ 63∧xs.length*k.toNat≤sizeLine∧
 ∀p,H p=none→Q (.ref p) (upd H p (.lst (List.replicate k.toNat xs).flatten))
theorem Zjz {α:Type} (xs:List α) (k:Nat):(List.replicate k xs).flatten.length=k*xs.length:=by
 induction k with
 | zero=>simp
 | succ k ih=>rw [Yx,YG,Ym,ih,Nat.succ_mul,Nat.add_comm]
theorem ZuS:OpR X (binaryOp .Mult) ZAf:=by
 intro pins s σ H x y v u Q I rx ry h
 obtain ⟨l,k,xs,rfl,rfl,hH,h1,h2,hz,q⟩:=h
 cases rx
 obtain ⟨t,rfl⟩:=ry
 obtain ⟨z,its,n,r,hl,e⟩:=I.lstM hH
 have hlen:its.toArray.size*k.toNat≤sizeLine:=by rw [Ye,←hl]; exact hz
 have hcap:¬its.toArray.size*k.toNat > (2 ^ 63-1)/8:=by
  have:(sizeLine:Nat)≤(2 ^ 63-1)/8:=by decide
  omega
 have hfit:¬(!Builtin.List.listFitsIndex k)=true:=by
  rw [fitsIndex_both h1 h2]
  exact Yi
 have hlong:¬Builtin.List.listTooLong (its.toArray.size*k.toNat)=true:=by
  rw [Zgf hlen]
  exact Yi
 have hnew:List.foldl (fun x1 x2=>x1++x2) #[] (List.replicate (if its.toArray.isEmpty=true then 0 else k.toNat) its.toArray)=(List.replicate k.toNat its).flatten.toArray:=by
  have f0:∀m:Nat,List.foldl (fun x1 x2=>x1++x2) #[] (List.replicate m its.toArray)=(List.replicate m its).flatten.toArray:=fun m=>by
   have:=Zfr its m []
   rw [YU] at this
   exact this
  rw [f0]
  cases its with
  | nil=>simp
  | cons a r'=>rw [if_neg (by simp)]
 refine wpAny_binaryOp_repeat_ref (T:="list") (U:="int") (by decide) ⟨_,e,rfl⟩ (fun s'=>typeIs_int s' k t) noFill_list_mul F.fills_int_mul F.slot_int_rmul repeat_list F.slot_int_index.lookup
  (call_meets F.slot_int_rmul (typeIs_int s k t) F.entry_int_rmul (F.args_int_rmul_2 _ _) (int___rmul___int_list k t l its.toArray n)
   ⟨e,rfl,⟨_,e,rfl⟩,call_meets F.slot_list_mul ⟨_,e,rfl⟩ F.entry_list_mul (F.args_list_mul_2 _ _) (AutoListH.list___mul___list_int_3 l its.toArray n k t hfit hcap hlong) ⟨e,?_⟩⟩)
 rw [hnew]
 exact ⟨.ref _,_,I.lnew (t':=s.toks) (r.rep k.toNat) (by rw [Zjz,Nat.mul_comm]; exact hz),rfl,q _ I.fresh⟩
end
section
variable {prog:Program} {w:World} {A:Around} {E:Value→Shared→Prop} {s:Shared}
theorem Zlw {a c n:Nat} (hac:a≤c) (hc:c≤n):sliceBounds (some (a:Int)) (some (c:Int)) none n=((a:Int),(c:Int),1):=by
 simp only [sliceBounds,Option.getD_none]
 have h1:¬((a:Int)<0):=by omega
 have h2:¬((c:Int)<0):=by omega
 simp only [h1,h2,if_false,show (1:Int) > 0 by decide,if_true]
 congr 1
 ·omega
 ·congr 1; omega
set_option maxRecDepth 100000 in
theorem ZpB {l b sl:Addr} {items new:Array Value} {n n2:Nat} {vl vu:Value} {a c:Nat} {Q:Unit→Shared→Prop}
  (e:s.heap.get? l=some { cls:=.type "list",data:=.seq items n }) (e2:s.heap.get? b=some { cls:=.type "list",data:=.seq new n2 }) (hne:l≠b)
  (hs:s.heap.IsSliceOf sl vl vu .none) (pl:IsPart vl (some (a:Int))) (pu:IsPart vu (some (c:Int))) (hac:a≤c) (hc:c≤items.size)
  (hsz:items.size+new.size≤sizeLine) (h:Q () { s with heap:=s.heap.update l (Obj.mapSeq fun xs=>xs.extract 0 a++new++xs.extract c xs.size) }) :
  wpAny (model prog w) A (setItem (.ref l) (.ref sl) (.ref b)) Q E s:=by
 have hl:s.heap.IsList l items:=PySem.IsL.isList e
 have hb:s.heap.IsList b new:=PySem.IsL.isList e2
 obtain ⟨os,hos,hcs,hds⟩:=id hs
 have hTs:s.TypeIs (.ref sl) "slice":=⟨os,hos,hcs⟩
 have hstep:¬((rawPart none == rawInt 0)=true):=Yi
 have hsame:Builtin.List.listSameRef (.ref l) (.ref b)=false:=by
  unfold Builtin.List.listSameRef
  exact beq_eq_false_iff_ne.mpr hne
 have hmax:(max (a:Int) (c:Int)).toNat=c:=by omega
 have hz':((fun xs:Array Value=>xs.extract 0 a++new++xs.extract c xs.size) items).size≤sizeLine+1:=by
  simp only [Array.size_append,Array.size_extract]
  omega
 unfold setItem
 try with_reducible refine wpAny_holding ?_
 first | refine wpAny_bind (wpAny_pure ?_) | skip
 refine wpAny_bind (wpAny_sequenceKey hl.typeIs (by decide) ?_)
 refine wpAny_bind (wpAny_callSpecial?_slot (name:=Str.ofString "__setitem__") hl.typeIs slot_list_setitem
  (wpAny_call_entry slot_list_setitem hl.typeIs entry_list_setitem ?_ (args_list_setitem _ _ _)))
 show wpAny _ _ (Builtin.List.listSubscript? (.ref sl) >>= _) _ _ s
 refine wpAny_bind ?_
 unfold Builtin.List.listSubscript?
 refine wpAny_bind (wpAny_specialOf hTs slice_no_index ?_)
 simp only [Option.isNone_none,if_true]
 refine wpAny_pure ?_
 show wpAny _ _ (typeOf (.ref sl) >>= _) _ _ s
 refine wpAny_bind (wpAny_typeOf hTs ?_)
 first
  | rw [if_neg (by decide)]
  | refine PySem.W.KFB.if_not (by decide) ?_
 rw [listSliceParts_eq]
 refine wpAny_bind (wpAny_bind (wpAny_field hos hds (x:=.none) rfl (wpAny_bind (wpAny_listPart .none ?_))))
 rw [if_neg hstep]
 refine wpAny_bind (wpAny_field hos hds (x:=vl) rfl (wpAny_bind (wpAny_listPart pl ?_)))
 refine wpAny_bind (wpAny_field hos hds (x:=vu) rfl (wpAny_bind (wpAny_listPart pu (wpAny_pure ?_))))
 first
  | simp only [hsame,YY,if_false]
  | refine PySem.W.KFB.if_not hsame ?_
  | (dsimp only
     rw [if_neg (by rw [hsame]; exact Yi)])
 refine wpAny_bind (m:=Builtin.List.listAllItems (.ref b) "must assign iterable to extended slice") ?_
 unfold Builtin.List.listAllItems
 refine wpAny_bind (wpAny_typeOf hb.typeIs ?_)
 first
  | refine PySem.W.KFB.if_so (by decide) ?_
  | rw [if_pos (by decide)]
  | simp only [beq_self_eq_true,Bool.true_or,if_true]
 unfold Builtin.List.listItems
 refine wpAny_bind (wpAny_seqItems e2 rfl (wpAny_pure ?_))
 refine wpAny_bind (wpAny_bind (wpAny_seqItems e rfl (wpAny_pure ?_)))
 refine wpAny_bind (wpAny_of_eq ((sliceIndices_raw (some (a:Int)) (some (c:Int)) none items.size (by simp)).trans (congrArg (pure:Int×Int×Int→Sem (Int×Int×Int)) (Zlw hac hc))) ?_)
 show wpAny _ _ (if ((1:Int) == 1)=true then _ else _) _ _ s
 rw [if_pos (by decide)]
 refine wpAny_bind (wpAny_rule ?_)
 first
  | simp only [Zgf hsz,YY,if_false]
  | refine PySem.W.KFB.if_not (Zgf hsz) ?_
 first | refine wpAny_bind (wpAny_pure ?_) | skip
 show wpAny _ _ (updateSeq l (fun xs=>xs.extract 0 ((a:Int)).toNat++new++xs.extract (max (a:Int) (c:Int)).toNat xs.size) >>= _) _ _ s
 rw [hmax,Int.toNat_natCast]
 refine wpAny_bind (wpAny_updateSeq (hz:=Yt (Nat.le_add_right _ _) hsz) (_hz':=hz') e rfl ?_)
 refine wpAny_bind (wpAny_letGo ?_)
 first
  | exact wpAny_bind (wpAny_pure (wpAny_pure ⟨.none,rfl,wpAny_pure h⟩))
  | exact wpAny_pure ⟨.none,rfl,wpAny_pure h⟩
end
end L2
namespace Att
open PySem PySem.W PySem.Calls PyProof.Rows
theorem Zhv {P:Params} {h:Heap}:∀(ns:List Int) (vs:List Value),WellAll P h vs (ns.map WData.int)→IntsAre vs ns:=by
 intro ns
 induction ns with
 | nil=>
  intro vs w
  rw [Yo] at w
  cases w
  exact .nil
 | cons n ns ih=>
  intro vs w
  rw [Yf] at w
  cases w with
  | cons a b=>
   cases a
   exact .cons _ _ (ih _ b)
theorem ZmX {l:OpenLaw} {n:Nat} (hn:l.most=some n) {P:Params} {h:Heap} {args:List WData} {vals:List Value}
  (hpre:l.row.toRowW.claim.pre args=true) (hwl:WellAll P h vals args) :
  ∃a vs ns,vals=[Value.ref a]∧args=[WData.list (ns.map WData.int)]∧h.get? a=some { cls:=.type "list",data:=.seq vs.toArray }∧IntsAre vs ns∧ns.length≤n:=by
 have hsh:WShape.hasAll [] args [.list .int]=true:=(pre_splitW hpre).1
 have hc:l.pre.holds [] { args:=args }=true:=(pre_splitW hpre).2
 obtain ⟨d,r,rfl,h1,h2⟩:=hasAllW_cons hsh
 obtain rfl:=hasAllW_nil h2
 obtain ⟨xs,rfl,h3⟩:=hasW_list h1
 obtain ⟨ns,rfl⟩:=items_int h3
 have hlen:ns.length≤n:=by
  unfold OpenLaw.pre at hc
  have h4:(WTm.not (.lt (.lit (.int (n:Int))) (.len (.arg 0)))).holds [] { args:=[.list (ns.map .int)] }=true:=by
   have h4:=(holds_andW hc).1
   rw [hn] at h4
   exact h4
  have h5:=condW_of h4 (w_not (w_lt w_lit (w_len_list (w_arg rfl))))
  rw [List.length_map] at h5
  refine Nat.le_of_not_lt fun q=>?_
  have q':(n:Int)<((ns.length:Nat):Int):=by omega
  first
   | (rw [decide_eq_true q'] at h5; exact absurd h5 (by decide))
   | (simp at h5; omega)
 cases hwl with
 | cons w1 w2=>
  cases w2
  cases w1 with
  | list ho hall=>exact ⟨_,_,ns,rfl,rfl,ho,Zhv ns _ hall,hlen⟩
theorem ZmY (l:OpenLaw) (args:List WData):l.row.toRowW.claim.post args (.bool true) args=true:=
 postW_of (r:=l.row.toRowW) (X:=(true == true))
  (show WShape.has [] (.bool true) .bool=true by first | rfl | decide | simp [WShape.has,WShape.arms,WShape.armsAll])
  (show (WTm.eq .res (.lit (.bool true))).value [] { args:=args,res:=some (.bool true),after:=args }=some (.bool (true == true)) from w_eq_bool (w_res rfl) w_lit) rfl
theorem attach_call {l:OpenLaw} {n:Nat} {q:Program} {loose:List Str} {XP:(Str→Option Value)→Heap→Prop} {YP:World→Heap→Prop} {d:DefRec}
  (hn:l.most=some n) (hdf:d.params.defaults=[])
  (call:∀(w:World) (s₀ s₁:Shared) (mg mb:Str→Option Value) (fa:Addr) (o:Obj) (pm cd doc:Value) (a:Addr) (vs:List Value) (ns:List Int),
   Ground q loose [] XP w s₀ mg mb s₁.heap→YP w s₁.heap→
   s₁.heap.get? fa=some o→o.data=.func (docDef d.name d.params d.body d.scope pm cd doc)→s₁.heap.CodeRec cd d.name→mg d.name=some (.ref fa)→
   s₁.heap.get? a=some { cls:=.type "list",data:=.seq vs.toArray }→IntsAre vs ns→ns.length≤n→s₁.gens=#[]→
   codeAny (model l.prog w) callerA (.call (.ref fa) ⟨[.ref a],[]⟩) (fun r s'=>r=.ok (.ret (.bool true))∧OldK s₁.heap s'.heap∧s'.os=s₁.os∧AllBare s'.gens) s₁) :
  WalkO q loose XP YP l.row.toRowW d [] (fun f vs=>PySem.call f vs):=by
 intro w s₀ s₁ mg mb G Y fa o pm cd doc dV kV ho hd hcd hD hmg hg args vals as hpre hlay hrd hwl hlo
 obtain rfl:dV=.none:=Dflts.none hD hdf
 obtain rfl:kV=.none:=Dflts.noKw hD
 obtain ⟨a,vs,ns,rfl,rfl,hobj,hints,hlen⟩:=ZmX hn hpre hwl
 refine enter_call (codeAny_mono (call w s₀ s₁ mg mb fa o pm cd doc a vs ns G Y ho (fd_plain hd) hcd hmg hobj hints hlen hg) fun r s' hq=>?_)
 obtain ⟨rfl,h2,h3,h4⟩:=hq
 exact ⟨.inl ⟨.bool true,.bool true,[],rfl,fun _=>rfl,.bool true,ZmY l _,fun _=>⟨List.Pairwise.nil,fun _ hm=>(nomatch hm)⟩⟩,h2,h3,h4⟩
end Att
namespace L2
open PySem PySem.Spec PyProof.Rows
theorem ZiK:∀{vs:List Value} {ns:List Int},IntsAre vs ns→Vals (ns.map V.int) vs
 | _,_,.nil=>.nil
 | _,_,.cons n t h=>.cons ⟨t,rfl⟩ (ZiK h)
def Zr9 (H:Hp):Prop:=∀b,H b=none∨∃o xs,H b=some (.frz o (.lst xs))
theorem ZoO {P:Program} {w:World} {K:PySem.W.Frag} {mg mb:Str→Option Value} {CX:CXT} {k:Nat} {fa a:Addr} {fd:FuncData} {x:Str} {sp:Sp} {s₁:Shared} {vs:List Value} {ns:List Int}
  (KX:K.In s₁.heap) (hns:s₁.heap.Ns mainGlobals mg) (hb:s₁.heap.Ns builtinsNs mb) (hbb:∀x:Str,x≠"__name__"→mb x=bootBuiltins x) (hlim:s₁.heap.NoLimit) (hg:s₁.gens=#[])
  (ha:s₁.heap.get? a=some { cls:=.type "list",data:=.seq vs.toArray }) (hi:IntsAre vs ns) (hl:ns.length≤sizeLine) (hr:Room k callerA)
  (F:∀base:Heap,K.In base→base.Ns mainGlobals mg→FnOk P w K mg base CX k fa fd [x] sp) (hbind:∀(s:Shared) (u:Value),BindsTo s fd ⟨[u],[]⟩ [(x,u)])
  (hsp:∀H:Hp,Zr9 H→SqL K H a (ns.map V.int)→sp [.ref a] H (fun v _=>v=.bl true) fun _ _ _=>False)
  (hCX:∀H e s',CX [] H s₁ (fun _ _ _=>False) e s'→False) :
  codeAny (model P w) callerA (.call (.ref fa) ⟨[.ref a],[]⟩) (fun r s'=>r=.ok (.ret (.bool true))∧OldK s₁.heap s'.heap∧s'.os=s₁.os∧AllBare s'.gens) s₁:=by
 have rv:=ZiK hi
 have lenV:=hi.length
 have core:∀H:Hp,Zr9 H→SqL K H a (ns.map V.int)→HOk P w H s₁.heap→(∀b,H b≠none→b=a)→(H a≠none→K.lookup a=none)→
   codeAny (model P w) callerA (.call (.ref fa) ⟨[.ref a],[]⟩) (fun r s'=>r=.ok (.ret (.bool true))∧OldK s₁.heap s'.heap∧s'.os=s₁.os∧AllBare s'.gens) s₁:=by
  intro H hO hS hok hA hK
  have base_of:∀{b:Addr} {o:Obj},s₁.heap.get? b=some o→H b=none→(ZjF s₁.heap H).get? b=some o:=fun e n=>ZoU e n
  have noA:∀{b:Addr} {o:Obj} {es:Array DictEntry} {ep:Nat},s₁.heap.get? b=some o→o.data=.dict es ep→H b=none:=fun {b o es ep} e d=>by
   cases q:H b with
   | none=>rfl
   | some u=>
    have e':b=a:=hA b (by rw [q]; simp)
    subst e'
    rw [ha] at e; cases e
    have d':Data.seq vs.toArray _=Data.dict es ep:=d
    cases d'
  have nsK:∀{b:Addr} {m:Str→Option Value},s₁.heap.Ns b m→(ZjF s₁.heap H).Ns b m:=fun {b m} ⟨o,es,ep,e,d,r⟩=>⟨o,es,ep,base_of e (noA e d),d,r⟩
  have hKb:K.In (ZjF s₁.heap H):=fun b o e=>base_of (KX b o e) (by
   cases q:H b with
   | none=>rfl
   | some u=>
    have e':b=a:=hA b (by rw [q]; simp)
    subst e'
    rw [hK (by rw [q]; simp)] at e; cases e)
  have hM:Mod K mg (ZjF s₁.heap H):=⟨hKb,nsK hns,⟨mb,nsK hb,hbb⟩,let ⟨mc,h1,h2⟩:=hlim; ⟨mc,nsK h1,h2⟩⟩
  have e0:Env0 P w K mg (ZjF s₁.heap H) callerA [] s₁ H:=⟨rfl,hM,fun b o e=>Zrx e,Nat.le_of_eq (Zni _ _),trivial,fun b hb=>absurd (show b∈([]:List Addr) from hb) (by simp),hok,.of_eq hg⟩
  refine codeAny_mono ((F _ hKb (nsK hns)).run callerA [] s₁ H ⟨[.ref a],[]⟩ [.ref a] [.ref a] _ _ hr e0 (hbind s₁ (.ref a)) (.cons rfl .nil) (hsp H hO hS)) fun r s' h=>?_
  cases r with
  | error e=>exact (hCX H e s' h).elim
  | ok fl=>
   cases fl with
   | next=>exact False.elim h
   | brk=>exact False.elim h
   | cont=>exact False.elim h
   | ret u=>
    obtain ⟨v,H',os,bare,un,hok',r',q⟩:=h
    have q':v=.bl true:=q
    subst q'
    obtain rfl:u=Value.bool true:=r'
    refine ⟨rfl,OldK.of_keep fun b o e=>?_,os,bare⟩
    cases q:H b with
    | none=>exact un.keep b o e q (by intro z; exact absurd (show b∈([]:List Addr) from z) (by simp)) (by simp)
    | some u=>
     rcases hO b with z | ⟨ob,xs,z⟩
     ·rw [q] at z; cases z
     ·have z2:=un.frzs b ob _ z
      obtain ⟨e1,_⟩:=hok b _ z
      obtain ⟨e2,_⟩:=hok' b _ z2
      rw [e] at e1; cases e1
      exact e2
 cases hk:K.lookup a with
 | some o=>
  have e:=KX a o hk
  rw [ha] at e
  cases e
  refine core (fun _=>none) (fun _=>.inl rfl) (.inr ⟨_,vs.toArray,_,hk,rfl,rfl,rfl,by rw [Ye,lenV]; exact hl,by simpa using rv⟩) (fun b u z=>by have z':(none:Option HO)=some u:=z; cases z') (fun b z=>absurd rfl z) fun z=>absurd rfl z
 | none=>
  refine core (fun b=>if b=a then some (.frz { cls:=.type "list",data:=.seq vs.toArray } (.lst (ns.map V.int))) else none) (fun b=>?_) (.inl (.inr ⟨{ cls:=.type "list",data:=.seq vs.toArray },if_pos rfl⟩)) (fun b u z=>?_) (fun b z=>?_) fun _=>hk
  ·by_cases hb:b=a
   ·exact .inr ⟨_,_,if_pos hb⟩
   ·exact .inl (if_neg hb)
  ·by_cases hb:b=a
   ·have z':=(if_pos hb).symm.trans z
    cases z'
    subst hb
    exact ⟨ha,by rw [List.length_map]; exact hl,vs,_,rv,ha⟩
   ·have z':=(if_neg hb).symm.trans z
    cases z'
  ·by_cases hb:b=a
   ·exact hb
   ·exact absurd (if_neg hb) z
theorem ZqS {l:PySem.W.OpenLaw} {n k:Nat} {q:Program} {loose:List Str} {XP:(Str→Option Value)→Heap→Prop} {YP:World→Heap→Prop} {d:DefRec} {K:Params→PySem.W.Frag} {CX:World→CXT} {sp:World→Sp} {x:Str}
  (hn:l.most=some n) (hn2:n≤sizeLine) (hdf:d.params.defaults=[]) (hr:Room k callerA)
  (hY:∀(w:World) (h:Heap),YP w h→(K w.params).In h)
  (F:∀(w:World) (mg:Str→Option Value) (fa:Addr) (h:Heap),(K w.params).In h→h.Ns mainGlobals mg→mg d.name=some (.ref fa)→
   ∃fd:FuncData,(∀(s:Shared) (u:Value),BindsTo s fd ⟨[u],[]⟩ [(x,u)])∧
    ∀base:Heap,(K w.params).In base→base.Ns mainGlobals mg→FnOk l.prog w (K w.params) mg base (CX w) k fa fd [x] (sp w))
  (hsp:∀(w:World) (H:Hp) (a:Addr) (ns:List Int),ns.length≤n→Zr9 H→SqL (K w.params) H a (ns.map V.int)→sp w [.ref a] H (fun v _=>v=.bl true) fun _ _ _=>False)
  (hCX:∀(w:World) (H:Hp) (s:Shared) (e:Value) (s':Shared),CX w [] H s (fun _ _ _=>False) e s'→False) :
  PySem.W.WalkO q loose XP YP l.row.toRowW d [] (fun f vs=>PySem.call f vs):=by
 refine Att.attach_call hn hdf fun w s₀ s₁ mg mb fa o pm cd doc a vs ns G Y ho hd hcd hmg hobj hints hlen hg=>?_
 have KX:=hY w _ Y
 obtain ⟨fd,hb,hF⟩:=F w mg fa _ KX G.T.g hmg
 exact ZoO KX G.T.g G.T.b G.T.builtins G.T.nolimit hg hobj hints (Yt hlen hn2) hr hF hb (fun H hO hS=>hsp w H a ns hlen hO hS) fun H e s'=>hCX w H s₁ e s'
def ZdB (s:Stmt) (j:Nat):Stmt:=match s with
 | .ClassDef _ _ _ body _ _ _ _ _ _ _=>body.getD j (.Pass ⟨0,0,0,0⟩)
 | _=>.Pass ⟨0,0,0,0⟩
def ZeD (s:Stmt):Arguments:=match s with
 | .FunctionDef _ a _ _ _ _ _ _ _ _=>a
 | _=>{ posonlyargs:=[],args:=[],vararg:=none,kwonlyargs:=[],kw_defaults:=[],kwarg:=none,defaults:=[] }
def Zbd (s:Stmt):List Stmt:=match s with
 | .FunctionDef _ _ b _ _ _ _ _ _ _=>b
 | _=>[]
def Zj (s:Stmt):Scope:=match s with
 | .FunctionDef _ _ _ _ _ _ sc _ _ _=>sc
 | _=>{ kind:=.function,names:=[],isGenerator:=false,isCoroutine:=false }
abbrev CX0:CXT:=fun _ _ _ _ _ _=>False
abbrev E0:XK:=fun _ _ _=>False
theorem ZlT {X:Cx}:ZfZ CX0 X E0:=fun _ _ _ _ _ _ _ h=>h.elim
structure Fun (K:PySem.W.Frag) (x qual:Str) (st:Stmt) (f:Addr) (fd:FuncData):Prop where
 ex:∃(oc:Value) (od:Option Addr) (kV doc pm:Value) (an:Option Addr) (cdv ct:Value) (osl:Array (Option Value)),
  fd=PySem.W.fnOf x qual (ZeD st) (Zbd st) (Zj st) .none kV doc pm an cdv ct∧K.lookup f=some ⟨oc,od,.func fd,osl⟩∧PySem.W.codeIn K cdv qual=true
 kp:PySem.W.keepIn K (.ref f)=true
section
variable {P:Program} {w:World} {K:PySem.W.Frag} {mg:Str→Option Value} {base:Heap}
theorem Fun.ok {x qual:Str} {st:Stmt} {f:Addr} {fd:FuncData} {N ps:List Str} {k:Nat} {sp:Sp} (F:Fun K x qual st f fd) (S:Zo N ps (Zj st)) (len:∀vs H Q E,sp vs H Q E→vs.length=ps.length)
  (hbody:∀(cdv:Value) (A:Around) (outer:List Env) (s:Shared) (H:Hp) (vs:List V) (Q:VK) (E:XK),Room k (A.deeper (envOfC qual (Zj st) s.heap.objs.size f cdv))→sp vs H Q E→
   ∃t,PSs (Zg0 CX0 P w K mg base N qual (Zj st) f cdv A outer s H E).nox (Zbd st) t∧t { nx:=fun _ H'=>Q .non H',rt:=Q } (ZeO N vs) H):FnOk P w K mg base CX0 (k+1) f fd ps sp:=by
 obtain ⟨oc,od,kV,doc,pm,an,cdv,ct,osl,rfl,lk,hcd⟩:=F.ex
 refine Zw7 lk hcd S len fun A outer s H vs Q E hr hsp=>?_
 obtain ⟨t,h,q⟩:=hbody cdv A outer s H vs Q E hr hsp
 exact ⟨t,h.nox,q⟩
theorem Fun.binds {x qual:Str} {st:Stmt} {f:Addr} {fd:FuncData} {ps:List Str} (F:Fun K x qual st f fd)
  (h:∀(kV doc pm:Value) (an:Option Addr) (cdv ct:Value) (us:List Value),us.length=ps.length→bindArgs (PySem.W.fnOf x qual (ZeD st) (Zbd st) (Zj st) .none kV doc pm an cdv ct) ⟨us,[]⟩=pure (ps.zip us)):Binds K fd ps []:=by
 obtain ⟨oc,od,kV,doc,pm,an,cdv,ct,osl,rfl,lk,hcd⟩:=F.ex
 exact .all (h kV doc pm an cdv ct)
theorem Zdm {x qual:Str} {st:Stmt} {f:Addr} {oc:Value} {od an:Option Addr} {osl:Array (Option Value)} {kV doc pm cdv ct:Value} (l:K.lookup f=some ⟨oc,od,.func (PySem.W.fnOf x qual (ZeD st) (Zbd st) (Zj st) .none kV doc pm an cdv ct),osl⟩)
  (c:PySem.W.codeIn K cdv qual=true) (k:PySem.W.keepIn K (.ref f)=true):Fun K x qual st f (PySem.W.fnOf x qual (ZeD st) (Zbd st) (Zj st) .none kV doc pm an cdv ct):=⟨⟨oc,od,kV,doc,pm,an,cdv,ct,osl,rfl,l,c⟩,k⟩
end
section
variable {P:Program} {w:World} {K:PySem.W.Frag} {mg:Str→Option Value} {base:Heap}
def Zw (K:PySem.W.Frag) (mg:Str→Option Value) (x:Str) (st:Stmt) (ps:List Str):Prop:=
 ∃(f:Addr) (fd:FuncData),Fun K x x st f fd∧Binds K fd ps []∧mg x=some (.ref f)
def Def (P:Program) (w:World) (K:PySem.W.Frag) (mg:Str→Option Value) (base:Heap) (k:Nat) (x:Str) (ps:List Str) (sp:Sp):Prop:=
 ∃(f:Addr) (fd:FuncData),FnOk P w K mg base CX0 k f fd ps sp∧Binds K fd ps []∧PySem.W.keepIn K (.ref f)=true∧mg x=some (.ref f)
end
section
variable {X:Cx} {k:Nat} {x:Str} {ps:List Str} {sp:Sp} {p pos:Pos} {e:Expr} {es:List Expr} {t:TA}
theorem Zou {j:Nat} (D:Def X.prog X.w X.K X.mg X.base k x ps sp) (hr:Room j X.A) (hj:k≤j) (ha:PA X (e::es) t) (hg:Gl X x:=by rfl) (hdb:(x == ("__debug__":Str))=false:=by decide)
  (he:starEach (e::es) X.env=(false,eval e X.env)::starEach es X.env:=by rfl) (hpl:(backTo pos (starEach es X.env)).any (·.1)=false:=by rfl):PE X (.Call (.Name x p) (e::es) [] pos) (Zsn sp [] E0 t):=by
 obtain ⟨f,fd,F,b,kp,m⟩:=D
 exact Zru F (hr.mono hj) hg m kp b .nil ZlT ha hdb he hpl
theorem Zrr {i:Int} (h:∃t,X.mg x=some (.int i t)) (hg:Gl X x:=by rfl) (hd:(x == ("__debug__":Str))=false:=by decide):PE X (.Name x pos) (tC (.int i)):=by
 obtain ⟨t,h⟩:=h
 exact ZlS hg h ⟨t,rfl⟩ hd
def Zxq (_ j:Int):Prop:=0<j∧j.natAbs.log2<9000
theorem Zow:OpR X (binaryOp .FloorDiv) (rI Zxq fun i j=>.int (i/j)):=opI fun i j _ _ _ _ _ hc q=>by
 have h1:(0:Int)<j:=hc.1
 exact floordiv_int (by omega) (by rw [Int.fdiv_eq_ediv_of_nonneg i (by omega)]; exact q) (.inl (PyProof.noPylong_of_log2 hc.2))
end
end L2
set_option maxHeartbeats 4000000
namespace L2
open PySem PySem.Spec PyProof.Rows
theorem Zgu {scope:Scope} {env:Env} (h:∀x∈scope.names,x.2=.free→∃c,env.cells.lookup x.1=some c) :
  ∃cl:List (Str×Addr),closureFor scope env=pure cl∧(∀n c,(n,c)∈cl→env.cells.lookup n=some c)∧∀x∈scope.names,x.2=.free→∃c,(x.1,c)∈cl:=by
 have key:∀(names:List (Str×NameKind)) (acc:List (Str×Addr)),(∀x∈names,x.2=.free→∃c,env.cells.lookup x.1=some c)→(∀n c,(n,c)∈acc→env.cells.lookup n=some c)→
   ∃cl:List (Str×Addr),(forIn names acc fun (x:Str×NameKind) (cs:List (Str×Addr))=>if (x.2 == NameKind.free)=true then (do let c ←cellOf env x.1; pure (ForInStep.yield ((x.1,c)::cs)):Sem _) else pure (ForInStep.yield cs))=(pure cl:Sem _)∧
    (∀n c,(n,c)∈cl→env.cells.lookup n=some c)∧(∀p∈acc,p∈cl)∧∀x∈names,x.2=.free→∃c,(x.1,c)∈cl:=by
  intro names
  induction names with
  | nil=>intro acc _ ha; exact ⟨acc,rfl,ha,fun _ p=>p,fun x hx=>nomatch hx⟩
  | cons y r ih=>
   intro acc hx ha
   obtain ⟨n,k⟩:=y
   by_cases hk:k=.free
   ·subst hk
    obtain ⟨c,hc⟩:=hx (n,.free) Ys rfl
    obtain ⟨cl,e,h1,h2,h3⟩:=ih ((n,c)::acc) (fun x z=>hx x (Yq _ z)) (fun m d z=>by
     rcases Yr.mp z with z | z
     ·cases z; exact hc
     ·exact ha m d z)
    refine ⟨cl,?_,h1,fun p z=>h2 p (Yq _ z),fun x z zf=>?_⟩
    ·have ec:cellOf env n=pure c:=by unfold cellOf; rw [hc]
     rw [List.forIn_cons]
     simp only [beq_self_eq_true,if_true,ec,pure_bind]
     exact e
    ·rcases Yr.mp z with z | z
     ·cases z; exact ⟨c,h2 _ Ys⟩
     ·exact h3 x z zf
   ·obtain ⟨cl,e,h1,h2,h3⟩:=ih acc (fun x z=>hx x (Yq _ z)) ha
    refine ⟨cl,?_,h1,h2,fun x z zf=>?_⟩
    ·have hb:(k == NameKind.free)=false:=by simpa using hk
     rw [List.forIn_cons]
     simp only [hb,YY,if_false,pure_bind]
     exact e
    ·rcases Yr.mp z with z | z
     ·cases z; exact absurd zf hk
     ·exact h3 x z zf
 obtain ⟨cl,e,h1,_,h3⟩:=key scope.names [] h (fun n c z=>nomatch z)
 refine ⟨cl,?_,h1,h3⟩
 simp only [closureFor]
 rw [e]
 rfl
def Cx.comp (X:Cx) (scope:Scope) (N':List Str) (cl:List (Str×Addr)) (C:Addr) (s₀:Shared) (H₀:Hp) (fp:List Addr):Cx where
 prog:=X.prog
 w:=X.w
 K:=X.K
 mg:=X.mg
 base:=X.base
 A:=X.A
 N:=N'
 s₀:=s₀
 H₀:=H₀
 env:=compEnvC scope cl C X.env
 outer:=X.stack
 stack:=X.stack
 ex:=fp
 fn:=fun _=>false
 calm:=X.calm
 pn:=[]
 xe:=fun _ _=>False
def inner (src:List Nat) (σ:St) (x:Option V):St:=x::src.map fun j=>(σ[j]?).join
theorem Zh1 {α:Type} {l:List (Str×α)} {n:Str} {c:α} (h:(n,c)∈l):∃d,l.lookup n=some d:=by
 induction l with
 | nil=>cases h
 | cons y r ih=>
  obtain ⟨m,d⟩:=y
  by_cases e:n == m
  ·exact ⟨d,by rw [Yw,e]⟩
  ·rcases Yr.mp h with z | z
   ·cases z; exact absurd (beq_self_eq_true n) e
   ·obtain ⟨d',q⟩:=ih z
    exact ⟨d',by rw [Yw,Bool.eq_false_iff.mpr e]; exact q⟩
theorem Zeq {env:Env} {n:Str}:∀{names:List (Str×NameKind)} {k:NameKind},(∀y∈names,y.2≠.cell)→
  (names.map fun (n,k)=>if (k == NameKind.free && env.scope.kind == .function && env.kindOf n == some .cell) then (n,NameKind.cell) else (n,k)).lookup n=some k→(k=.cell∨k=.free)→(n,NameKind.free)∈names
 | [],_,_,h,_=>by simp at h
 | (m,j)::r,k,hc,h,hk=>by
  have nc:j≠.cell:=hc (m,j) Ys
  rw [Yf] at h
  by_cases e:n == m
  ·have en:n=m:=by simpa using e
   subst en
   by_cases cnd:(j == NameKind.free && env.scope.kind == .function && env.kindOf n == some .cell)=true
   ·have:j=.free:=by
     simp only [Yl,beq_iff_eq] at cnd
     exact cnd.1.1
    rw [this]
    exact Ys
   ·simp only [cnd] at h
    rw [if_neg (by simp),Yw,beq_self_eq_true] at h
    cases h
    rcases hk with rfl | rfl
    ·exact absurd rfl nc
    ·exact Ys
  ·refine Yq _ (Zeq (env:=env) (k:=k) (fun y hy=>hc y (Yq _ hy)) ?_ hk)
   rw [Yw] at h
   have e2:(n == (if (j == NameKind.free && env.scope.kind == .function && env.kindOf m == some .cell)=true then (m,NameKind.cell) else (m,j)).1)=false:=by
    split<;>exact Bool.eq_false_iff.mpr e
   rw [e2] at h
   exact h
theorem Zf8 {env:Env}:∀{names:List (Str×NameKind)} {x:Str},names.lookup x=some .free→
  (names.map fun (n,k)=>if (k == NameKind.free && env.scope.kind == .function && env.kindOf n == some .cell) then (n,NameKind.cell) else (n,k)).lookup x=some .cell∨
  (names.map fun (n,k)=>if (k == NameKind.free && env.scope.kind == .function && env.kindOf n == some .cell) then (n,NameKind.cell) else (n,k)).lookup x=some .free
 | [],_,h=>by simp at h
 | (n,k)::r,x,h=>by
  have ih:=@Zf8 env r x
  rw [Yf]
  cases hx:x == n with
  | true=>
   simp only [Yw,hx] at h
   cases h
   by_cases hc:(NameKind.free == NameKind.free && env.scope.kind == .function && env.kindOf n == some .cell)=true
   ·left
    show List.lookup x ((if (NameKind.free == NameKind.free && env.scope.kind == .function && env.kindOf n == some .cell)=true then (n,NameKind.cell) else (n,NameKind.free))::_)=_
    rw [if_pos hc,Yw,hx]
   ·right
    show List.lookup x ((if (NameKind.free == NameKind.free && env.scope.kind == .function && env.kindOf n == some .cell)=true then (n,NameKind.cell) else (n,NameKind.free))::_)=_
    rw [if_neg hc,Yw,hx]
  | false=>
   simp only [Yw,hx] at h
   have e:∀t,List.lookup x ((if (k == NameKind.free && env.scope.kind == .function && env.kindOf n == some .cell)=true then (n,NameKind.cell) else (n,k))::t)=List.lookup x t:=fun t=>by
    split<;>rw [Yw,hx]
   rcases ih h with q | q
   ·exact .inl ((e _).trans q)
   ·exact .inr ((e _).trans q)
section
variable {X:Cx} {x:Str} {px:Pos} {iter elt:Expr} {scope:Scope} {pos:Pos} {N':List Str} {src:List Nat} {wi:TI} {te:TE}
structure Zb6 (scope sc:Scope) (x:Str) (N N':List Str) (src:List Nat):Prop where
 kind:scope.kind=.function
 cell:∀y∈scope.names,y.2≠.cell
 loc:∀y∈scope.names,y.2=.local→scope.names.lookup y.1=some .local
 own:scope.names.lookup x=some .local
 free:∀y∈scope.names,y.2=.free→sc.names.lookup y.1=some .cell
 nd:N'.Nodup
 names:N'=x::src.map fun j=>N.getD j x
 all:∀j∈src,j<N.length
 fr:∀j∈src,sc.names.lookup (N.getD j x)=some .cell∧scope.names.lookup (N.getD j x)=some .free
theorem Zlv {pins:List (Addr×Obj)} {σ:St} {H:Hp} {s s':Shared} {C:Addr} {cl:List (Str×Addr)} {fp:List Addr} (I:Inv X pins σ H s) (S:Zb6 scope X.env.scope x X.N N' src)
  (hcl:∀n c,(n,c)∈cl→X.env.cells.lookup n=some c) (hcl2:∀y∈scope.names,y.2=.free→∃c,(y.1,c)∈cl) (hC:s.heap.objs.size≤C) (hfp:∀b∈fp,ZiI X pins H b) (hfl:∀b∈fp,b<s.heap.objs.size)
  (hn:∃m,s'.heap.Ns C m) (hk:∀b o,s.heap.get? b=some o→s'.heap.get? b=some o) (ho:s'.os=s.os) (hg:s'.gens=s.gens) :
  Inv (X.comp scope N' cl C s H fp) [] (inner src σ none) H s':=by
 have cll:∀n c,cl.lookup n=some c→X.env.cells.lookup n=some c:=fun n c e=>hcl n c (PySem.mem_of_lookup e)
 refine ⟨⟨I.ok.mod,S.kind,I.ok.glob,I.ok.blt,hC,fun y z c h1 h2=>I.ok.inj y z c (cll _ _ h1) (cll _ _ h2),fun y hy=>?_,fun y c h=>absurd (show false=true from h) (by decide),I.ok.hd,I.ok.frames,.inl rfl,fun b hb=>⟨Yp (Yh (hfl b hb) hC),fun y c e=>(hfp b hb).2.2.2.2.1 y c (cll y c e)⟩,
  I.bs,Yt I.ok.bsz I.sz,fun b o e hb=>?_,fun b hb=>?_,I.stack,I.stkFree⟩,ho,?_,Un.kept hk,?_,fun y c e=>?_,I.hok.fresh hC,fun y c e=>I.freeC y c (cll y c e),fun p hp=>absurd (show p∈([]:List (Addr×Obj)) from hp) (by simp),I.hok.kept hk,?_⟩
 ·have hy':(relabel scope X.env).names.lookup y=some .cell∨(relabel scope X.env).names.lookup y=some .free:=hy
  have:(y,NameKind.free)∈scope.names:=by
   rcases hy' with h | h
   ·exact Zeq S.cell h (.inl rfl)
   ·exact Zeq S.cell h (.inr rfl)
  obtain ⟨c,hc⟩:=hcl2 _ this rfl
  exact Zh1 hc
 ·rcases (hfp b hb).2.2.2.1 with z | z
  ·exact I.ok.noex b o e z
  ·exact absurd (Yh (Heap.lt_size e) (Yt I.ok.bsz z)) (YE _)
 ·intro hs
  rcases Yr.mp (I.stkSub b hs) with z | z
  ·exact (hfp b hb).2.1 z
  ·exact (hfp b hb).2.2.1 z
 ·rw [hg]; exact I.bare
 ·obtain ⟨m,hm⟩:=hn
  refine ⟨m,hm,fun i y v h1 h2 h3=>?_⟩
  have h1':N'[i]?=some y:=h1
  rw [S.names] at h1'
  cases i with
  | zero=>cases (show (some none:Option (Option V))=some (some v) from h2)
  | succ k=>
   rw [YZ,Yn] at h1'
   have h2':(src.map fun j=>(σ[j]?).join)[k]?=some (some v):=h2
   rw [Yn] at h2'
   cases e:src[k]? with
   | none=>rw [e] at h1'; cases h1'
   | some j=>
    rw [e] at h1' h2'
    have hj:=List.mem_of_getElem? e
    have ey:X.N.getD j x=y:=Option.some.inj h1'
    have ev:(σ[j]?).join=some v:=Option.some.inj h2'
    have eN:X.N[j]?=some y:=by
     have:=S.all j hj
     rw [List.getElem?_eq_getElem this]
     rw [List.getD_eq_getElem?_getD,List.getElem?_eq_getElem this] at ey
     exact congrArg some ey
    have eσ:σ[j]?=some (some v):=by
     cases q:σ[j]? with
     | none=>rw [q] at ev; cases ev
     | some z=>rw [q] at ev; exact congrArg some ev
    obtain ⟨k1,k2⟩:=S.fr j hj
    rw [ey] at k1 k2
    obtain ⟨mo,hmo,hl⟩:=I.loc
    obtain ⟨u,r,l⟩:=hl j y v eN eσ (.inr (.inl k1))
    refine ⟨u,r,?_⟩
    rcases l with ⟨z,_⟩ | ⟨_,c,hc,hcell⟩
    ·have z':X.env.scope.names.lookup y=some .local:=z
     rw [k1] at z'; cases z'
    ·obtain ⟨c',hc'⟩:=hcl2 _ (PySem.mem_of_lookup k2) rfl
     obtain ⟨d,hd⟩:=Zh1 hc'
     have ed:d=c:=by
      have:=cll _ _ hd
      rw [hc] at this
      exact (Option.some.inj this).symm
     subst ed
     obtain ⟨o,e1,e2⟩:=hcell
     refine .inr ⟨?_,d,hd,o,hk _ _ e1,e2⟩
     rcases h3 with z | z | z
     ·have z':(relabel scope X.env).names.lookup y=some .local:=z
      rcases Zf8 (env:=X.env) k2 with w | w
      ·have w':(relabel scope X.env).names.lookup y=some .cell:=w
       rw [w'] at z'; cases z'
      ·have w':(relabel scope X.env).names.lookup y=some .free:=w
       rw [w'] at z'; cases z'
     ·exact .inl z
     ·exact .inr z
 ·obtain ⟨v,o,e1,e2⟩:=I.cell y c (cll y c e)
  exact ⟨v,o,hk _ _ e1,e2⟩
 ·show (inner src σ none).length=N'.length
  rw [S.names]
  unfold inner
  rw [Yb,Yb,List.length_map,List.length_map]
theorem HOk.lay {P:Program} {w:World} {H:Hp} {h:Heap} {a:Addr} {o:HO} (x:HOk P w H h) (hn:H a=none) (new:ObjOk P w (upd H a o) h a o):HOk P w (upd H a o) h:=fun b u e=>by
 by_cases hb:b=a
 ·subst hb; rw [zd] at e; cases e; exact new
 ·rw [ZS hb] at e
  exact (x b u e).stay (fun c v _ q=>q) (fun c q=>by rw [ZS (zl q hn)]; exact q) fun c xs q=>by rw [ZS (zl q hn)]; exact q
theorem Un.lay {fs ex:List Addr} {H H1:Hp} {h h1:Heap} {a:Addr} {o:HO} (u:Un fs ex H H1 h h1) (hn:H1 a=none) (hh:h.get? a=none):Un fs ex H (upd H1 a o) h h1 where
 keep:=u.keep
 slot:=u.slot
 free:=fun b ob q n hx=>by rw [ZS (fun z=>by rw [z,hh] at q; cases q)]; exact u.free b ob q n hx
 there:=u.there
 tups:=fun b xs q=>by rw [ZS (zl (u.tups b xs q) hn)]; exact u.tups b xs q
 frzs:=fun b ob xs q=>by rw [ZS (zl (u.frzs b ob xs q) hn)]; exact u.frzs b ob xs q
 tbls:=fun b ps q=>by
  obtain ⟨m,e⟩:=u.tbls b ps q
  exact ⟨m,by rw [ZS (zl e hn)]; exact e⟩
end
end L2
namespace L2
open PySem PySem.Spec PyProof.Rows PySem.SeqAt
section
variable {X:Cx}
theorem ZiU {ns:List Int}:∀k,k≤ns.length→preSum (fun i=>ns.getD i 0) k=(ns.take k).sum
 | 0,_=>by simp [preSum]
 | k+1,h=>by
  have hk:k<ns.length:=by omega
  rw [preSum,ZiU k (by omega),List.take_add_one,List.getElem?_eq_getElem hk,List.getD_eq_getElem?_getD,List.getElem?_eq_getElem hk]
  show _=(ns.take k++[ns[k]]).sum
  rw [List.sum_append,List.sum_cons,List.sum_nil,Int.add_zero]
  rfl
theorem Zpk (hc:X.calm=true):CallR X (.builtin "sum") (fun xs H Q=>∃(p:Addr) (ns:List Int),xs=[.ref p]∧SqL X.K H p (ns.map V.int)∧Q (.int ns.sum) H):=by
 intro pins s σ H xs us Q I r h
 obtain ⟨p,ns,rfl,hq,q⟩:=h
 obtain ⟨u,rfl,rx⟩:=ZiL r
 cases rx
 obtain ⟨its,r',pl,hz⟩:=I.list hq
 have hl:=r'.length
 rw [List.length_map] at hl
 refine call_sum_walkG (wpAny_pyIter_list pl.isList ?_)
 have hne:p≠s.heap.objs.size:=by
  obtain ⟨o,n,e,_⟩:=pl
  exact Yp (Heap.lt_size e)
 refine ⟨s.heap.objs.size,_,_,_,_,_,fun i=>ns.getD i 0,rfl,Walks.list (A:=X.A.in1) (I.ok.hd hc) _ p hne its.toArray,⟨⟨_,Heap.get?_push_size _ rfl,rfl,rfl⟩,?_⟩,?_,?_,fun h' tk t' hk=>?_⟩
 ·obtain ⟨o,n,e,hc',hd,hs⟩:=pl
  exact ⟨o,Heap.get?_push_of_some _ e,hc',n,hs⟩
 ·intro b hb
  have hb':b=s.heap.objs.size∨b=p:=by simpa using hb
  rcases hb' with rfl | rfl
  ·show _<(s.heap.push _).objs.size
   rw [Heap.size_push]; exact YD _
  ·obtain ⟨o,n,e,_⟩:=pl
   show _<(s.heap.push _).objs.size
   rw [Heap.size_push]; exact Jh (Heap.lt_size e)
 ·intro i v hp
  have hp':its[i]?=some v:=by simpa using hp
  have hi:i<ns.length:=by rw [hl]; exact (Ya.mp hp').1
  obtain ⟨u,hu,ru⟩:=r'.get (i:=i) (x:=.int (ns.getD i 0)) (by rw [Yn,List.getElem?_eq_getElem hi,List.getD_eq_getElem?_getD,List.getElem?_eq_getElem hi]; rfl)
  rw [hp'] at hu; cases hu
  exact ru
 ·refine ⟨.int ns.sum,H,(I.kept (t':=s.toks) fun b o e=>Heap.get?_push_of_some _ e).turned (it:=s.heap.objs.size) (fun b o hb e=>hk b o (by simpa using hb) e) (I.hok.fresh (Yd _)) (Jo I.lt) (.inr I.sz) (fun x c e z=>?_) (fun q hq z=>?_),⟨t',?_⟩,q⟩
  ·obtain ⟨v,w'⟩:=I.cell x c e
   exact absurd w'.lt (by rw [z]; exact YE _)
  ·exact absurd (Heap.lt_size (I.pin q hq).1) (by rw [z]; exact YE _)
  ·rw [Ye,←hl,ZiU _ (Yd _),List.take_length]
mutual
inductive RdV (K:PySem.W.Frag) (H:Hp):V→PyData→Prop
 | non:RdV K H .non .none
 | bl (b:Bool):RdV K H (.bl b) (.bool b)
 | int (i:Int):RdV K H (.int i) (.int i)
 | str (x:Str):RdV K H (.str x) (.str x)
 | lst {a:Addr} {xs:List V} {ds:List PyData}:SqL K H a xs→RdVs K H xs ds→RdV K H (.ref a) (.list ds)
 | tup {a:Addr} {xs:List V} {ds:List PyData}:SqT K H a xs→RdVs K H xs ds→RdV K H (.ref a) (.tuple ds)
inductive RdVs (K:PySem.W.Frag) (H:Hp):List V→List PyData→Prop
 | nil:RdVs K H [] []
 | cons {x:V} {xs:List V} {d:PyData} {ds:List PyData}:RdV K H x d→RdVs K H xs ds→RdVs K H (x::xs) (d::ds)
end
mutual
theorem RdV.reads {pins:List (Addr×Obj)} {σ:St} {H:Hp} {s:Shared} (I:Inv X pins σ H s):∀{x:V} {d:PyData} {u:Value},RdV X.K H x d→RelV x u→∃as,Reads s.heap u d as
 | _,_,_,.non,r=>by cases r; exact ⟨_,.none⟩
 | _,_,_,.bl b,r=>by cases r; exact ⟨_,.bool b⟩
 | _,_,_,.int i,r=>by obtain ⟨t,rfl⟩:=r; exact ⟨_,.int i t⟩
 | _,_,_,.str x,r=>by obtain ⟨t,rfl⟩:=r; exact ⟨_,.str x t⟩
 | _,_,_,.lst h hs,r=>by
  cases r
  obtain ⟨its,rv,⟨o,n,e,hc,hd,hq⟩,_⟩:=I.list h
  obtain ⟨as,q⟩:=RdVs.reads I hs rv
  exact ⟨_,.list e hc hq (by simpa using q)⟩
 | _,_,_,.tup h hs,r=>by
  cases r
  obtain ⟨its,rv,⟨o,e,hc,n,hq⟩,_⟩:=I.tuple h
  obtain ⟨as,q⟩:=RdVs.reads I hs rv
  exact ⟨_,.tuple e hc hq (by simpa using q)⟩
theorem RdVs.reads {pins:List (Addr×Obj)} {σ:St} {H:Hp} {s:Shared} (I:Inv X pins σ H s):∀{xs:List V} {ds:List PyData} {us:List Value},RdVs X.K H xs ds→Vals xs us→∃as,ReadsAll s.heap us ds as
 | _,_,_,.nil,r=>by cases r; exact ⟨_,.nil⟩
 | _,_,_,.cons h hs,r=>by
  cases r with
  | cons r rr=>
   obtain ⟨as,q⟩:=RdV.reads I h r
   obtain ⟨bs,q2⟩:=RdVs.reads I hs rr
   exact ⟨_,.cons q q2⟩
end
theorem ZuW (hu:X.A.units+64<cLine):OpR X (compareOp .Eq) (fun x y H Q=>∃d e:PyData,RdV X.K H x d∧RdV X.K H y e∧shaped d=true∧shaped e=true∧noMix d e=true∧Q (.bl (same d e)) H):=by
 intro pins s σ H x y v u Q I rx ry h
 obtain ⟨d,e,hd,he,sd,se,hm,q⟩:=h
 obtain ⟨as,ra⟩:=hd.reads I rx
 obtain ⟨bs,rb⟩:=he.reads I ry
 exact eq_dataH_same ra rb sd se hu hm ⟨.bl _,H,I,rfl,q⟩
theorem ZuT (hu:X.A.units+64<cLine):OpR X (compareOp .NotEq) (fun x y H Q=>∃d e:PyData,RdV X.K H x d∧RdV X.K H y e∧shaped d=true∧shaped e=true∧noMix d e=true∧Q (.bl (!same d e)) H):=by
 intro pins s σ H x y v u Q I rx ry h
 obtain ⟨d,e,hd,he,sd,se,hm,q⟩:=h
 obtain ⟨as,ra⟩:=hd.reads I rx
 obtain ⟨bs,rb⟩:=he.reads I ry
 exact ne_dataH_same ra rb sd se hu hm ⟨.bl _,H,I,rfl,q⟩
theorem Zrv:OpR X (compareOp .IsNot) (fun x y H Q=>∃b c:Bool,x=.bl b∧y=.bl c∧Q (.bl (!(b == c))) H):=by
 intro pins s σ H x y v u Q I rx ry h
 obtain ⟨b,c,rfl,rfl,q⟩:=h
 cases rx
 cases ry
 have e:(Value.bool b == Value.bool c)=(b == c):=by cases b<;>cases c<;>rfl
 exact wpAny_isNot_plain rfl ⟨.bl _,H,I,rfl,by rw [e]; exact q⟩
def ZeY (xs:List V) (lo hi st:Option Int):List V:=(sliceRange (sliceBounds lo hi st xs.length).1 (sliceBounds lo hi st xs.length).2.1 (sliceBounds lo hi st xs.length).2.2).filterMap (xs[·]?)
theorem Vals.pick {xs:List V} {us:List Value} (r:Vals xs us):∀ks:List Nat,Vals (ks.filterMap (xs[·]?)) (ks.filterMap (us[·]?))
 | []=>.nil
 | k::ks=>by
  cases e:xs[k]? with
  | none=>
   have e':=r.none_of e
   rw [List.filterMap_cons_none e,List.filterMap_cons_none e']
   exact r.pick ks
  | some x=>
   obtain ⟨u,e',q⟩:=r.get e
   rw [List.filterMap_cons_some e,List.filterMap_cons_some e']
   exact .cons q (r.pick ks)
def ZzY (K:PySem.W.Frag) (te:TE) (tl th ts:TO):TE:=fun σ H Q=>te σ H fun x H1=>tl σ H1 fun l H2=>th σ H2 fun u H3=>ts σ H3 fun st H4=>∃a xs,x=.ref a∧SqL K H4 a xs∧st≠some 0∧(ZeY xs l u st).length≤sizeLine∧
 ∀p,H4 p=none→Q (.ref p) (upd H4 p (.lst (ZeY xs l u st)))
theorem Zm0 {e sp:Expr} {te:TE} {lo hi:Option Expr} {tl th ts:TO} {pos p2:Pos} (he:PE X e te) (hl:PO X lo tl) (hu:PO X hi th) (hs:PO X (some sp) ts):PE X (.Subscript e (.Slice lo hi (some sp) p2) pos) (ZzY X.K te tl th ts):=by
 intro pins s σ H Q I h
 refine Subscript_ (thn (he pins s σ H _ I h) fun v s1 ⟨x,H1,I1,r1,q1⟩=>?_)
 refine wpAny_Slice (thn (hl pins s1 σ H1 _ I1 q1) fun vl s2 ⟨l,H2,I2,pl,q2⟩=>thn (hu pins s2 σ H2 _ I2 q2) fun vu s3 ⟨u,H3,I3,pu,q3⟩=>thn (hs pins s3 σ H3 _ I3 q3) fun vs s4 ⟨st,H4,I4,ps,q4⟩=>?_)
 obtain ⟨a,xs,rfl,hx,h0,hz',q⟩:=q4
 cases r1
 have I5:Inv X pins σ H4 { s4 with heap:=s4.heap.push { cls:=.type "slice",data:=.fields #[vl,vu,vs] } }:=I4.kept (t':=s4.toks) fun b ob q=>Heap.get?_push_of_some _ q
 obtain ⟨its,r,ht,hz⟩:=I5.list hx
 have hlen:=r.length
 show wpAny (model X.prog X.w) X.A (subscriptTail e (.Slice lo hi (some sp) p2) (.ref a) (.ref s4.heap.objs.size)) (EP X pins σ Q) X.xe { s4 with heap:=s4.heap.push { cls:=.type "slice",data:=.fields #[vl,vu,vs] } }
 refine tail_any (ops:=[.ref a,.ref s4.heap.objs.size]) ht.isList.typeIs slot_list_getitem.lookup (wpAny_getItem_list_slice ht.isList (Heap.IsSliceOf.new ..) pl pu ps h0 ?_ (by rw [Ye]<;>omega)) (by with_unfolding_all rfl)
 have ep:slicePick its.toArray l u st=((sliceRange (sliceBounds l u st xs.length).1 (sliceBounds l u st xs.length).2.1 (sliceBounds l u st xs.length).2.2).filterMap (its[·]?)).toArray:=by
  unfold slicePick
  rw [Ye,←hlen]
  simp
 rw [ep]
 refine ⟨.ref _,_,I5.laid (t':=s4.toks) (o:=.lst (ZeY xs l u st)) (fun b ob q=>Heap.get?_push_of_some _ q) (Yd _) ?_,rfl,q _ (I5.hok.fresh (Yd _))⟩
 exact ⟨hz',_,0,r.pick _,Heap.get?_push_size _ rfl⟩
theorem ZgQ:fillsNumberSlot (.type "tuple") "mul"=pure false:=
 PySem.fillsNumberSlot_seq (id:="tuple.__mul__") (r:=some (.builtin "tuple.__rmul__")) F.slot_tuple_mul.lookup (by decide +kernel) F.slot_tuple_rmul.lookup (by decide +kernel)
theorem Zjo:seqRepeat? (.type "tuple")=pure (some (.builtin "tuple.__mul__")):=by
 unfold seqRepeat?
 rw [PySem.seqSlot_of (T:="tuple") (name:="__mul__") (id:="tuple.__mul__") F.slot_tuple_mul.lookup (by decide +kernel),PySem.seqSlot_of (T:="tuple") (name:="__rmul__") (id:="tuple.__rmul__") F.slot_tuple_rmul.lookup (by decide +kernel)]
 rfl
end
end L2
namespace L2
open PySem PySem.Spec PyProof.Rows Builtin
theorem Zh9 (a:Int) (t:Tok) (l:Addr) (items:Array Value) (n:Nat) (dd:Option Addr) (sl:Array (Option Value)) :
  Meets (Builtin.«int.__rmul__» ⟨[.int a t,.ref l],[]⟩) (fun _ R s=>s.heap.get? l=some { cls:=.type "tuple",dict:=dd,data:=.seq items n,slots:=sl }∧R (.ok (.ret Value.notImplemented)) s):=
 .of_wp fun prog w A R s h=>by obtain ⟨hp,g,d,tk,os⟩:=s; obtain ⟨hl,h⟩:=h; wp_walk; exact ⟨_,rfl,h⟩
theorem ZiA (l:Addr) (items:Array Value) (n:Nat) (dd:Option Addr) (sl:Array (Option Value)) (u:Tok) :
  Meets (Builtin.«tuple.__mul__» ⟨[.ref l,.int 1 u],[]⟩) (fun _ R s=>s.heap.get? l=some { cls:=.type "tuple",dict:=dd,data:=.seq items n,slots:=sl }∧R (.ok (.ret (Value.ref l))) s):=
 .of_wp fun prog w A R s h=>by
  obtain ⟨hp,g,d,tk,os⟩:=s; obtain ⟨hl,h⟩:=h
  wp_walk
  exact ⟨_,rfl,h⟩
theorem ZhM (l:Addr) (items:Array Value) (n:Nat) (dd:Option Addr) (sl:Array (Option Value)) (u:Tok) (h0:items.isEmpty=false) :
  Meets (Builtin.«tuple.__mul__» ⟨[.ref l,.int 0 u],[]⟩) (fun _ R s=>s.heap.get? l=some { cls:=.type "tuple",dict:=dd,data:=.seq items n,slots:=sl }∧R (.ok (.ret (Value.ref s.heap.objs.size))) { s with heap:=s.heap.push { cls:=.type "tuple",data:=.seq #[] } }):=
 .of_wp fun prog w A R s h=>by
  obtain ⟨hp,g,d,tk,os⟩:=s; obtain ⟨hl,h⟩:=h
  wp_walk
  exact ⟨_,rfl,h⟩
theorem ZhN (l:Addr) (items:Array Value) (n:Nat) (dd:Option Addr) (sl:Array (Option Value)) (x:Int) (u:Tok) (h0:items.isEmpty=false) (h1:2≤x) (h2:x<1000) (h3:items.size*x≤1000) :
  Meets (Builtin.«tuple.__mul__» ⟨[.ref l,.int x u],[]⟩) (fun _ R s=>s.heap.get? l=some { cls:=.type "tuple",dict:=dd,data:=.seq items n,slots:=sl }∧R (.ok (.ret (Value.ref s.heap.objs.size))) { s with heap:=s.heap.push { cls:=.type "tuple",data:=.seq (List.foldl (fun x1 x2=>x1++x2) #[] (List.replicate x.toNat items)) } }):=
 .of_wp fun prog w A R s h=>by
  obtain ⟨hp,g,d,tk,os⟩:=s; obtain ⟨hl,h⟩:=h
  have c1:¬(decide (x < -(2 ^ 63)) || decide (x≥2 ^ 63))=true:=by rw [decide_eq_false (by omega),decide_eq_false (by omega)]; decide
  have c2:¬(items.isEmpty || x == 1)=true:=by
   have:(x == 1)=false:=by simp; omega
   rw [h0,this]; decide
  have c3:¬(decide (x≤0) || items.isEmpty)=true:=by rw [h0,decide_eq_false (by omega)]; decide
  have c4:¬((items.size:Int)*x > (2 ^ 63-1)/8):=by omega
  have c5:¬Tuple.tupleTooMany ((items.size:Int)*x)=true:=by
   unfold Tuple.tupleTooMany
   rw [decide_eq_false (by rw [sizeLine_eq]; omega)]
   decide
  wp_walk
  rw [if_neg c1]
  wp_walk
  rw [if_neg c2]
  show wpAny (model prog w) A.in1 (if (decide (x≤0) || items.isEmpty)=true then _ else if (items.size:Int)*x > (2 ^ 63-1)/8 then _ else if Tuple.tupleTooMany ((items.size:Int)*x)=true then _ else _) _ _ _
  rw [if_neg c3,if_neg c4,if_neg c5]
  have hz:(List.foldl (fun x1 x2=>x1++x2) #[] (List.replicate x.toNat items)).size≤sizeLine:=by
   have:(List.replicate x.toNat items).foldl (fun x1 x2=>x1++x2) #[]=(List.replicate x.toNat items.toList).flatten.toArray:=by
    have:=Zfr items.toList x.toNat []
    simpa using this
   rw [this,Ye,Zjz,sizeLine_eq]
   have e:items.toList.length=items.size:=by simp
   rw [e]
   have e2:((x.toNat*items.size:Nat):Int)=(items.size:Int)*x:=by
    rw [Int.natCast_mul,Int.mul_comm]
    congr 1
    omega
   omega
  wp_walk
  exact ⟨_,rfl,h⟩
section
variable {X:Cx}
def Zwr (K:PySem.W.Frag):R2:=fun x y H Q=>∃(a:Addr) (k:Int) (xs:List V),x=.ref a∧y=.int k∧SqT K H a xs∧xs≠[]∧0≤k∧k<1000∧(xs.length:Int)*k≤1000∧
 (k=1→Q (.ref a) H)∧(k≠1→∀p,H p=none→Q (.ref p) (upd H p (.tup (List.replicate k.toNat xs).flatten)))
theorem op_repT:OpR X (binaryOp .Mult) (Zwr X.K):=by
 intro pins s σ H x y v u Q I rx ry h
 obtain ⟨a,k,xs,rfl,rfl,hH,hne,h0,h1,h2,q1,q2⟩:=h
 cases rx
 obtain ⟨t,rfl⟩:=ry
 obtain ⟨its,r,pl,hz⟩:=I.tuple hH
 obtain ⟨⟨oc,dd,data,sl⟩,e,hc,n,hd⟩:=pl
 simp only at hc hd
 subst hc hd
 have hl:=r.length
 have he:its.toArray.isEmpty=false:=by
  cases r with
  | nil=>exact absurd rfl hne
  | cons _ _=>rfl
 refine wpAny_binaryOp_repeat_ref (T:="tuple") (U:="int") (by decide) ⟨_,e,rfl⟩ (fun s'=>typeIs_int s' k t) ZgQ F.fills_int_mul F.slot_int_rmul Zjo F.slot_int_index.lookup
  (call_meets F.slot_int_rmul (typeIs_int s k t) F.entry_int_rmul (F.args_int_rmul_2 _ _) (Zh9 k t a its.toArray n dd sl) ⟨e,rfl,⟨_,e,rfl⟩,?_⟩)
 by_cases k1:k=1
 ·subst k1
  exact call_meets F.slot_tuple_mul ⟨_,e,rfl⟩ F.entry_tuple_mul (F.args_tuple_mul_2 _ _) (ZiA a its.toArray n dd sl t) ⟨e,.ref a,H,I,rfl,q1 rfl⟩
 ·by_cases k0:k=0
  ·subst k0
   refine call_meets F.slot_tuple_mul ⟨_,e,rfl⟩ F.entry_tuple_mul (F.args_tuple_mul_2 _ _) (ZhM a its.toArray n dd sl t he) ⟨e,.ref s.heap.objs.size,_,I.laid (t':=s.toks) (o:=.tup []) (fun b ob q=>Heap.get?_push_of_some _ q) (Yd _) ?_,rfl,?_⟩
   ·exact ⟨YB _,[],.nil,IsTup.new _ _⟩
   ·exact q2 k1 _ (I.hok.fresh (Yd _))
  ·refine call_meets F.slot_tuple_mul ⟨_,e,rfl⟩ F.entry_tuple_mul (F.args_tuple_mul_2 _ _) (ZhN a its.toArray n dd sl k t he (by omega) h1 (by rw [Ye,←hl]; exact h2)) ⟨e,?_⟩
   have hnew:List.foldl (fun x1 x2=>x1++x2) #[] (List.replicate k.toNat its.toArray)=(List.replicate k.toNat its).flatten.toArray:=by
    have:=Zfr its k.toNat []
    rw [YU] at this
    exact this
   rw [hnew]
   refine ⟨.ref s.heap.objs.size,_,I.laid (t':=s.toks) (o:=.tup (List.replicate k.toNat xs).flatten) (fun b ob q=>Heap.get?_push_of_some _ q) (Yd _) ?_,rfl,q2 k1 _ (I.hok.fresh (Yd _))⟩
   refine ⟨?_,_,r.rep k.toNat,IsTup.new _ _⟩
   rw [Zjz,sizeLine_eq]
   have e2:((k.toNat*xs.length:Nat):Int)=(xs.length:Int)*k:=by
    rw [Int.natCast_mul,Int.mul_comm]
    congr 1
    omega
   omega
end
end L2
namespace My
open PySem L2
def ZbJ (t:Int):Int:=if t=0 then 0 else (t-1) % 65535+1
theorem ZrS {t:Int} (h:0≤t):0≤ZbJ t∧ZbJ t≤65535∧(ZbJ t-t) % 65535=0∧(ZbJ t=0↔t=0):=by
 unfold ZbJ; split<;>omega
theorem ZfM {t:Int} (h:0≤t) (h1:t≤65535):ZbJ t=t:=by
 unfold ZbJ; split<;>omega
theorem Zi6 {t:Int} (h:65535<t):ZbJ (t % 65536+t/65536)=ZbJ t∧0≤t % 65536+t/65536∧t % 65536+t/65536<t:=by
 unfold ZbJ
 rw [if_neg (by omega),if_neg (by omega)]
 omega
def zY:List Int→Int
 | []=>0
 | [a]=>256*a
 | a::b::r=>256*a+b+zY r
def ZeR:List Int→List Int
 | []=>[]
 | [a]=>[a]
 | a::_::r=>a::ZeR r
def ZhT:List Int→List Int
 | []=>[]
 | [_]=>[]
 | _::b::r=>b::ZhT r
theorem ZlA:∀ns:List Int,256*(ZeR ns).sum+(ZhT ns).sum=zY ns
 | []=>rfl
 | [a]=>by simp [ZeR,ZhT,zY]
 | a::b::r=>by
  have:=ZlA r
  simp only [ZeR,ZhT,zY,List.sum_cons]
  omega
theorem Zly:∀{ns:List Int},(∀z∈ns,0≤z)→0≤zY ns
 | [],_=>by simp [zY]
 | [a],h=>by have:=h a (by simp); simp only [zY]; omega
 | a::b::r,h=>by
  have h1:=h a (by simp)
  have h2:=h b (by simp)
  have h3:=Zly (ns:=r) fun z hz=>h z (by simp [hz])
  simp only [zY]; omega
theorem ZhH:∀{ns ms:List Int},ns.length % 2=0→zY (ns++ms)=zY ns+zY ms
 | [],ms,_=>by simp [zY]
 | [a],ms,h=>by simp at h
 | a::b::r,ms,h=>by
  have:=ZhH (ns:=r) (ms:=ms) (by simp only [Yb] at h; omega)
  show zY (a::b::(r++ms))=_
  simp only [zY,this]
  omega
theorem Zlq {w:Int} (h:0≤w):ZbJ (w+(256*((65535-ZbJ w)/256)+(65535-ZbJ w) % 256))=65535:=by
 have e:256*((65535-ZbJ w)/256)+(65535-ZbJ w) % 256=65535-ZbJ w:=by omega
 rw [e]
 unfold ZbJ
 split<;>split<;>omega
theorem Zde:∀(m:Nat) (ns:List Int),ns.length≤2*m→((List.range m).map fun k=>2*k).filterMap (fun i=>(ns.map V.int)[i]?)=(ZeR ns).map V.int
 | 0,ns,h=>by
  have:ns=[]:=List.length_eq_zero_iff.mp (by omega)
  subst this; rfl
 | m+1,ns,h=>by
  rw [List.range_succ_eq_map,Yf,List.map_map]
  have shift:∀(xs:List Int),(List.map ((fun k=>2*k)∘Nat.succ) (List.range m)).filterMap (fun i=>(xs.map V.int)[i]?)=((List.range m).map fun k=>2*k).filterMap (fun i=>((xs.drop 2).map V.int)[i]?):=fun xs=>by
   rw [List.filterMap_map,List.filterMap_map]
   congr 1
   funext k
   show (xs.map V.int)[2*(k+1)]?=((xs.drop 2).map V.int)[2*k]?
   rw [Yn,Yn,List.getElem?_drop]
   congr 2
   omega
  match ns,h with
  | [],_=>
   have:=shift []
   rw [List.filterMap_cons_none (by rfl),this,Zde m _ (by simp)]
   rfl
  | [a],_=>
   have:=shift [a]
   rw [List.filterMap_cons_some (b:=V.int a) (by rfl),this,Zde m _ (by simp)]
   rfl
  | a::b::r,h=>
   have:=shift (a::b::r)
   rw [List.filterMap_cons_some (b:=V.int a) (by rfl),this,Zde m _ (by simp only [Yb] at h; simp; omega)]
   rfl
theorem ZlU:∀ns:List Int,ZhT ns=ZeR (ns.drop 1)
 | []=>rfl
 | [_]=>rfl
 | [_,_]=>rfl
 | _::b::c::r=>by
  have:=ZlU (c::r)
  simp only [ZhT,List.drop,ZeR] at *
  rw [this]
theorem Znp (ns:List Int):ZeY (ns.map V.int) none none (some 2)=(ZeR ns).map V.int:=by
 unfold ZeY sliceBounds sliceRange
 simp only [Option.getD_some,List.length_map,show ((2:Int) > 0)=True from eq_true (by decide),if_true]
 have e:(if (0:Int)<(ns.length:Int) then ((ns.length:Int)-0+2-1)/2 else 0).toNat=(ns.length+1)/2:=by split<;>omega
 rw [e]
 have e2:(fun k:Nat=>((0:Int)+2*(k:Int)).toNat)=fun k=>2*k:=by funext k; omega
 rw [e2]
 exact Zde _ ns (by omega)
theorem Zpf (ns:List Int):ZeY (ns.map V.int) (some 1) none (some 2)=(ZhT ns).map V.int:=by
 unfold ZeY sliceBounds sliceRange
 simp only [Option.getD_some,List.length_map,show ((2:Int) > 0)=True from eq_true (by decide),show ((1:Int)<0)=False from eq_false (by decide),if_true,if_false]
 rw [ZlU]
 by_cases h:ns.length=0
 ·have:ns=[]:=List.length_eq_zero_iff.mp h
  subst this; rfl
 ·have e0:max (0:Int) (min 1 (ns.length:Int))=1:=by omega
  rw [e0]
  have e:(if (1:Int)<(ns.length:Int) then ((ns.length:Int)-1+2-1)/2 else 0).toNat=ns.length/2:=by split<;>omega
  rw [e,←Zde (ns.length/2) (ns.drop 1) (by rw [Y9]; omega),List.filterMap_map,List.filterMap_map]
  congr 1
  funext k
  show (ns.map V.int)[((1:Int)+2*(k:Int)).toNat]?=((ns.drop 1).map V.int)[2*k]?
  rw [Yn,Yn,List.getElem?_drop]
  congr 2
theorem Zi9:∀ns:List Int,(ZeR ns).length≤ns.length
 | []=>Yd _
 | [_]=>Yd _
 | _::_::r=>by have:=Zi9 r; simp only [ZeR,Yb]; omega
theorem Zko:∀ns:List Int,(ZhT ns).length≤ns.length
 | []=>Yd _
 | [_]=>YB _
 | _::_::r=>by have:=Zko r; simp only [ZhT,Yb]; omega
end My
namespace L2
open PySem PySem.Spec PyProof.Rows
section
variable {κ:Type} [DecidableEq κ]
def valV (kvs:List (κ×V)) (k:κ):Option V:=(kvs.find? fun kv=>decide (kv.1=k)).map (·.2)
def ZcM (kvs:List (κ×V)) (k:κ) (v:V):List (κ×V):=
 if (kvs.any fun kv=>decide (kv.1=k))=true then kvs.map (fun kv=>if kv.1=k then (kv.1,v) else kv) else kvs++[(k,v)]
def ZfC (kvs:List (κ×V)) (k:κ):List (κ×V):=kvs.filter fun kv=>decide (kv.1≠k)
theorem ZhK {p:κ×V} {r:List (κ×V)} {k:κ} (e:p.1=k):valV (p::r) k=some p.2:=by simp [valV,List.find?_cons,e]
theorem ZhL {p:κ×V} {r:List (κ×V)} {k:κ} (e:¬p.1=k):valV (p::r) k=valV r k:=by simp [valV,List.find?_cons,e]
theorem Zj1 (k:κ):∀kvs:List (κ×V),(kvs.any fun kv=>decide (kv.1=k))=(valV kvs k).isSome
 | []=>rfl
 | p::r=>by
  rw [YF]
  by_cases e:p.1=k
  ·simp only [ZhK e,decide_eq_true e,Bool.true_or,Option.isSome_some]
  ·rw [ZhL e,decide_eq_false e,Bool.false_or]; exact Zj1 k r
theorem Ze5 (kvs:List (κ×V)) (k:κ) (v:V):(ZcM kvs k v).length≤kvs.length+1:=by
 unfold ZcM
 split
 ·rw [List.length_map]; omega
 ·rw [Ym,Yb,Yk]; omega
theorem RelO.isSome_eq {o:Option V} {u:Option Value} (r:RelO o u):o.isSome=u.isSome:=by
 cases o with
 | none=>cases u with
  | none=>rfl
  | some _=>exact (show False from r).elim
 | some _=>cases u with
  | none=>exact (show False from r).elim
  | some _=>rfl
theorem RelO.getD {o:Option V} {u:Option Value} {d:V} {d':Value} (r:RelO o u) (rd:RelV d d'):RelV (o.getD d) (u.getD d'):=by
 cases o with
 | none=>cases u with
  | none=>exact rd
  | some _=>exact (show False from r).elim
 | some _=>cases u with
  | none=>exact (show False from r).elim
  | some _=>exact r
theorem KV.val {kvs:List (κ×V)} {vs:List (κ×Value)} (r:KV kvs vs) (k:κ):RelO (valV kvs k) (valueAt vs k):=by
 unfold KV at r
 induction r with
 | nil=>exact True.intro
 | @cons p q ps qs h t ih=>
  obtain ⟨h1,h2⟩:=h
  by_cases e:p.1=k
  ·have e':q.1=k:=h1.symm.trans e
   have b:valueAt (q::qs) k=some q.2:=by simp [valueAt,List.find?_cons,e']
   rw [ZhK e,b]; exact h2
  ·have e':¬q.1=k:=fun z=>e (h1.trans z)
   have b:valueAt (q::qs) k=valueAt qs k:=by simp [valueAt,List.find?_cons,e']
   rw [ZhL e,b]; exact ih
theorem KV.any {kvs:List (κ×V)} {vs:List (κ×Value)} (r:KV kvs vs) (k:κ):(kvs.any fun kv=>decide (kv.1=k))=vs.any fun kv=>decide (kv.1=k):=by
 unfold KV at r
 induction r with
 | nil=>rfl
 | cons h t ih=>rw [YF,YF,ih,h.1]
theorem KV.repl {kvs:List (κ×V)} {vs:List (κ×Value)} (r:KV kvs vs) (k:κ) {y:V} {u:Value} (ry:RelV y u) :
  KV (kvs.map fun kv=>if kv.1=k then (kv.1,y) else kv) (vs.map fun kv=>if kv.1=k then (kv.1,u) else kv):=by
 unfold KV at r ⊢
 induction r with
 | nil=>exact .nil
 | @cons p q ps qs h t ih=>
  rw [Yf,Yf]
  refine .cons ?_ ih
  obtain ⟨h1,h2⟩:=h
  by_cases e:p.1=k
  ·rw [if_pos e,if_pos (h1.symm.trans e)]; exact ⟨h1,ry⟩
  ·rw [if_neg e,if_neg (fun z=>e (h1.trans z))]; exact ⟨h1,h2⟩
theorem KV.put {kvs:List (κ×V)} {vs:List (κ×Value)} (r:KV kvs vs) (k:κ) {y:V} {u:Value} (ry:RelV y u):KV (ZcM kvs k y) (stored vs k u):=by
 unfold ZcM stored
 rw [r.any k]
 by_cases e:(vs.any fun kv=>decide (kv.1=k))=true
 ·rw [if_pos e,if_pos e]; exact r.repl k ry
 ·rw [if_neg e,if_neg e]; exact Paired.snoc r ⟨rfl,ry⟩
theorem KV.drop {kvs:List (κ×V)} {vs:List (κ×Value)} (r:KV kvs vs) (k:κ):KV (ZfC kvs k) (without vs k):=by
 unfold KV at r ⊢
 unfold ZfC without
 induction r with
 | nil=>exact .nil
 | @cons p q ps qs h t ih=>
  obtain ⟨h1,h2⟩:=h
  rw [Jl,Jl]
  by_cases e:p.1=k
  ·have a:¬decide (p.1≠k)=true:=by simp [e]
   have b:¬decide (q.1≠k)=true:=by simp [h1.symm.trans e]
   rw [if_neg a,if_neg b]; exact ih
  ·have e':¬q.1=k:=fun z=>e (h1.trans z)
   have a:decide (p.1≠k)=true:=by simp [e]
   have b:decide (q.1≠k)=true:=by simp [e']
   rw [if_pos a,if_pos b]; exact .cons ⟨h1,h2⟩ ih
theorem KV.length {kvs:List (κ×V)} {vs:List (κ×Value)} (r:KV kvs vs):kvs.length=vs.length:=Paired.length r
theorem ZkH (kvs:List (κ×V)) (k:κ):(ZfC kvs k).length≤kvs.length:=YI _ _
end
theorem Zgp {P:Program} {w:World} {k:Key} {u:Value} (r:RelV (kV k) u):(z9 P w).is k u=true:=by
 cases k with
 | inl i=>obtain ⟨t,e⟩:=(show ∃t,u=Value.int i t from r); subst e; exact Zkx P w i t
 | inr x=>obtain ⟨t,e⟩:=(show ∃t,u=Value.str x t from r); subst e; exact Zkw P w x t
theorem Zi5 {P:Program} {w:World}:∀{ks:List Key} {us:List Value},Vals (ks.map kV) us→ItemsAre (z9 P w) ks us
 | [],_,r=>by rw [Yo] at r; cases r; exact .nil
 | k::ks,_,r=>by
  rw [Yf] at r
  cases r with
  | cons h t=>exact .cons (Zgp h) (Zi5 t)
abbrev KT (H:Hp):List (List Key×V)→List (List Key×Addr×Value)→Prop:=Paired fun p q=>p.1=q.1∧H q.2.1=some (.tup (p.1.map kV))∧RelV p.2 q.2.2
theorem KT.val {H:Hp} {kvs:List (List Key×V)} {xs:List (List Key×Addr×Value)} (r:KT H kvs xs) (k:List Key):RelO (valV kvs k) ((atKey xs k).map (·.2)):=by
 induction r with
 | nil=>exact True.intro
 | @cons p q ps qs h t ih=>
  obtain ⟨h1,_,h2⟩:=h
  by_cases e:p.1=k
  ·have e':q.1=k:=h1.symm.trans e
   have b:atKey (q::qs) k=some q.2:=by simp [atKey,List.find?_cons,e']
   rw [ZhK e,b]; exact h2
  ·have e':¬q.1=k:=fun z=>e (h1.trans z)
   have b:atKey (q::qs) k=atKey qs k:=by simp [atKey,List.find?_cons,e']
   rw [ZhL e,b]; exact ih
theorem KT.repl {H:Hp} {kvs:List (List Key×V)} {xs:List (List Key×Addr×Value)} (r:KT H kvs xs) (k:List Key) {y:V} {u:Value} (ry:RelV y u) :
  KT H (kvs.map fun kv=>if kv.1=k then (kv.1,y) else kv) (xs.map (putAt k u)):=by
 induction r with
 | nil=>exact .nil
 | @cons p q ps qs h t ih=>
  rw [Yf,Yf]
  refine .cons ?_ ih
  obtain ⟨h1,h2,h3⟩:=h
  unfold putAt
  by_cases e:p.1=k
  ·rw [if_pos e,if_pos (h1.symm.trans e)]; exact ⟨h1,h2,ry⟩
  ·rw [if_neg e,if_neg (fun z=>e (h1.trans z))]; exact ⟨h1,h2,h3⟩
theorem KT.put {H:Hp} {kvs:List (List Key×V)} {xs:List (List Key×Addr×Value)} (r:KT H kvs xs) (k:List Key) {b:Addr} {y:V} {u:Value} (hb:H b=some (.tup (k.map kV))) (ry:RelV y u) :
  KT H (ZcM kvs k y) (storedH xs k b u):=by
 have e:(kvs.any fun kv=>decide (kv.1=k))=(atKey xs k).isSome:=by
  rw [Zj1,(r.val k).isSome_eq,Option.isSome_map]
 unfold ZcM storedH
 rw [e]
 by_cases q:(atKey xs k).isSome=true
 ·rw [if_pos q,if_pos q]; exact r.repl k ry
 ·rw [if_neg q,if_neg q]; exact Paired.snoc r ⟨rfl,hb,ry⟩
theorem KT.keeps {H H':Hp} {kvs:List (List Key×V)} {xs:List (List Key×Addr×Value)} (r:KT H kvs xs) (ht:∀b ys,H b=some (.tup ys)→H' b=some (.tup ys)):KT H' kvs xs:=
 Paired.mapP r fun _ _ z=>⟨z.1,ht _ _ z.2.1,z.2.2⟩
section
variable {P:Program} {w:World} {H:Hp} {h:Heap} {a:Addr}
theorem Zss {u:HO} (ok:HOk P w H h) (e:Rd H a u):ObjOk P w H h a u:=e.ok ok
theorem Zif {kvs:List (Key×V)} (ok:HOk P w H h) (e:Rd H a (.dK kvs)):kvs.length≤sizeLine∧(a == sysModules)=false∧∃vs,KV kvs vs∧h.DictOf (z9 P w) a vs:=
 show ObjOk P w H h a (.dK kvs) from Zss ok e
theorem Zms {kvs:List (Key×V)} (ok:HOk P w H h) (e:H a=some (.dK kvs)):kvs.length≤sizeLine∧(a == sysModules)=false∧∃vs,KV kvs vs∧h.DictOf (z9 P w) a vs:=Zif ok (.inl e)
theorem ZgY {ks:List Key} (ok:HOk P w H h) (e:H a=some (.tup (ks.map kV))):(tupleKind (z9 P w)).is h ks a:=by
 obtain ⟨_,its,r,o,h1,h2,n,h3⟩:=(show ObjOk P w H h a (.tup (ks.map kV)) from ok a _ e)
 exact ⟨o,its.toArray,n,h1,h2,h3,by simpa using Zi5 r⟩
theorem Zid {kvs:List (List Key×V)} (ok:HOk P w H h) (e:Rd H a (.dT kvs)):kvs.length≤sizeLine∧(a == sysModules)=false∧
  ∃xs,KT H kvs xs∧h.DictOfH (tupleKind (z9 P w)) a xs:=by
 obtain ⟨z,y,xs,r,o,es,ep,h1,h2,h3,h4,h5⟩:=(show ObjOk P w H h a (.dT kvs) from Zss ok e)
 refine ⟨z,y,xs,r,o,es,ep,h1,h2,h3,h4,fun x hx=>?_,h5⟩
 have all:∀{l:List (List Key×V)} {m:List (List Key×Addr×Value)},KT H l m→∀x∈m,(tupleKind (z9 P w)).is h x.1 x.2.1:=by
  intro l m q
  induction q with
  | nil=>intro x hx; exact nomatch hx
  | @cons p q ps qs hq t ih=>
   intro x hx
   rcases Yr.mp hx with e | hx
   ·subst e
    exact ZgY ok (by rw [←hq.1]; exact hq.2.1)
   ·exact ih x hx
 exact all r x hx
theorem Zxc {kvs:List (List Key×V)} (ok:HOk P w H h) (e:H a=some (.dT kvs)):kvs.length≤sizeLine∧(a == sysModules)=false∧
  ∃xs,KT H kvs xs∧h.DictOfH (tupleKind (z9 P w)) a xs:=Zid ok (.inl e)
end
def DGet (H:Hp) (a:Addr) (y:V) (r:Option V):Prop:=
 (∃kvs k,Rd H a (.dK kvs)∧y=kV k∧r=valV kvs k)∨∃kvs k b,Rd H a (.dT kvs)∧y=.ref b∧H b=some (.tup (k.map kV))∧r=valV kvs k
def DPut (H:Hp) (a:Addr) (y v:V) (H':Hp):Prop:=
 (∃kvs k,H a=some (.dK kvs)∧y=kV k∧kvs.length<sizeLine∧H'=upd H a (.dK (ZcM kvs k v)))∨
 ∃kvs k b,H a=some (.dT kvs)∧y=.ref b∧H b=some (.tup (k.map kV))∧kvs.length<sizeLine∧H'=upd H a (.dT (ZcM kvs k v))
theorem DGet.k {H:Hp} {a:Addr} {kvs:List (Key×V)} {k:Key} (e:H a=some (.dK kvs)):DGet H a (kV k) (valV kvs k):=.inl ⟨kvs,k,.inl e,rfl,rfl⟩
theorem DGet.t {H:Hp} {a b:Addr} {kvs:List (List Key×V)} {k:List Key} (e:H a=some (.dT kvs)) (eb:H b=some (.tup (k.map kV))):DGet H a (.ref b) (valV kvs k):=.inr ⟨kvs,k,b,.inl e,rfl,eb,rfl⟩
theorem DPut.k {H:Hp} {a:Addr} {kvs:List (Key×V)} {k:Key} {v:V} (e:H a=some (.dK kvs)) (hl:kvs.length<sizeLine):DPut H a (kV k) v (upd H a (.dK (ZcM kvs k v))):=.inl ⟨kvs,k,e,rfl,hl,rfl⟩
theorem DPut.t {H:Hp} {a b:Addr} {kvs:List (List Key×V)} {k:List Key} {v:V} (e:H a=some (.dT kvs)) (eb:H b=some (.tup (k.map kV))) (hl:kvs.length<sizeLine) :
  DPut H a (.ref b) v (upd H a (.dT (ZcM kvs k v))):=.inr ⟨kvs,k,b,e,rfl,eb,hl,rfl⟩
section
variable {X:Cx} {pins:List (Addr×Obj)} {σ:St} {H:Hp} {s:Shared} {a:Addr} {y v:V} {u r:Value} {o:Option V} {A:Around} {E:Value→Shared→Prop}
theorem Inv.big (I:Inv X pins σ H s):sysModules<s.heap.objs.size:=by
 have h:mainGlobals<s.heap.objs.size:=(I.mod.glob.keeps I.bk).lt
 exact Nat.lt_trans (by decide) h
theorem Zno {Q:Value→Shared→Prop} (hu:A.units+1<cLine) (I:Inv X pins σ H s) (g:DGet H a y (some v)) (ry:RelV y u) (h:∀w' s',Inv X pins σ H s'→RelV v w'→Q w' s') :
  wpAny (model X.prog X.w) A (getItem (.ref a) u) Q E s:=by
 rcases g with ⟨kvs,k,e,ey,l⟩ | ⟨kvs,k,b,e,ey,eb,l⟩
 ·subst ey
  obtain ⟨z,hd,vs,rel,dd⟩:=Zif I.hok e
  obtain ⟨w',hw,rw'⟩:=RelO.some_of (v:=v) (o:=valueAt vs k) (by rw [l]; exact rel.val k)
  exact wpAny_getItem_of (Zgp ry) dd.mapOf hw (h w' _ (I.tok _) rw')
 ·subst ey
  cases (show u=Value.ref b from ry)
  obtain ⟨z,hd,xs,rel,dd⟩:=Zid I.hok e
  obtain ⟨w',hw,rw'⟩:=RelO.some_of (v:=v) (o:=(atKey xs k).map (·.2)) (by rw [l]; exact rel.val k)
  obtain ⟨p,hp,hp2⟩:=Option.map_eq_some_iff.mp hw
  refine wpAny_getItem_heap (tupleKind_room_in1 hu) (ZgY I.hok eb) dd hp ?_
  rw [hp2]
  exact h w' _ (I.tok _) rw'
theorem ZAK {Q:Value→Shared→Prop} (hu:A.units+1<cLine) (I:Inv X pins σ H s) (g:DGet H a y o) (ry:RelV y u) (h:∀s',Inv X pins σ H s'→Q (.bool o.isSome) s') :
  wpAny (model X.prog X.w) A (compareOp .In u (.ref a)) Q E s:=by
 rcases g with ⟨kvs,k,e,ey,l⟩ | ⟨kvs,k,b,e,ey,eb,l⟩
 ·subst ey
  obtain ⟨z,hd,vs,rel,dd⟩:=Zif I.hok e
  refine wpAny_in_of (Zgp ry) hd dd.mapOf ?_
  rw [←(rel.val k).isSome_eq,←l]
  exact h _ (I.tok _)
 ·subst ey
  cases (show u=Value.ref b from ry)
  obtain ⟨z,hd,xs,rel,dd⟩:=Zid I.hok e
  refine wpAny_in_heap (tupleKind_room_in1 hu) (ZgY I.hok eb) hd dd ?_
  have q:=(rel.val k).isSome_eq
  rw [Option.isSome_map] at q
  rw [←q,←l]
  exact h _ (I.tok _)
theorem Zr1 {Q:Value→Shared→Prop} (hu:A.units+1<cLine) (I:Inv X pins σ H s) (g:DGet H a y o) (ry:RelV y u) (h:∀s',Inv X pins σ H s'→Q (.bool (!o.isSome)) s') :
  wpAny (model X.prog X.w) A (compareOp .NotIn u (.ref a)) Q E s:=by
 rcases g with ⟨kvs,k,e,ey,l⟩ | ⟨kvs,k,b,e,ey,eb,l⟩
 ·subst ey
  obtain ⟨z,hd,vs,rel,dd⟩:=Zif I.hok e
  refine wpAny_notIn_of (Zgp ry) hd dd.mapOf ?_
  rw [←(rel.val k).isSome_eq,←l]
  exact h _ (I.tok _)
 ·subst ey
  cases (show u=Value.ref b from ry)
  obtain ⟨z,hd,xs,rel,dd⟩:=Zid I.hok e
  refine wpAny_notIn_heap (tupleKind_room_in1 hu) (ZgY I.hok eb) hd dd ?_
  have q:=(rel.val k).isSome_eq
  rw [Option.isSome_map] at q
  rw [←q,←l]
  exact h _ (I.tok _)
theorem Zgt {h':Heap} {t':Nat} {ob:HO} (I:Inv X pins σ H s) (mu:Mut (H a)) (hs:Heap.SameBut a s.heap h') (he:∃q,h'.get? a=some q) (new:ObjOk X.prog X.w (upd H a ob) h' a ob) :
  Inv X pins σ (upd H a ob) { s with heap:=h',toks:=t' }:=
 I.write (x:=a) (e:=a) mu (.inl rfl) (fun b q hb z=>(hs.2 b hb).trans z) he new
theorem ZjK {P:Program} {w:World} {H':Hp} {h':Heap} {kvs:List (Key×V)} {vs:List (Key×Value)} (z:kvs.length≤sizeLine) (hd:(a == sysModules)=false) (rel:KV kvs vs) (dd:h'.DictOf (z9 P w) a vs) :
  ObjOk P w H' h' a (.dK kvs):=⟨z,hd,vs,rel,dd⟩
theorem Znn {H':Hp} {Q:Unit→Shared→Prop} (hu:A.units+1<cLine) (I:Inv X pins σ H s) (g:DPut H a y v H') (ry:RelV y u) (rv:RelV v r) (h:∀s',Inv X pins σ H' s'→Q () s') :
  wpAny (model X.prog X.w) A (setItem (.ref a) u r) Q E s:=by
 rcases g with ⟨kvs,k,e,ey,l,eH⟩ | ⟨kvs,k,b,e,ey,eb,l,eH⟩
 ·subst ey eH
  obtain ⟨z,hd,vs,rel,dd⟩:=Zms I.hok e
  have hz:vs.length≤sizeLine:=by rw [←rel.length]; exact z
  have hl:(ZcM kvs k v).length≤sizeLine:=by have:=Ze5 kvs k v; omega
  refine wpAny_setItem_pairs (hsz:=hz) (Zgp ry) dd fun h' dd' hs=>h _ ?_
  have he:∃q,h'.get? a=some q:=let ⟨q,_,_,hq,_⟩:=dd'; ⟨q,hq⟩
  exact Zgt I (by rw [e]; exact True.intro) hs he (ZjK hl hd (rel.put k rv) dd')
 ·subst ey eH
  cases (show u=Value.ref b from ry)
  obtain ⟨z,hd,xs,rel,dd⟩:=Zxc I.hok e
  have hz:xs.length≤sizeLine:=by rw [←Paired.length rel]; exact z
  have hl:(ZcM kvs k v).length≤sizeLine:=by have:=Ze5 kvs k v; omega
  refine wpAny_setItem_heap (hsz:=hz) (tupleKind_room_in1 hu) (ZgY I.hok eb) dd fun h' dd' hs=>h _ ?_
  obtain ⟨q,es,ep,hq,h2,h3,h4,_,h5⟩:=dd'
  refine Zgt I (by rw [e]; exact True.intro) hs ⟨q,hq⟩ ⟨hl,hd,_,(rel.put k eb rv).keeps fun c ys ec=>?_,q,es,ep,hq,h2,h3,h4,h5⟩
  rw [ZS (ZwM ec e (fun z=>nomatch z))]
  exact ec
end
section
variable {X:Cx} {pins:List (Addr×Obj)} {σ:St} {H:Hp} {s:Shared} {a:Addr} {kvs:List (Key×V)} {k:Key} {u:Value} {A:Around} {E:Value→Shared→Prop}
theorem ZvP {Q:Unit→Shared→Prop} (I:Inv X pins σ H s) (e:H a=some (.dK kvs)) (ry:RelV (kV k) u) (l:(valV kvs k).isSome=true) (h:∀s',Inv X pins σ (upd H a (.dK (ZfC kvs k))) s'→Q () s') :
  wpAny (model X.prog X.w) A (delItem (.ref a) u) Q E s:=by
 obtain ⟨z,hd,vs,rel,dd⟩:=Zms I.hok e
 refine wpAny_delItem_slot dd.typeIs (by decide) PySem.F.slot_dict_delitem
  (call_meetsIn PySem.F.slot_dict_delitem dd.typeIs PySem.F.entry_dict_delitem (PySem.F.args_dict_delitem_2 _ _) (meets_dict_delitem_pairs (z9 X.prog X.w) a (Zgp ry)) ⟨vs,dd,by rw [←rel.length]; exact z,by rw [←(rel.val k).isSome_eq]; exact l,fun h' dd' hs=>h _ ?_⟩)
 have he:∃q,h'.get? a=some q:=let ⟨q,_,_,hq,_⟩:=dd'; ⟨q,hq⟩
 exact Zgt I (by rw [e]; exact True.intro) hs he (ZjK (Yt (ZkH kvs k) z) hd (rel.drop k) dd')
theorem Zxe {v:V} {more:List Value} {Q:Value→Shared→Prop} (I:Inv X pins σ H s) (e:H a=some (.dK kvs)) (ry:RelV (kV k) u) (l:valV kvs k=some v) (hm:more=[]∨∃x,more=[x])
  (h:∀w' s',Inv X pins σ (upd H a (.dK (ZfC kvs k))) s'→RelV v w'→Q w' s'):wpAny (model X.prog X.w) A (call (.builtin "dict.pop") (.ref a::u::more)) Q E s:=by
 obtain ⟨z,hd,vs,rel,dd⟩:=Zms I.hok e
 obtain ⟨w',hw,rw'⟩:=RelO.some_of (v:=v) (o:=valueAt vs k) (by rw [←l]; exact rel.val k)
 have hp:(keyPart u).isSome=true:=by
  cases k with
  | inl i=>obtain ⟨t,q⟩:=(show ∃t,u=Value.int i t from ry); subst q; rfl
  | inr x=>obtain ⟨t,q⟩:=(show ∃t,u=Value.str x t from ry); subst q; rfl
 have ha:argsOk "dict.pop" ⟨.ref a::u::more,[]⟩:=by
  rcases hm with q | ⟨x,q⟩
  ·subst q; exact PySem.F.args_dict_pop_2 _ _
  ·subst q; exact PySem.F.args_dict_pop_3 _ _ _
 refine call_meetsIn PySem.F.slot_dict_pop dd.typeIs PySem.F.entry_dict_pop ha (meets_dict_pop_there (z9 X.prog X.w) a (Zgp ry) more hm hp)
  ⟨vs,w',dd,by rw [←rel.length]; exact z,hw,fun h' dd' hs=>h w' _ ?_ rw'⟩
 have he:∃q,h'.get? a=some q:=let ⟨q,_,_,hq,_⟩:=dd'; ⟨q,hq⟩
 exact Zgt I (by rw [e]; exact True.intro) hs he (ZjK (Yt (ZkH kvs k) z) hd (rel.drop k) dd')
end
def Zvq (i:Expr):Prop:=∀ov iv,subscripted i false ov iv=operate [ov,iv] (getItem ov iv)
theorem Zq7 {prog:Program} {w:World} {A:Around} {E:Value→Shared→Prop} {s:Shared} {env:Env} {value slice:Expr} {pos:Pos} {T id:String} {Q:Value→Shared→Prop}
  (hl:typeLookup (.type T) "__getitem__"=pure (some (.builtin id))) (hs:Zvq slice)
  (h:wpAny (model prog w) A (eval value env) (fun o s₁=>wpAny (model prog w) A (eval slice env) (fun i s₂=>s₂.TypeIs o T∧wpAny (model prog w) A (getItem o i) Q E s₂) E s₁) E s) :
  wpAny (model prog w) A (eval (.Subscript value slice pos) env) Q E s:=by
 refine Subscript_ (wpAny_mono h (fun o s₁ h₁=>wpAny_mono h₁ (fun i s₂ h₂=>?_) fun _ _ x=>x) fun _ _ x=>x)
 obtain ⟨hT,h₂⟩:=h₂
 unfold subscriptTail
 refine wpAny_bind ?_
 rw [getitemInPython_of_ne hT.not_modules]
 refine wpAny_bind (wpAny_specialOf hT hl ?_)
 have fin:wpAny (model prog w) A (subscripted slice false o i) (fun r s₃=>wpAny (model prog w) A (letTemporaryGo value o r >>= fun _=>pure r) Q E s₃) E s₂:=by
  rw [hs o i]
  exact wpAny_operating (wpAny_mono h₂ (fun r s₃ h₃=>wpAny_bind (wpAny_letTemporaryGo (wpAny_pure h₃))) fun _ _ x=>x)
 first
  | exact wpAny_pure (wpAny_bind fin)
  | exact wpAny_bind (wpAny_pure (wpAny_bind fin))
  | exact wpAny_bind fin
theorem ZkK {X:Cx} {pins:List (Addr×Obj)} {σ:St} {H:Hp} {s:Shared} {a:Addr} {y:V} {o:Option V} (I:Inv X pins σ H s) (g:DGet H a y o):s.TypeIs (.ref a) "dict":=by
 rcases g with ⟨kvs,k,e,_,_⟩ | ⟨kvs,k,b,e,_,_,_⟩
 ·obtain ⟨_,_,vs,_,dd⟩:=Zif I.hok e
  exact dd.typeIs
 ·obtain ⟨_,_,xs,_,dd⟩:=Zid I.hok e
  exact dd.typeIs
def Zwf (td ty:TE):TE:=fun σ H Q=>td σ H fun x H1=>ty σ H1 fun y H2=>∃a v,x=.ref a∧DGet H2 a y (some v)∧Q v H2
def Zwe (ty td:TE):TE:=fun σ H Q=>ty σ H fun y H1=>td σ H1 fun x H2=>∃a o,x=.ref a∧DGet H2 a y o∧Q (.bl o.isSome) H2
def ZlI (ty td:TE):TE:=fun σ H Q=>ty σ H fun y H1=>td σ H1 fun x H2=>∃a o,x=.ref a∧DGet H2 a y o∧Q (.bl (!o.isSome)) H2
def Zwn (td ty tv:TE):TS:=fun D σ H=>tv σ H fun v H1=>td σ H1 fun x H2=>ty σ H2 fun y H3=>∃a H4,x=.ref a∧DPut H3 a y v H4∧D.nx σ H4
section
variable {X:Cx} {o i e value:Expr} {pos pos' tpos:Pos} {td ty tv:TE}
theorem Zrs (hu:X.A.units+1<cLine) (ho:PE X o td) (hi:PE X i ty) (hs:Zvq i):PE X (.Subscript o i pos) (Zwf td ty):=by
 intro pins s σ H Q I h
 refine Zq7 PySem.F.slot_dict_getitem.lookup hs (thn (ho pins s σ H _ I h) fun u s1 ⟨x,H1,I1,rx,q1⟩=>thn (hi pins s1 σ H1 _ I1 q1) fun iv s2 ⟨y,H2,I2,ry,a,v,ex,g,q2⟩=>?_)
 subst ex
 obtain rfl:u=Value.ref a:=rx
 exact ⟨ZkK I2 g,Zno hu I2 g ry fun w' s3 I3 rw'=>⟨v,H2,I3,rw',q2⟩⟩
theorem ZuQ (hu:X.A.units+1<cLine) (hi:PE X i ty) (ho:PE X o td):PC X .In i o (Zwe ty td):=by
 intro pins s σ H Q I h
 refine thn (hi pins s σ H _ I h) fun iv s1 ⟨y,H1,I1,ry,q1⟩=>thn (ho pins s1 σ H1 _ I1 q1) fun u s2 ⟨x,H2,I2,rx,a,ov,ex,g,q2⟩=>?_
 subst ex
 obtain rfl:u=Value.ref a:=rx
 exact ZAK hu I2 g ry fun s3 I3=>⟨.bl ov.isSome,H2,I3,rfl,q2⟩
theorem Zm2 (hu:X.A.units+1<cLine) (hi:PE X i ty) (ho:PE X o td):PC X .NotIn i o (ZlI ty td):=by
 intro pins s σ H Q I h
 refine thn (hi pins s σ H _ I h) fun iv s1 ⟨y,H1,I1,ry,q1⟩=>thn (ho pins s1 σ H1 _ I1 q1) fun u s2 ⟨x,H2,I2,rx,a,ov,ex,g,q2⟩=>?_
 subst ex
 obtain rfl:u=Value.ref a:=rx
 exact Zr1 hu I2 g ry fun s3 I3=>⟨.bl (!ov.isSome),H2,I3,rfl,q2⟩
theorem ZlQ (hu:X.A.units+1<cLine) (ho:PE X o td) (hi:PE X i ty) (hv:PE X value tv) (hs:swapsWith value (some (.Subscript o i pos')) pos.line X.env=pure false) :
  PS X (.Assign [.Subscript o i pos'] value pos) (Zwn td ty tv):=by
 intro pins s σ H D I h
 refine wpAny_Assign_Subscript (thn (hv pins s σ H _ I h) fun r s1 ⟨v,H1,I1,rv,q1⟩=>thn (ho pins s1 σ H1 _ I1 q1) fun u s2 ⟨x,H2,I2,rx,q2⟩=>thn (hi pins s2 σ H2 _ I2 q2) fun iv s3 ⟨y,H3,I3,ry,a,H4,ex,g,q3⟩=>?_) hs
 subst ex
 obtain rfl:u=Value.ref a:=rx
 exact Znn hu I3 g ry rv fun s4 I4=>⟨σ,H4,I4,q3⟩
end
theorem Zpe {P:Program} {w:World} {H:Hp} (h:Heap) (hb:sysModules<h.objs.size):ObjOk P w H (h.push { cls:=.type "dict",data:=.dict #[] }) h.objs.size (.dK []):=
 ⟨YB _,beq_eq_false_iff_ne.mpr (Ne.symm (Yp hb)),[],.nil,Heap.DictOf.new h⟩
theorem Zo9 {P:Program} {w:World} {H:Hp} (h:Heap) (hb:sysModules<h.objs.size):ObjOk P w H (h.push { cls:=.type "dict",data:=.dict #[] }) h.objs.size (.dT []):=
 ⟨YB _,beq_eq_false_iff_ne.mpr (Ne.symm (Yp hb)),[],.nil,_,#[],0,Heap.get?_push_size _ rfl,⟨rfl,rfl,rfl⟩,rfl,rfl,List.nodup_nil⟩
def Zuk:TE:=fun _ H Q=>∀p,H p=none→Q (.ref p) (upd H p (.dK []))
def Zuj:TE:=fun _ H Q=>∀p,H p=none→Q (.ref p) (upd H p (.dT []))
section
variable {X:Cx} {pos:Pos}
theorem Zor:PE X (.Dict [] [] pos) Zuk:=fun pins s σ H Q I h=>
 wpAny_Dict_empty ⟨.ref s.heap.objs.size,_,I.laid (a:=s.heap.objs.size) (o:=.dK []) (t':=s.toks) (fun _ _ q=>Heap.get?_push_of_some _ q) (Yd _) (Zpe s.heap I.big),rfl,h _ (I.hok.fresh (Yd _))⟩
theorem Zoq:PE X (.Dict [] [] pos) Zuj:=fun pins s σ H Q I h=>
 wpAny_Dict_empty ⟨.ref s.heap.objs.size,_,I.laid (a:=s.heap.objs.size) (o:=.dT []) (t':=s.toks) (fun _ _ q=>Heap.get?_push_of_some _ q) (Yd _) (Zo9 s.heap I.big),rfl,h _ (I.hok.fresh (Yd _))⟩
end
structure M1 (X:Cx) (o:Expr) (m:Str) (apos:Pos) (e:Expr) (cpos:Pos):Prop where
 base:attributeBase o m X.env (eval o X.env)=eval o X.env
 few:((backTo cpos (starEach [e] X.env)).all (fun x=>!x.1) && (backToKw cpos (keywordEach [] X.env)).all (fun x=>x.1.isSome)
  && decide (([e]:List Expr).length+([]:List Keyword).length+(if ([]:List Keyword).isEmpty then 0 else 1)<30))=true
 line:(apos.endLine == cpos.line)=true
 trees:backTo cpos (starEach [e] X.env)=[(false,eval e X.env)]
structure M2 (X:Cx) (o:Expr) (m:Str) (apos:Pos) (e f:Expr) (cpos:Pos):Prop where
 base:attributeBase o m X.env (eval o X.env)=eval o X.env
 few:((backTo cpos (starEach [e,f] X.env)).all (fun x=>!x.1) && (backToKw cpos (keywordEach [] X.env)).all (fun x=>x.1.isSome)
  && decide (([e,f]:List Expr).length+([]:List Keyword).length+(if ([]:List Keyword).isEmpty then 0 else 1)<30))=true
 line:(apos.endLine == cpos.line)=true
 trees:backTo cpos (starEach [e,f] X.env)=[(false,eval e X.env),(false,eval f X.env)]
def IsD (H:Hp) (a:Addr):Prop:=(∃kvs,Rd H a (.dK kvs))∨∃kvs,Rd H a (.dT kvs)
theorem Zlo {X:Cx} {pins:List (Addr×Obj)} {σ:St} {H:Hp} {s:Shared} {a:Addr} (I:Inv X pins σ H s) (d:IsD H a) :
  s.TypeIs (.ref a) "dict"∧(∀b,Value.ref a=.ref b→∃ob,s.heap.get? b=some ob∧ob.dict=none)∧(a == sysModules)=false:=by
 rcases d with ⟨kvs,e⟩ | ⟨kvs,e⟩
 ·obtain ⟨_,hd,vs,_,dd⟩:=Zif I.hok e
  refine ⟨dd.typeIs,fun b q=>?_,hd⟩
  cases q
  obtain ⟨ob,_,_,h1,h2,_⟩:=dd
  exact ⟨ob,h1,h2.2.1⟩
 ·obtain ⟨_,hd,xs,_,dd⟩:=Zid I.hok e
  refine ⟨dd.typeIs,fun b q=>?_,hd⟩
  cases q
  obtain ⟨ob,_,_,h1,h2,_⟩:=dd
  exact ⟨ob,h1,h2.2.1⟩
section
variable {X:Cx} {pins:List (Addr×Obj)} {σ:St} {H:Hp} {s:Shared} {a:Addr} {y d:V} {u r:Value} {o:Option V} {A:Around} {E:Value→Shared→Prop}
theorem Zvj {Q:Value→Shared→Prop} (hu:A.units+1<cLine) (I:Inv X pins σ H s) (g:DGet H a y o) (ry:RelV y u) (h:∀w' s',Inv X pins σ H s'→RelV (o.getD .non) w'→Q w' s') :
  wpAny (model X.prog X.w) A (call (.builtin "dict.get") [.ref a,u]) Q E s:=by
 rcases g with ⟨kvs,k,e,ey,l⟩ | ⟨kvs,k,b,e,ey,eb,l⟩
 ·subst ey
  obtain ⟨z,hd,vs,rel,dd⟩:=Zif I.hok e
  refine call_meetsIn PySem.F.slot_dict_get dd.typeIs PySem.F.entry_dict_get (PySem.F.args_dict_get_2 _ _) (meets_dict_get (z9 X.prog X.w) a (Zgp ry) hd) ⟨_,dd.mapOf,h _ _ (I.tok _) ?_⟩
  rw [l]
  exact (rel.val k).getD rfl
 ·subst ey
  cases (show u=Value.ref b from ry)
  obtain ⟨z,hd,xs,rel,dd⟩:=Zid I.hok e
  refine call_meetsIn PySem.F.slot_dict_get dd.typeIs PySem.F.entry_dict_get (PySem.F.args_dict_get_2 _ _) (meetsH_dict_get (tupleKind (z9 X.prog X.w)) a b hd) ⟨tupleKind_room_in1 hu,k,xs,ZgY I.hok eb,dd,h _ _ (I.tok _) ?_⟩
  rw [l]
  exact (rel.val k).getD rfl
end
def Zul (td ty:TE):TE:=fun σ H Q=>td σ H fun x H1=>∃a,x=.ref a∧IsD H1 a∧ty σ H1 fun y H2=>∃o,DGet H2 a y o∧Q (o.getD .non) H2
def Zui (td ty:TE):TE:=fun σ H Q=>td σ H fun x H1=>∃a,x=.ref a∧IsD H1 a∧ty σ H1 fun y H2=>∃kvs k v,H2 a=some (.dK kvs)∧y=kV k∧valV kvs k=some v∧Q v (upd H2 a (.dK (ZfC kvs k)))
section
variable {X:Cx} {o e f:Expr} {apos cpos:Pos} {td ty tx:TE}
theorem Zos (hu:X.A.units+1<cLine) (ho:PE X o td) (he:PE X e ty) (m:M1 X o "get" apos e cpos):PE X (.Call (.Attribute o "get" apos) [e] [] cpos) (Zul td ty):=by
 intro pins s σ H Q I h
 refine wpAny_Call_method m.base m.few m.line PySem.F.plainAttrs_dict PySem.F.slot_dict_get PySem.F.type_dict_get (thn (ho pins s σ H _ I h) fun u s1 ⟨x,H1,I1,rx,a,ex,d,q1⟩=>?_)
 subst ex
 obtain rfl:u=Value.ref a:=rx
 obtain ⟨t1,t2,_⟩:=Zlo I1 d
 refine ⟨t1,t2,?_⟩
 rw [m.trees]
 refine Calls.callWith_builtin rfl (Calls.evalArgs_plain (Calls.spliced_cons (thn (he pins s1 σ H1 _ I1 q1) fun iv s2 ⟨y,H2,I2,ry,ov,g,q2⟩=>Calls.spliced_nil ?_)))
 exact Zvj hu I2 g ry fun w' s3 I3 rw'=>⟨_,H2,I3,rw',q2⟩
theorem Zop (ho:PE X o td) (he:PE X e ty) (m:M1 X o "pop" apos e cpos):PE X (.Call (.Attribute o "pop" apos) [e] [] cpos) (Zui td ty):=by
 intro pins s σ H Q I h
 refine wpAny_Call_method m.base m.few m.line PySem.F.plainAttrs_dict PySem.F.slot_dict_pop PySem.F.type_dict_pop (thn (ho pins s σ H _ I h) fun u s1 ⟨x,H1,I1,rx,a,ex,d,q1⟩=>?_)
 subst ex
 obtain rfl:u=Value.ref a:=rx
 obtain ⟨t1,t2,_⟩:=Zlo I1 d
 refine ⟨t1,t2,?_⟩
 rw [m.trees]
 refine Calls.callWith_builtin rfl (Calls.evalArgs_plain (Calls.spliced_cons (thn (he pins s1 σ H1 _ I1 q1) fun iv s2 ⟨y,H2,I2,ry,kvs,k,v,ea,ey,l,q2⟩=>Calls.spliced_nil ?_)))
 subst ey
 exact Zxe I2 ea ry l (.inl rfl) fun w' s3 I3 rw'=>⟨v,_,I3,rw',q2⟩
end
end L2
namespace L2.MM
open PySem PySem.Spec PyProof.Rows
theorem nr {α:Sort _} {a b:α} (h:a=b):a=b:=h
inductive D where
 | non | bl (b:Bool) | int (i:Int) | str (x:Str) | ty (n:String)
 | scr (ns:List Int) | tup (xs:List D) | lst (xs:List D) | ref (l:Nat)
 deriving Inhabited
inductive Cell where
 | lst (xs:List D) | dK (kvs:List (Key×D)) | dT (kvs:List (List Key×D)) | ins (C:Str) (fs:List (Str×D))
abbrev Sto:=List Cell
structure Bx where
 n:Nat
 m:Nat→Addr
 F:Addr→Prop
 os:List Addr
 ks:Addr→List Int→Prop
def Bx.ok (B:Bx) (a:Addr):Prop:=(∀i,i<B.n→B.m i≠a)∧¬B.F a∧a∉B.os
mutual
def RepV (B:Bx) (H:Hp):D→V→Prop
 | .non,v=>v=.non
 | .bl b,v=>v=.bl b
 | .int i,v=>v=.int i
 | .str x,v=>v=.str x
 | .ty n,v=>v=.ty n
 | .scr ns,v=>∃a,v=.ref a∧((∃o,H a=some (.frz o (.lst (ns.map V.int)))∧B.ok a)∨B.ks a ns)
 | .tup xs,v=>∃a vs,v=.ref a∧H a=some (.tup vs)∧B.ok a∧RepL B H xs vs
 | .lst xs,v=>∃a vs,v=.ref a∧H a=some (.lst vs)∧B.ok a∧RepL B H xs vs
 | .ref l,v=>l<B.n∧v=.ref (B.m l)
def RepL (B:Bx) (H:Hp):List D→List V→Prop
 | [],vs=>vs=[]
 | d::ds,vs=>∃v r,vs=v::r∧RepV B H d v∧RepL B H ds r
end
abbrev RepKV {κ:Type} (B:Bx) (H:Hp):List (κ×D)→List (κ×V)→Prop:=Paired fun p q=>p.1=q.1∧RepV B H p.2 q.2
structure ExtS (B B':Bx) (H H':Hp):Prop where
 n:B.n≤B'.n
 m:∀i,i<B.n→B'.m i=B.m i
 fr:∀i,B.n≤i→i<B'.n→H (B'.m i)=none
 keep:∀a o,H a=some o→(∀i,i<B.n→B.m i≠a)→a∉B.os→H' a=some o
 sm:∀a,H a≠none→H' a≠none
 os:∀a,a∈B'.os→a∈B.os∨H a=none
 F:B'.F=B.F
 ks:B'.ks=B.ks
structure ExtE (B B':Bx) (H H':Hp):Prop extends ExtS B B' H H' where
 osE:B'.os=B.os
 ko:∀a o,a∈B.os→(∀i,i<B.n→B.m i≠a)→H a=some o→H' a=some o
theorem ExtS.refl (B:Bx) (H:Hp):ExtS B B H H:=⟨Yd _,fun _ _=>rfl,fun i h h'=>absurd h' (YH.mpr h),fun _ _ h _ _=>h,fun _ h=>h,fun _ h=>.inl h,rfl,rfl⟩
theorem ExtE.refl (B:Bx) (H:Hp):ExtE B B H H:=⟨ExtS.refl B H,rfl,fun _ _ _ _ h=>h⟩
section
variable {B B' B'':Bx} {H H' H'':Hp}
theorem Bx.ok.ext {a:Addr} {o:HO} (k:B.ok a) (E:ExtS B B' H H') (h:H a=some o):B'.ok a∧H' a=some o:=by
 refine ⟨⟨fun i hi e=>?_,by rw [E.F]; exact k.2.1,fun z=>?_⟩,E.keep a o h k.1 k.2.2⟩
 ·by_cases q:i<B.n
  ·rw [E.m i q] at e; exact k.1 i q e
  ·have:=E.fr i (YH.mp q) hi
   rw [e,h] at this; cases this
 ·rcases E.os a z with z | z
  ·exact k.2.2 z
  ·rw [h] at z; cases z
theorem ExtS.trans (E:ExtS B B' H H') (E':ExtS B' B'' H' H''):ExtS B B'' H H'' where
 n:=Yt E.n E'.n
 m:=fun i hi=>(E'.m i (Yh hi E.n)).trans (E.m i hi)
 fr:=fun i h1 h2=>by
  by_cases q:i<B'.n
  ·rw [E'.m i q]; exact E.fr i h1 q
  ·cases z:H (B''.m i) with
   | none=>rfl
   | some o=>exact absurd (E'.fr i (YH.mp q) h2) (E.sm _ (by rw [z]; simp))
 keep:=fun a o h h1 h2=>by
  have h':=E.keep a o h h1 h2
  refine E'.keep a o h' (fun i hi e=>?_) (fun z=>?_)
  ·by_cases q:i<B.n
   ·rw [E.m i q] at e; exact h1 i q e
   ·have:=E.fr i (YH.mp q) hi
    rw [e,h] at this; cases this
  ·rcases E.os a z with z | z
   ·exact h2 z
   ·rw [h] at z; cases z
 sm:=fun a h=>E'.sm a (E.sm a h)
 os:=fun a h=>by
  rcases E'.os a h with z | z
  ·exact E.os a z
  ·right
   cases q:H a with
   | none=>rfl
   | some o=>exact absurd z (E.sm a (by rw [q]; simp))
 F:=E'.F.trans E.F
 ks:=E'.ks.trans E.ks
theorem ExtE.trans (E:ExtE B B' H H') (E':ExtE B' B'' H' H''):ExtE B B'' H H'' where
 toExtS:=E.toExtS.trans E'.toExtS
 osE:=E'.osE.trans E.osE
 ko:=fun a o ha h1 h=>by
  have h':=E.ko a o ha h1 h
  refine E'.ko a o (by rw [E.osE]; exact ha) (fun i hi e=>?_) h'
  by_cases q:i<B.n
  ·rw [E.m i q] at e; exact h1 i q e
  ·have:=E.fr i (YH.mp q) hi
   rw [e,h] at this; cases this
mutual
theorem RepV.ext (E:ExtS B B' H H'):∀{d:D} {v:V},RepV B H d v→RepV B' H' d v
 | .non,_,h=>h
 | .bl _,_,h=>h
 | .int _,_,h=>h
 | .str _,_,h=>h
 | .ty _,_,h=>h
 | .scr _,_,h=>by
  obtain ⟨a,e,h⟩:=h
  refine ⟨a,e,?_⟩
  rcases h with ⟨o,h,k⟩ | h
  ·obtain ⟨k',h'⟩:=k.ext E h
   exact .inl ⟨o,h',k'⟩
  ·exact .inr (by rw [E.ks]; exact h)
 | .tup _,_,h=>by
  obtain ⟨a,vs,e,h,k,l⟩:=h
  obtain ⟨k',h'⟩:=k.ext E h
  exact ⟨a,vs,e,h',k',RepL.ext E l⟩
 | .lst _,_,h=>by
  obtain ⟨a,vs,e,h,k,l⟩:=h
  obtain ⟨k',h'⟩:=k.ext E h
  exact ⟨a,vs,e,h',k',RepL.ext E l⟩
 | .ref l,_,h=>⟨Yh h.1 E.n,by rw [h.2,E.m l h.1]⟩
theorem RepL.ext (E:ExtS B B' H H'):∀{ds:List D} {vs:List V},RepL B H ds vs→RepL B' H' ds vs
 | [],_,h=>h
 | _::_,_,h=>by
  obtain ⟨v,r,e,hv,hr⟩:=h
  exact ⟨v,r,e,RepV.ext E hv,RepL.ext E hr⟩
end
theorem RepL.len:∀{ds:List D} {vs:List V},RepL B H ds vs→vs.length=ds.length
 | [],_,h=>by cases (show _=[] from h); rfl
 | _::_,_,h=>by
  obtain ⟨v,r,rfl,_,hr⟩:=h
  simp [RepL.len hr]
theorem RepL.app:∀{ds es:List D} {vs us:List V},RepL B H ds vs→RepL B H es us→RepL B H (ds++es) (vs++us)
 | [],_,_,_,h,q=>by cases (show _=[] from h); exact q
 | _::_,_,_,_,h,q=>by
  obtain ⟨v,r,rfl,hv,hr⟩:=h
  exact ⟨v,_,rfl,hv,RepL.app hr q⟩
theorem RepL.get:∀{ds:List D} {vs:List V} {i:Nat} {d:D},RepL B H ds vs→ds[i]?=some d→∃v,vs[i]?=some v∧RepV B H d v
 | [],_,_,_,_,e=>by simp at e
 | _::_,_,0,_,h,e=>by
  obtain ⟨v,r,rfl,hv,_⟩:=h
  simp at e; subst e
  exact ⟨v,rfl,hv⟩
 | _::_,_,i+1,_,h,e=>by
  obtain ⟨v,r,rfl,_,hr⟩:=h
  obtain ⟨w,q1,q2⟩:=RepL.get (i:=i) hr (by simpa using e)
  exact ⟨w,by simpa using q1,q2⟩
theorem RepL.take:∀{ds:List D} {vs:List V} (n:Nat),RepL B H ds vs→RepL B H (ds.take n) (vs.take n)
 | _,_,0,_=>by rw [List.take_zero,List.take_zero]; exact rfl
 | [],_,n+1,h=>by cases (show _=[] from h); exact rfl
 | _::_,_,n+1,h=>by
  obtain ⟨v,r,rfl,hv,hr⟩:=h
  exact ⟨v,_,rfl,hv,RepL.take n hr⟩
theorem RepL.drop:∀{ds:List D} {vs:List V} (n:Nat),RepL B H ds vs→RepL B H (ds.drop n) (vs.drop n)
 | _,_,0,h=>h
 | [],_,n+1,h=>by cases (show _=[] from h); exact rfl
 | _::_,_,n+1,h=>by
  obtain ⟨v,r,rfl,hv,hr⟩:=h
  exact RepL.drop n hr
theorem RepL.map {α:Type} {f:α→D} {g:α→V} (q:∀a,RepV B H (f a) (g a)):∀l:List α,RepL B H (l.map f) (l.map g)
 | []=>rfl
 | a::l=>⟨_,_,rfl,q a,RepL.map q l⟩
theorem RepKV.ext {κ:Type} (E:ExtS B B' H H'):∀{ks:List (κ×D)} {vs:List (κ×V)},RepKV B H ks vs→RepKV B' H' ks vs
 | _,_,.nil=>.nil
 | _,_,.cons h t=>.cons ⟨h.1,RepV.ext E h.2⟩ (RepKV.ext E t)
end
structure Mo where
 cl:Str→Addr
 K:PySem.W.Frag
def KL (K:PySem.W.Frag) (a:Addr) (ns:List Int):Prop:=∃(o:Obj) (its:Array Value) (n:Nat),K.lookup a=some o∧o.cls=.type "list"∧o.dict=none∧o.data=.seq its n∧its.size≤sizeLine∧Vals (ns.map V.int) its.toList
def CellOk (cl:Mo) (B:Bx) (H:Hp) (a:Addr):Cell→Prop
 | .lst xs=>∃vs,H a=some (.lst vs)∧RepL B H xs vs
 | .dK kvs=>∃vs,H a=some (.dK vs)∧RepKV B H kvs vs
 | .dT kvs=>∃vs,H a=some (.dT vs)∧RepKV B H kvs vs
 | .ins C fs=>∃dx vs,H a=some (.ins (cl.cl C) dx vs)∧RepKV B H fs vs
structure Good (cl:Mo) (B:Bx) (θ:Sto) (H:Hp):Prop where
 len:θ.length=B.n
 inj:∀i j,i<B.n→j<B.n→B.m i=B.m j→i=j
 cel:∀i c,θ[i]?=some c→CellOk cl B H (B.m i) c
 cF:∀i,i<B.n→¬B.F (B.m i)∧B.m i∉B.os
 Fs:∀a,B.F a→H a≠none
 oS:∀a,a∈B.os→H a≠none
 oF:∀a,a∈B.os→¬B.F a
 kc:∀a ns,B.ks a ns→KL cl.K a ns
section
variable {cl:Mo} {B B' B'':Bx} {H H' H'':Hp} {θ θ':Sto}
theorem CellOk.ext {a:Addr} {c:Cell} (k:CellOk cl B H a c) (E:ExtS B B' H H') (h:∀o,H a=some o→H' a=some o):CellOk cl B' H' a c:=by
 cases c with
 | lst xs=>obtain ⟨vs,e,r⟩:=k; exact ⟨vs,h _ e,r.ext E⟩
 | dK kvs=>obtain ⟨vs,e,r⟩:=k; exact ⟨vs,h _ e,r.ext E⟩
 | dT kvs=>obtain ⟨vs,e,r⟩:=k; exact ⟨vs,h _ e,r.ext E⟩
 | ins C fs=>obtain ⟨dx,vs,e,r⟩:=k; exact ⟨dx,vs,h _ e,r.ext E⟩
theorem CellOk.there {a:Addr} {c:Cell} (k:CellOk cl B H a c):H a≠none:=by
 cases c with
 | lst xs=>obtain ⟨vs,e,r⟩:=k; rw [e]; simp
 | dK kvs=>obtain ⟨vs,e,r⟩:=k; rw [e]; simp
 | dT kvs=>obtain ⟨vs,e,r⟩:=k; rw [e]; simp
 | ins C fs=>obtain ⟨dx,vs,e,r⟩:=k; rw [e]; simp
theorem Good.there (G:Good cl B θ H) {i:Nat} (hi:i<B.n):H (B.m i)≠none:=by
 have:i < θ.length:=by rw [G.len]; exact hi
 exact (G.cel i _ (List.getElem?_eq_getElem this)).there
theorem Good.okNone (G:Good cl B θ H) {p:Addr} (h:H p=none):B.ok p:=
 ⟨fun i hi e=>G.there hi (by rw [e]; exact h),fun z=>G.Fs p z h,fun z=>G.oS p z h⟩
theorem Zc2 (G:Good cl B θ H) {p:Addr} (h:H p=none) (o:HO):ExtE B B H (upd H p o):=by
 have ne:∀a u,H a=some u→upd H p o a=some u:=fun a u e=>by rw [ZS (zl e h)]; exact e
 exact ⟨⟨Yd _,fun _ _=>rfl,fun i h h'=>absurd h' (YH.mpr h),fun a u e _ _=>ne a u e,fun a e=>by
  cases q:H a with
  | none=>exact absurd q e
  | some u=>rw [ne a u q]; simp,fun _ h=>.inl h,rfl,rfl⟩,rfl,fun a u _ _ e=>ne a u e⟩
theorem Ze7 (G:Good cl B θ H) {p:Addr} (h:H p=none) (o:HO):Good cl B θ (upd H p o):=by
 have E:=Zc2 G h o
 exact ⟨G.len,G.inj,fun i c e=>(G.cel i c e).ext E.toExtS fun u q=>by rw [ZS (zl q h)]; exact q,G.cF,fun a z=>E.sm a (G.Fs a z),fun a z=>E.sm a (G.oS a z),G.oF,G.kc⟩
theorem Zrd (G:Good cl B θ H) {p:Addr} (h:H p=none) {xs:List D} {vs:List V} (r:RepL B H xs vs):RepV B (upd H p (.lst vs)) (.lst xs) (.ref p):=
 ⟨p,vs,rfl,zd,G.okNone h,r.ext (Zc2 G h _).toExtS⟩
theorem Zrc (G:Good cl B θ H) {p:Addr} (h:H p=none) {xs:List D} {vs:List V} (r:RepL B H xs vs):RepV B (upd H p (.tup vs)) (.tup xs) (.ref p):=
 ⟨p,vs,rfl,zd,G.okNone h,r.ext (Zc2 G h _).toExtS⟩
def Bx.push (B:Bx) (p:Addr):Bx:={ B with n:=B.n+1,m:=fun i=>if i=B.n then p else B.m i }
theorem Zec (G:Good cl B θ H) {p:Addr} (h:H p=none) (o:HO):ExtE B (B.push p) H (upd H p o):=by
 have E:=Zc2 G h o
 refine ⟨⟨Jq _,fun i hi=>if_neg (Yp hi),fun i h1 h2=>?_,E.keep,E.sm,fun _ h=>.inl h,rfl,rfl⟩,rfl,E.ko⟩
 have e:i=B.n:=Nat.le_antisymm (Nat.le_of_lt_succ h2) h1
 show H (if i=B.n then p else B.m i)=none
 rw [if_pos e]; exact h
theorem Zfq (G:Good cl B θ H) {p:Addr} (h:H p=none) {o:HO} {c:Cell} (k:CellOk cl (B.push p) (upd H p o) p c):Good cl (B.push p) (θ++[c]) (upd H p o):=by
 have E:=Zec G h o
 have hm:∀i,i<B.n→(B.push p).m i=B.m i:=fun i hi=>if_neg (Yp hi)
 have hn:(B.push p).m B.n=p:=if_pos rfl
 have cs:∀i,i<(B.push p).n→i<B.n∨i=B.n:=fun i hi=>Nat.lt_succ_iff_lt_or_eq.mp hi
 have ok:=G.okNone h
 refine ⟨by rw [Ym,G.len]; rfl,fun i j hi hj e=>?_,fun i c' e=>?_,fun i hi=>?_,fun a z=>E.sm a (G.Fs a z),fun a z=>E.sm a (G.oS a z),G.oF,G.kc⟩
 ·rcases cs i hi with a | a<;>rcases cs j hj with b | b
  ·rw [hm i a,hm j b] at e; exact G.inj i j a b e
  ·rw [hm i a,b,hn] at e; exact absurd e (ok.1 i a)
  ·rw [hm j b,a,hn] at e; exact absurd e.symm (ok.1 j b)
  ·rw [a,b]
 ·by_cases q:i < θ.length
  ·rw [Yu q] at e
   rw [hm i (by rw [←G.len]; exact q)]
   exact (G.cel i c' e).ext E.toExtS fun u z=>by rw [ZS (zl z h)]; exact z
  ·have q':=YH.mp q
   rw [YA q'] at e
   have:i - θ.length=0:=by
    cases z:i - θ.length with
    | zero=>rfl
    | succ k=>rw [z] at e; simp at e
   rw [this] at e
   simp at e
   subst e
   have:i=B.n:=by rw [←G.len]; omega
   rw [this,hn]; exact k
 ·rcases cs i hi with a | a
  ·rw [hm i a]; exact G.cF i a
  ·rw [a,hn]; exact ⟨ok.2.1,ok.2.2⟩
theorem ZdF (G:Good cl B θ H) {l:Nat} (hl:l<B.n) (o:HO):ExtE B B H (upd H (B.m l) o):=by
 have ne:∀a u,(∀i,i<B.n→B.m i≠a)→H a=some u→upd H (B.m l) o a=some u:=fun a u k e=>by rw [ZS (Ne.symm (k l hl))]; exact e
 exact ⟨⟨Yd _,fun _ _=>rfl,fun i h h'=>absurd h' (YH.mpr h),fun a u e k _=>ne a u k e,fun a e=>by
  by_cases q:a=B.m l
  ·rw [q,zd]; simp
  ·rw [ZS q]; exact e,fun _ h=>.inl h,rfl,rfl⟩,rfl,fun a u _ k e=>ne a u k e⟩
theorem Zdl (G:Good cl B θ H) {l:Nat} (hl:l<B.n) {o:HO} {c:Cell} (k:CellOk cl B (upd H (B.m l) o) (B.m l) c):Good cl B (θ.set l c) (upd H (B.m l) o):=by
 have E:=ZdF G hl o
 refine ⟨by rw [YL]; exact G.len,G.inj,fun i c' e=>?_,G.cF,fun a z=>E.sm a (G.Fs a z),fun a z=>E.sm a (G.oS a z),G.oF,G.kc⟩
 by_cases q:i=l
 ·subst q
  rw [Yg (by rw [G.len]; exact hl)] at e
  cases e; exact k
 ·rw [Yc (Ne.symm q)] at e
  have hi:i<B.n:=by rw [←G.len]; exact (Ya.mp e).1
  exact (G.cel i c' e).ext E.toExtS fun u z=>by rw [ZS (fun z'=>q (G.inj i l hi hl z'))]; exact z
end
inductive R (α:Type) where
 | ok (a:α) (θ:Sto) | ex (c:Str) (θ:Sto) | bad
def R.bind {α β:Type} (r:R α) (k:α→Sto→R β):R β:=match r with
 | .ok a θ=>k a θ
 | .ex c θ=>.ex c θ
 | .bad=>.bad
@[simp] theorem R.bind_ok {α β:Type} (a:α) (θ:Sto) (k:α→Sto→R β):(R.ok a θ).bind k=k a θ:=nr rfl
@[simp] theorem R.bind_bad {α β:Type} (k:α→Sto→R β):(R.bad:R α).bind k=.bad:=nr rfl
inductive Sl where
 | no | val (d:D) | own (xs:List D)
structure Frm (cl:Mo) (B:Bx) (θ:Sto) (ρ:List Sl) (σ:St) (H:Hp):Prop where
 good:Good cl B θ H
 len:ρ.length=σ.length
 val:∀(i:Nat) (d:D),ρ[i]?=some (Sl.val d)→∃v,σ[i]?=some (some v)∧RepV B H d v
 own:∀(i:Nat) (xs:List D),ρ[i]?=some (Sl.own xs)→∃a vs,σ[i]?=some (some (.ref a))∧a∈B.os∧H a=some (.lst vs)∧RepL B H xs vs
 ne:∀(i j:Nat) (xs ys:List D) (a:Addr),i≠j→ρ[i]?=some (Sl.own xs)→ρ[j]?=some (Sl.own ys)→σ[i]?=some (some (.ref a))→σ[j]?≠some (some (.ref a))
theorem Frm.ext {cl:Mo} {B B':Bx} {θ θ':Sto} {ρ:List Sl} {σ:St} {H H':Hp} (F:Frm cl B θ ρ σ H) (E:ExtE B B' H H') (G:Good cl B' θ' H'):Frm cl B' θ' ρ σ H' where
 good:=G
 len:=F.len
 val:=fun i d e=>let ⟨v,h1,h2⟩:=F.val i d e; ⟨v,h1,h2.ext E.toExtS⟩
 own:=fun i xs e=>by
  obtain ⟨a,vs,h1,h2,h3,h4⟩:=F.own i xs e
  exact ⟨a,vs,h1,by rw [E.osE]; exact h2,E.ko a _ h2 (fun i hi z=>(F.good.cF i hi).2 (by rw [z]; exact h2)) h3,h4.ext E.toExtS⟩
 ne:=F.ne
def zB (mg:Str→Option Value) (x:Str):Addr:=match mg x with
 | some (.ref a)=>a
 | _=>0
abbrev _root_.L2.Cx.cl (X:Cx):Mo:=⟨zB X.mg,X.K⟩
def XE (X:Cx) (σ:St) (B:Bx) (H:Hp) (c:Str) (θ':Sto):Prop:=False
theorem XE.trans {X:Cx} {σ:St} {B B':Bx} {H H':Hp} {c:Str} {θ':Sto} (h:XE X σ B H c θ') (E:ExtE B B' H H'):XE X σ B' H' c θ':=h
def wpR (X:Cx) (σ:St) {α β:Type} (Rel:Bx→Hp→α→β→Prop) (B:Bx) (H:Hp) (r:R α) (Q:β→Hp→Prop):Prop:=match r with
 | .ok a θ'=>∀B' H' b,ExtE B B' H H'→Good X.cl B' θ' H'→Rel B' H' a b→Q b H'
 | .ex c θ'=>XE X σ B H c θ'
 | .bad=>False
section
variable {X:Cx} {σ:St} {α β γ δ:Type} {Rel:Bx→Hp→α→β→Prop} {Rel':Bx→Hp→γ→δ→Prop} {B B':Bx} {H H':Hp}
theorem wpR.mono {r:R α} {Q Q':β→Hp→Prop} (h:wpR X σ Rel B H r Q) (hQ:∀b H',Q b H'→Q' b H'):wpR X σ Rel B H r Q':=by
 cases r with
 | ok a θ'=>exact fun B' H' b e g q=>hQ _ _ (h B' H' b e g q)
 | ex c θ'=>exact h
 | bad=>exact h
theorem wpR.trans {r:R α} {Q:β→Hp→Prop} (h:wpR X σ Rel B H r Q) (E:ExtE B B' H H'):wpR X σ Rel B' H' r Q:=by
 cases r with
 | ok a θ'=>exact fun B2 H2 b e g q=>h B2 H2 b (E.trans e) g q
 | ex c θ'=>exact XE.trans (c:=c) (θ':=θ') (σ:=σ) (X:=X) h E
 | bad=>exact h
theorem wpR.bind {r:R α} {k:α→Sto→R γ} {Q:δ→Hp→Prop} (h:wpR X σ Rel' B H (r.bind k) Q) :
  wpR X σ Rel B H r (fun b H1=>∃B1 θ1 a,ExtE B B1 H H1∧Good X.cl B1 θ1 H1∧Rel B1 H1 a b∧wpR X σ Rel' B1 H1 (k a θ1) Q):=by
 cases r with
 | ok a θ'=>exact fun B1 H1 b E g q=>⟨B1,θ',a,E,g,q,wpR.trans h E⟩
 | ex c θ'=>exact h
 | bad=>exact h
end
abbrev EM:=List Sl→Sto→R D
abbrev TMr:=List Sl→Sto→R Bool
abbrev AM:=List Sl→Sto→R (List D)
def EqB (_:Bx) (_:Hp) (a b:Bool):Prop:=a=b
def tM (X:Cx) (f:EM):TE:=fun σ H Q=>∃B θ ρ,Frm X.cl B θ ρ σ H∧wpR X σ RepV B H (f ρ θ) Q
def tMT (X:Cx) (f:TMr):TT:=fun σ H Q=>∃B θ ρ,Frm X.cl B θ ρ σ H∧wpR X σ EqB B H (f ρ θ) Q
def tMA (X:Cx) (f:AM):TA:=fun σ H Q=>∃B θ ρ,Frm X.cl B θ ρ σ H∧wpR X σ RepL B H (f ρ θ) Q
def ME (X:Cx) (e:Expr) (f:EM):Prop:=PE X e (tM X f)
def MT (X:Cx) (e:Expr) (f:TMr):Prop:=PT X e (tMT X f)
def MW (X:Cx) (e:Expr) (f:TMr):Prop:=PW X e (tMT X f)
def MA (X:Cx) (es:List Expr) (f:AM):Prop:=PA X es (tMA X f)
section
variable {X:Cx} {σ:St} {H:Hp} {γ δ:Type} {Rel':Bx→Hp→γ→δ→Prop}
theorem ZJ {f:EM} {Q Q':VK} (h:tM X f σ H Q) (hQ:∀v H',Q v H'→Q' v H'):tM X f σ H Q':=let ⟨B,θ,ρ,F,w⟩:=h; ⟨B,θ,ρ,F,w.mono hQ⟩
theorem Zd0 {f:TMr} {Q Q':Bool→Hp→Prop} (h:tMT X f σ H Q) (hQ:∀v H',Q v H'→Q' v H'):tMT X f σ H Q':=let ⟨B,θ,ρ,F,w⟩:=h; ⟨B,θ,ρ,F,w.mono hQ⟩
theorem Zbi {f:AM} {Q Q':List V→Hp→Prop} (h:tMA X f σ H Q) (hQ:∀v H',Q v H'→Q' v H'):tMA X f σ H Q':=let ⟨B,θ,ρ,F,w⟩:=h; ⟨B,θ,ρ,F,w.mono hQ⟩
variable {B:Bx} {θ:Sto} {ρ:List Sl}
theorem step {f:EM} {k:D→Sto→R γ} {Q:δ→Hp→Prop} (F:Frm X.cl B θ ρ σ H) (h:wpR X σ Rel' B H ((f ρ θ).bind k) Q) :
  tM X f σ H (fun v H1=>∃B1 θ1 d,ExtE B B1 H H1∧Frm X.cl B1 θ1 ρ σ H1∧RepV B1 H1 d v∧wpR X σ Rel' B1 H1 (k d θ1) Q):=
 ⟨B,θ,ρ,F,(wpR.bind (Rel:=RepV) h).mono fun v H1 ⟨B1,θ1,d,E,G,r,w⟩=>⟨B1,θ1,d,E,F.ext E G,r,w⟩⟩
theorem ZlK {f:TMr} {k:Bool→Sto→R γ} {Q:δ→Hp→Prop} (F:Frm X.cl B θ ρ σ H) (h:wpR X σ Rel' B H ((f ρ θ).bind k) Q) :
  tMT X f σ H (fun c H1=>∃B1 θ1,ExtE B B1 H H1∧Frm X.cl B1 θ1 ρ σ H1∧wpR X σ Rel' B1 H1 (k c θ1) Q):=
 ⟨B,θ,ρ,F,(wpR.bind (Rel:=EqB) h).mono fun v H1 ⟨B1,θ1,d,E,G,r,w⟩=>by cases (show d=v from r); exact ⟨B1,θ1,E,F.ext E G,w⟩⟩
theorem Zf3 {f:AM} {k:List D→Sto→R γ} {Q:δ→Hp→Prop} (F:Frm X.cl B θ ρ σ H) (h:wpR X σ Rel' B H ((f ρ θ).bind k) Q) :
  tMA X f σ H (fun v H1=>∃B1 θ1 d,ExtE B B1 H H1∧Frm X.cl B1 θ1 ρ σ H1∧RepL B1 H1 d v∧wpR X σ Rel' B1 H1 (k d θ1) Q):=
 ⟨B,θ,ρ,F,(wpR.bind (Rel:=RepL) h).mono fun v H1 ⟨B1,θ1,d,E,G,r,w⟩=>⟨B1,θ1,d,E,F.ext E G,r,w⟩⟩
theorem ZR {α β:Type} {Rel:Bx→Hp→α→β→Prop} {a:α} {b:β} {Q:β→Hp→Prop} (G:Good X.cl B θ H) (r:Rel B H a b) (h:wpR X σ Rel B H (.ok a θ) Q):Q b H:=h B H b (ExtE.refl B H) G r
end
theorem PE.imp {X:Cx} {e:Expr} {t t':TE} (h:PE X e t) (hi:∀σ H Q,t' σ H Q→t σ H Q):PE X e t':=fun pins s σ H Q I q=>h pins s σ H Q I (hi σ H Q q)
theorem PT.imp {X:Cx} {e:Expr} {t t':TT} (h:PT X e t) (hi:∀σ H Q,t' σ H Q→t σ H Q):PT X e t':=fun pins s σ H Q I q=>h pins s σ H Q I (hi σ H Q q)
theorem PW.imp {X:Cx} {e:Expr} {t t':TT} (h:PW X e t) (hi:∀σ H Q,t' σ H Q→t σ H Q):PW X e t':=fun wh pins s σ H Q I q=>h wh pins s σ H Q I (hi σ H Q q)
theorem PA.imp {X:Cx} {es:List Expr} {t t':TA} (h:PA X es t) (hi:∀σ H Q,t' σ H Q→t σ H Q):PA X es t':=fun pos pins s σ H Q I q=>h pos pins s σ H Q I (hi σ H Q q)
theorem OpR.imp {X:Cx} {f:Value→Value→Sem Value} {r r':R2} (h:OpR X f r) (hi:∀x y H Q,r' x y H Q→r x y H Q):OpR X f r':=fun pins s σ H x y v u Q I rx ry q=>h pins s σ H x y v u Q I rx ry (hi x y H Q q)
theorem IxR.imp {X:Cx} {r r':R2} (h:IxR X r) (hi:∀x y H Q,r' x y H Q→r x y H Q):IxR X r':=fun pins s σ H x y v u Q v1 s1 I rx ry q=>h pins s σ H x y v u Q v1 s1 I rx ry (hi _ _ _ _ q)
theorem CallR.imp {X:Cx} {f:Value} {r r':List V→Hp→VK→Prop} (h:CallR X f r) (hi:∀xs H Q,r' xs H Q→r xs H Q):CallR X f r':=fun pins s σ H xs us Q I r q=>h pins s σ H xs us Q I r (hi _ _ _ q)
end L2.MM
namespace L2.MM
open PySem PySem.Spec PyProof.Rows
noncomputable section
variable {X:Cx}
def Zbb (θ:Sto):D→Option (List D)
 | .lst xs=>some xs
 | .ref l=>match θ[l]? with
  | some (.lst xs)=>some xs
  | _=>none
 | _=>none
def seqOf (θ:Sto):D→Option (List D)
 | .tup xs=>some xs
 | .scr ns=>some (ns.map D.int)
 | d=>Zbb θ d
theorem ZaH {cl:Mo} {B:Bx} {θ:Sto} {H:Hp} (G:Good cl B θ H) {d:D} {v:V} {xs:List D} (r:RepV B H d v) (h:Zbb θ d=some xs):∃a vs,v=.ref a∧H a=some (.lst vs)∧RepL B H xs vs:=by
 cases d with
 | lst ys=>
  obtain ⟨a,vs,e,h1,_,h2⟩:=r
  cases h
  exact ⟨a,vs,e,h1,h2⟩
 | ref l=>
  obtain ⟨hl,rfl⟩:=r
  simp only [Zbb] at h
  split at h
  ·rename_i ys e
   cases h
   obtain ⟨vs,q1,q2⟩:=G.cel l _ e
   exact ⟨_,vs,rfl,q1,q2⟩
  ·cases h
 | _=>cases h
theorem Zdd {cl:Mo} {B:Bx} {θ:Sto} {H:Hp} (G:Good cl B θ H) {d:D} {v:V} {xs:List D} (r:RepV B H d v) (h:seqOf θ d=some xs) :
  ∃a vs,v=.ref a∧(SqL cl.K H a vs∨SqT cl.K H a vs)∧RepL B H xs vs:=by
 cases d with
 | tup ys=>
  obtain ⟨a,vs,e,h1,_,h2⟩:=r
  cases h
  exact ⟨a,vs,e,.inr (SqT.of h1),h2⟩
 | scr ns=>
  obtain ⟨a,e,h1⟩:=r
  cases h
  refine ⟨a,ns.map V.int,e,.inl ?_,RepL.map (f:=D.int) (g:=V.int) (fun _=>rfl) ns⟩
  rcases h1 with ⟨o,h1,_⟩ | h1
  ·exact .inl (.inr ⟨o,h1⟩)
  ·exact .inr (G.kc a ns h1)
 | lst ys=>
  obtain ⟨a,vs,e,h1,h2⟩:=ZaH G r (show Zbb θ (.lst ys)=some xs from h)
  exact ⟨a,vs,e,.inl (SqL.of h1),h2⟩
 | ref l=>
  obtain ⟨a,vs,e,h1,h2⟩:=ZaH G r (show Zbb θ (.ref l)=some xs from h)
  exact ⟨a,vs,e,.inl (SqL.of h1),h2⟩
 | _=>cases h
abbrev BIG:Nat:=100000
theorem zM {n:Nat} (h:n≤BIG):n≤sizeLine:=Yt h (by rw [sizeLine_eq]; decide)
def Zd (i:Nat):EM:=fun ρ θ=>match ρ[i]? with
 | some (Sl.val d)=>.ok d θ
 | _=>.bad
def mC (d:D):EM:=fun _ θ=>.ok d θ
section
variable {a b c e:Expr} {pos:Pos} {fa fb fc:EM} {ft fu:TMr}
theorem Za (i:Nat) {x:Str} {pos:Pos} (hN:X.N[i]?=some x:=by rfl) (hv:Vis X.env.scope x:=by first | exact Or.inl rfl | exact Or.inr (Or.inl rfl) | exact Or.inr (Or.inr rfl))
  (hd:(x == ("__debug__":Str))=false:=by decide) (hcd:(x == ("__classdict__":Str))=false:=by decide):ME X (.Name x pos) (Zd i):=by
 refine PE.imp (Zok hN hv hd hcd) fun σ H Q h=>?_
 obtain ⟨B,θ,ρ,F,w⟩:=h
 unfold Zd at w
 split at w
 ·rename_i d e
  obtain ⟨v,h1,h2⟩:=F.val i d e
  exact ⟨v,h1,ZR F.good h2 w⟩
 ·exact w.elim
theorem Znb {d:D} {v:V} (h:PE X e (tC v)) (r:∀B H,RepV B H d v):ME X e (mC d):=by
 refine PE.imp h fun σ H Q h=>?_
 obtain ⟨B,θ,ρ,F,w⟩:=h
 exact ZR F.good (r B H) w
theorem Zk {i j pos}:ME X (.Constant (.int i) j pos) (mC (.int i)):=Znb ZuN fun _ _=>rfl
theorem zr {i j pos}:ME X (.Constant (.bool i) j pos) (mC (.bl i)):=Znb ZwC fun _ _=>rfl
theorem zJ {j pos}:ME X (.Constant .none j pos) (mC .non):=Znb ZuL fun _ _=>rfl
theorem ZoI {i j pos}:ME X (.Constant (.str i) j pos) (mC (.str i)):=Znb ZuJ fun _ _=>rfl
theorem Zl {x:Str} {i:Int} (h:∃t,X.mg x=some (.int i t)) (hg:Gl X x:=by rfl) (hd:(x == ("__debug__":Str))=false:=by decide):ME X (.Name x pos) (mC (.int i)):=Znb (Zrr h hg hd) fun _ _=>rfl
theorem Zx {x:Str} {y:Str} (h:∃t,X.mg x=some (.str y t)) (hg:Gl X x:=by rfl) (hd:(x == ("__debug__":Str))=false:=by decide):ME X (.Name x pos) (mC (.str y)):=by
 obtain ⟨t,h⟩:=h
 exact Znb (ZlS hg h (v:=.str y) ⟨t,rfl⟩ hd) fun _ _=>rfl
abbrev OM:=D→D→Sto→R D
def mOp (g:OM) (fa fb:EM):EM:=fun ρ θ=>(fa ρ θ).bind fun x θ=>(fb ρ θ).bind fun y θ=>g x y θ
def rM (X:Cx) (g:OM):R2:=fun x y H Q=>∃σ B θ d e,Good X.cl B θ H∧RepV B H d x∧RepV B H e y∧wpR X σ RepV B H (g d e θ) Q
theorem ZlH {g:OM} (σ:St) (H:Hp) (Q:VK) (h:tM X (mOp g fa fb) σ H Q):tOp (rM X g) (tM X fa) (tM X fb) σ H Q:=by
 obtain ⟨B,θ,ρ,F,w⟩:=h
 refine ZJ (step F w) ?_
 rintro x' H1 ⟨B1,θ1,x,E1,F1,rx,w1⟩
 refine ZJ (step F1 w1) ?_
 rintro y' H2 ⟨B2,θ2,y,E2,F2,ry,w2⟩
 exact ⟨σ,B2,θ2,x,y,F2.good,rx.ext E2.toExtS,ry,w2⟩
theorem Zy {op:Operator} {g:OM} (ho:OpR X (binaryOp op) (rM X g)) (ha:ME X a fa) (hb:ME X b fb):ME X (.BinOp a op b pos) (mOp g fa fb):=PE.imp (ZwA ho ha hb) ZlH
theorem z7 {op:CmpOp} {g:OM} (ho:OpR X (compareOp op) (rM X g)) (ha:ME X a fa) (hb:ME X b fb) (hm:behindInMarks op b=false:=by first | exact ZoD _ | rfl):ME X (.Compare a [op] [b] pos) (mOp g fa fb):=PE.imp (Zrt ho ha hb hm) ZlH
theorem ZF {g:OM} (hr:IxR X (rM X g)) (ha:ME X a fa) (hb:ME X b fb) (hs:ZmC b:=by intro _ _; rfl):ME X (.Subscript a b pos) (mOp g fa fb):=PE.imp (ZwB hr ha hb hs) ZlH
def ZD (f:EM):TMr:=fun ρ θ=>(f ρ θ).bind fun x θ=>match x with
 | .bl k=>.ok k θ
 | _=>.bad
theorem ZhP {f:EM} (σ:St) (H:Hp) (Q:Bool→Hp→Prop) (h:tMT X (ZD f) σ H Q):tM X f σ H (fun v H1=>∃k,v=.bl k∧Q k H1):=by
 obtain ⟨B,θ,ρ,F,w⟩:=h
 refine ZJ (step F w) ?_
 rintro v H1 ⟨B1,θ1,x,E1,F1,rx,w1⟩
 cases x with
 | bl k=>exact ⟨k,rx,ZR (Rel:=EqB) F1.good rfl w1⟩
 | _=>exact w1.elim
theorem ZC {op:CmpOp} {g:OM} (ho:OpR X (compareOp op) (rM X g)) (ha:ME X a fa) (hb:ME X b fb) (hm:behindInMarks op b=false:=by first | exact ZoD _ | rfl):MT X (.Compare a [op] [b] pos) (ZD (mOp g fa fb)):=by
 refine PT.imp (Zri ho ha hb hm) fun σ H Q h=>?_
 have q:=ZhP σ H Q h
 exact ZlH σ H _ q
def ZgU (g g':OM) (fa fb fc:EM):EM:=fun ρ θ=>(fa ρ θ).bind fun x θ=>(fb ρ θ).bind fun y θ=>(g x y θ).bind fun z θ=>match z with
 | .bl true=>(fc ρ θ).bind fun w θ=>g' y w θ
 | .bl false=>.ok (.bl false) θ
 | _=>.bad
theorem ZnU {g g':OM} (σ:St) (H:Hp) (Q:VK) (h:tM X (ZgU g g' fa fb fc) σ H Q):ZnV (rM X g) (rM X g') (tM X fa) (tM X fb) (tM X fc) σ H Q:=by
 obtain ⟨B,θ,ρ,F,w⟩:=h
 refine ZJ (step F w) ?_
 rintro x' H1 ⟨B1,θ1,x,E1,F1,rx,w1⟩
 refine ZJ (step F1 w1) ?_
 rintro y' H2 ⟨B2,θ2,y,E2,F2,ry,w2⟩
 refine ⟨σ,B2,θ2,x,y,F2.good,rx.ext E2.toExtS,ry,(wpR.bind (Rel:=RepV) w2).mono ?_⟩
 rintro z' H3 ⟨B3,θ3,z,E3,G3,rz,w3⟩
 have F3:=F2.ext E3 G3
 cases z with
 | bl k=>
  refine ⟨k,rz,?_⟩
  cases k with
  | true=>
   rw [if_pos rfl]
   refine ZJ (step F3 w3) ?_
   rintro w' H4 ⟨B4,θ4,u,E4,F4,ru,w4⟩
   exact ⟨σ,B4,θ4,y,u,F4.good,ry.ext (E3.trans E4).toExtS,ru,w4⟩
  | false=>
   rw [if_neg Yi]
   exact ZR G3 (show RepV B3 H3 (.bl false) (.bl false) from rfl) w3
 | _=>exact w3.elim
theorem ZhY {op op':CmpOp} {g g':OM} (ho:OpR X (compareOp op) (rM X g)) (ho':OpR X (compareOp op') (rM X g')) (ha:ME X a fa) (hb:ME X b fb) (hc:ME X c fc)
  (hm:lastMarks [op,op'] [b,c]=false:=by with_unfolding_all rfl):ME X (.Compare a [op,op'] [b,c] pos) (ZgU g g' fa fb fc):=PE.imp (Zot ho ho' ha hb hc hm) ZnU
def Zhn (θ:Sto):D→Option Bool
 | .non=>some false
 | .bl b=>some b
 | .int i=>some (i != 0)
 | .str x=>if x.length≤BIG then some ((x.length:Int) != 0) else none
 | d=>(seqOf θ d).map fun xs=>!xs.isEmpty
def zR (f:EM):TMr:=fun ρ θ=>(f ρ θ).bind fun x θ=>match Zhn θ x with
 | some k=>.ok k θ
 | none=>.bad
theorem RepL.emp {B:Bx} {H:Hp} {xs:List D} {vs:List V} (r:RepL B H xs vs):vs.isEmpty=xs.isEmpty:=by
 cases xs with
 | nil=>cases (show vs=[] from r); rfl
 | cons _ _=>obtain ⟨v,q,rfl,_,_⟩:=r; rfl
theorem ZlB {cl:Mo} {B:Bx} {θ:Sto} {H:Hp} (G:Good cl B θ H) {d:D} {v:V} {k:Bool} (r:RepV B H d v) (h:Zhn θ d=some k):TruV cl.K v H k:=by
 have sq:∀xs,seqOf θ d=some xs→((seqOf θ d).map fun xs=>!xs.isEmpty)=some k→TruV cl.K v H k:=fun xs e q=>by
  rw [e] at q
  cases q
  obtain ⟨a,vs,rfl,h1,h2⟩:=Zdd G r e
  show TruV cl.K (V.ref a) H (!xs.isEmpty)
  rw [←h2.emp]
  rcases h1 with h1 | h1
  ·exact .inl ⟨vs,h1,rfl⟩
  ·exact .inr (.inl ⟨vs,h1,rfl⟩)
 cases d with
 | non=>cases (show v=.non from r); cases h; rfl
 | bl b=>cases (show v=.bl b from r); cases h; rfl
 | int i=>cases (show v=.int i from r); cases h; rfl
 | str x=>
  cases (show v=.str x from r)
  simp only [Zhn] at h
  split at h
  ·rename_i hz; cases h; exact ⟨zM hz,rfl⟩
  ·cases h
 | ty n=>simp [Zhn,seqOf,Zbb] at h
 | scr ns=>exact sq _ rfl h
 | tup xs=>exact sq _ rfl h
 | lst xs=>exact sq _ rfl h
 | ref l=>
  cases e:seqOf θ (.ref l) with
  | none=>simp only [Zhn,e] at h; cases h
  | some xs=>exact sq xs e h
theorem ZB (ha:ME X a fa) (he:∀whole,isTrue a X.env whole=(do let v ←whole; standAt a.pos; holding [v] (truthy v)):=by intro _; rfl):MT X a (zR fa):=by
 refine PT.imp (Zoc ha he) fun σ H Q h=>?_
 obtain ⟨B,θ,ρ,F,w⟩:=h
 refine ZJ (step F w) ?_
 rintro v H1 ⟨B1,θ1,x,E1,F1,rx,w1⟩
 cases e:Zhn θ1 x with
 | none=>rw [e] at w1; exact w1.elim
 | some k=>rw [e] at w1; exact ⟨k,ZlB F1.good rx e,ZR (Rel:=EqB) F1.good rfl w1⟩
def ZfK (f g:TMr):TMr:=fun ρ θ=>(f ρ θ).bind fun k θ=>if k=true then g ρ θ else .ok false θ
def mOr (f g:TMr):TMr:=fun ρ θ=>(f ρ θ).bind fun k θ=>if k=true then .ok true θ else g ρ θ
def Zeb (f:TMr):TMr:=fun ρ θ=>(f ρ θ).bind fun k θ=>.ok (!k) θ
theorem ZaV (ha:MT X a ft):MW X (.BoolOp .And [a] pos) ft:=Zrg ha
theorem ZaG (ha:MT X a ft):MW X (.BoolOp .Or [a] pos) ft:=Zux ha
theorem ZcN {rest:List Expr} (ha:MT X a ft) (hb:MW X (.BoolOp .And (b::rest) pos) fu):MW X (.BoolOp .And (a::b::rest) pos) (ZfK ft fu):=by
 refine PW.imp (Zuy ha hb) fun σ H Q h=>?_
 obtain ⟨B,θ,ρ,F,w⟩:=h
 refine Zd0 (ZlK F w) ?_
 rintro k H1 ⟨B1,θ1,E1,F1,w1⟩
 cases k with
 | true=>rw [if_pos rfl] at w1 ⊢; exact ⟨B1,θ1,ρ,F1,w1⟩
 | false=>rw [if_neg Yi] at w1 ⊢; exact ZR (Rel:=EqB) F1.good rfl w1
theorem Zd8 {rest:List Expr} (ha:MT X a ft) (hb:MW X (.BoolOp .Or (b::rest) pos) fu):MW X (.BoolOp .Or (a::b::rest) pos) (mOr ft fu):=by
 refine PW.imp (Zww ha hb) fun σ H Q h=>?_
 obtain ⟨B,θ,ρ,F,w⟩:=h
 refine Zd0 (ZlK F w) ?_
 rintro k H1 ⟨B1,θ1,E1,F1,w1⟩
 cases k with
 | true=>rw [if_pos rfl] at w1 ⊢; exact ZR (Rel:=EqB) F1.good rfl w1
 | false=>rw [if_neg Yi] at w1 ⊢; exact ⟨B1,θ1,ρ,F1,w1⟩
theorem MW.mt {e:Expr} {f:TMr} (h:MW X e f):MT X e f:=PW.pt h
theorem Za7 (ha:MT X a ft):MT X (.UnaryOp .Not a pos) (Zeb ft):=by
 refine PT.imp (Zuz ha) fun σ H Q h=>?_
 obtain ⟨B,θ,ρ,F,w⟩:=h
 refine Zd0 (ZlK F w) ?_
 rintro k H1 ⟨B1,θ1,E1,F1,w1⟩
 exact ZR (Rel:=EqB) F1.good rfl w1
def ZcI (f g:EM):EM:=fun ρ θ=>(f ρ θ).bind fun x θ=>match x with
 | .bl true=>g ρ θ
 | .bl false=>.ok (.bl false) θ
 | _=>.bad
def Znc (f g:EM):EM:=fun ρ θ=>(f ρ θ).bind fun x θ=>match x with
 | .bl true=>.ok (.bl true) θ
 | .bl false=>g ρ θ
 | _=>.bad
def ZfB (f:EM):EM:=fun ρ θ=>(f ρ θ).bind fun x θ=>match Zhn θ x with
 | some k=>.ok (.bl (!k)) θ
 | none=>.bad
theorem Zdi {op} (h:ME X a fa):ME X (.BoolOp op [a] pos) fa:=ZuK h
theorem ZbR {rest:List Expr} (ha:ME X a fa) (hb:ME X (.BoolOp .And (b::rest) pos) fb):ME X (.BoolOp .And (a::b::rest) pos) (ZcI fa fb):=by
 refine PE.imp (ZuP ha hb) fun σ H Q h=>?_
 obtain ⟨B,θ,ρ,F,w⟩:=h
 refine ZJ (step F w) ?_
 rintro v H1 ⟨B1,θ1,x,E1,F1,rx,w1⟩
 cases x with
 | bl k=>
  refine ⟨k,rx,?_⟩
  cases k with
  | true=>rw [if_pos rfl]; exact ⟨B1,θ1,ρ,F1,w1⟩
  | false=>rw [if_neg Yi]; exact ZR F1.good (show RepV B1 H1 (.bl false) (.bl false) from rfl) w1
 | _=>exact w1.elim
theorem Zl4 {rest:List Expr} (ha:ME X a fa) (hb:ME X (.BoolOp .Or (b::rest) pos) fb):ME X (.BoolOp .Or (a::b::rest) pos) (Znc fa fb):=by
 refine PE.imp (Zwz ha hb) fun σ H Q h=>?_
 obtain ⟨B,θ,ρ,F,w⟩:=h
 refine ZJ (step F w) ?_
 rintro v H1 ⟨B1,θ1,x,E1,F1,rx,w1⟩
 cases x with
 | bl k=>
  refine ⟨k,rx,?_⟩
  cases k with
  | true=>rw [if_pos rfl]; exact ZR F1.good (show RepV B1 H1 (.bl true) (.bl true) from rfl) w1
  | false=>rw [if_neg Yi]; exact ⟨B1,θ1,ρ,F1,w1⟩
 | _=>exact w1.elim
theorem Zle (ha:ME X a fa):ME X (.UnaryOp .Not a pos) (ZfB fa):=by
 intro pins s σ H Q I h
 obtain ⟨B,θ,ρ,F,w⟩:=h
 refine UnaryOp_ (thn (ha pins s σ H _ I (step F w)) fun v s1 ⟨x,H1,I1,r1,q1⟩=>?_)
 obtain ⟨B1,θ1,d,E1,F1,rx,w1⟩:=q1
 cases e:Zhn θ1 d with
 | none=>rw [e] at w1; exact w1.elim
 | some k=>
  rw [e] at w1
  refine not_of (thn (ZnJ pins s1 σ H1 x v (fun k' H'=>Q (.bl (!k')) H') I1 r1 ⟨k,ZlB F1.good rx e,ZR F1.good (show RepV B1 H1 (.bl (!k)) (.bl (!k)) from rfl) w1⟩) fun b s2 ⟨H2,I2,q2⟩=>?_)
  exact ⟨.bl (!b),H2,I2,rfl,q2⟩
def ZfJ (t:TMr) (f g:EM):EM:=fun ρ θ=>(t ρ θ).bind fun k θ=>if k=true then f ρ θ else g ρ θ
theorem Zcu {c:Expr} (hc:MT X c ft) (ha:ME X a fa) (hb:ME X b fb):ME X (.IfExp c a b pos) (ZfJ ft fa fb):=by
 refine PE.imp (Zon hc ha hb) fun σ H Q h=>?_
 obtain ⟨B,θ,ρ,F,w⟩:=h
 refine Zd0 (ZlK F w) ?_
 rintro k H1 ⟨B1,θ1,E1,F1,w1⟩
 cases k with
 | true=>rw [if_pos rfl] at w1 ⊢; exact ⟨B1,θ1,ρ,F1,w1⟩
 | false=>rw [if_neg Yi] at w1 ⊢; exact ⟨B1,θ1,ρ,F1,w1⟩
def Zi:AM:=fun _ θ=>.ok [] θ
def Zc (f:EM) (g:AM):AM:=fun ρ θ=>(f ρ θ).bind fun x θ=>(g ρ θ).bind fun xs θ=>.ok (x::xs) θ
theorem Zf:MA X [] Zi:=PA.imp ZfG fun σ H Q h=>by
 obtain ⟨B,θ,ρ,F,w⟩:=h
 exact ZR (Rel:=RepL) F.good (show RepL B H [] [] from rfl) w
theorem Zb {es:List Expr} {fs:AM} (ha:ME X e fa) (hr:MA X es fs) (hs:starEach (e::es) X.env=(false,eval e X.env)::starEach es X.env:=by rfl):MA X (e::es) (Zc fa fs):=by
 refine PA.imp (Zer ha hr hs) fun σ H Q h=>?_
 obtain ⟨B,θ,ρ,F,w⟩:=h
 refine ZJ (step F w) ?_
 rintro x' H1 ⟨B1,θ1,x,E1,F1,rx,w1⟩
 refine Zbi (Zf3 F1 w1) ?_
 rintro xs' H2 ⟨B2,θ2,xs,E2,F2,rxs,w2⟩
 exact ZR (Rel:=RepL) F2.good (show RepL B2 H2 (x::xs) (x'::xs') from ⟨x',xs',rfl,rx.ext E2.toExtS,rxs⟩) w2
def ZbA (f:AM):EM:=fun ρ θ=>(f ρ θ).bind fun xs θ=>if xs.length≤BIG then .ok (.tup xs) θ else .bad
def ZcO (f:AM):EM:=fun ρ θ=>(f ρ θ).bind fun xs θ=>if xs.length≤BIG then .ok (.lst xs) θ else .bad
def Zl8 (f:AM):EM:=fun ρ θ=>(f ρ θ).bind fun xs θ=>if xs.length≤BIG then .ok (.ref θ.length) (θ++[.lst xs]) else .bad
theorem ZhI {σ:St} {B:Bx} {θ:Sto} {H:Hp} {xs:List D} {vs:List V} {Q:VK} (G:Good X.cl B θ H) (r:RepL B H xs vs) (w:wpR X σ RepV B H (.ok (.tup xs) θ) Q):∀p,H p=none→Q (.ref p) (upd H p (.tup vs)):=
 fun p hp=>w B _ _ (Zc2 G hp _) (Ze7 G hp _) (Zrc G hp r)
theorem ZfF {σ:St} {B:Bx} {θ:Sto} {H:Hp} {xs:List D} {vs:List V} {Q:VK} (G:Good X.cl B θ H) (r:RepL B H xs vs) (w:wpR X σ RepV B H (.ok (.lst xs) θ) Q):∀p,H p=none→Q (.ref p) (upd H p (.lst vs)):=
 fun p hp=>w B _ _ (Zc2 G hp _) (Ze7 G hp _) (Zrd G hp r)
theorem ZqR {σ:St} {B:Bx} {θ:Sto} {H:Hp} {xs:List D} {vs:List V} {Q:VK} (G:Good X.cl B θ H) (r:RepL B H xs vs) (w:wpR X σ RepV B H (.ok (.ref θ.length) (θ++[.lst xs])) Q):∀p,H p=none→Q (.ref p) (upd H p (.lst vs)):=
 fun p hp=>w (B.push p) _ _ (Zec G hp _) (Zfq G hp ⟨vs,zd,r.ext (Zec G hp _).toExtS⟩) ⟨by rw [G.len]; exact YD _,by rw [G.len]; show V.ref p=V.ref (if B.n=B.n then p else B.m B.n); rw [if_pos rfl]⟩
theorem zA {es:List Expr} {fs:AM} {x1} (h:MA X es fs):ME X (.Tuple es x1 pos) (ZbA fs):=by
 refine PE.imp (ZuI h) fun σ H Q h=>?_
 obtain ⟨B,θ,ρ,F,w⟩:=h
 refine Zbi (Zf3 F w) ?_
 rintro xs' H2 ⟨B2,θ2,xs,E2,F2,rxs,w2⟩
 split at w2
 ·rename_i hz
  exact ⟨by rw [rxs.len]; exact zM hz,ZhI F2.good rxs w2⟩
 ·exact w2.elim
theorem Za8 {es:List Expr} {fs:AM} (h:MA X es fs):ME X (.List es pos) (ZcO fs):=by
 refine PE.imp (Zk8 h) fun σ H Q h=>?_
 obtain ⟨B,θ,ρ,F,w⟩:=h
 refine Zbi (Zf3 F w) ?_
 rintro xs' H2 ⟨B2,θ2,xs,E2,F2,rxs,w2⟩
 split at w2
 ·rename_i hz
  exact ⟨by rw [rxs.len]; exact zM hz,ZfF F2.good rxs w2⟩
 ·exact w2.elim
theorem Zl5 {es:List Expr} {fs:AM} (h:MA X es fs):ME X (.List es pos) (Zl8 fs):=by
 refine PE.imp (Zk8 h) fun σ H Q h=>?_
 obtain ⟨B,θ,ρ,F,w⟩:=h
 refine Zbi (Zf3 F w) ?_
 rintro xs' H2 ⟨B2,θ2,xs,E2,F2,rxs,w2⟩
 split at w2
 ·rename_i hz
  exact ⟨by rw [rxs.len]; exact zM hz,ZqR F2.good rxs w2⟩
 ·exact w2.elim
abbrev GM:=List D→Sto→R D
def mCB (g:GM) (f:AM):EM:=fun ρ θ=>(f ρ θ).bind fun xs θ=>g xs θ
def rC (X:Cx) (g:GM):List V→Hp→VK→Prop:=fun xs H Q=>∃σ B θ ds,Good X.cl B θ H∧RepL B H ds xs∧wpR X σ RepV B H (g ds θ) Q
theorem Zsm {g:GM} {fs:AM} (σ:St) (H:Hp) (Q:VK) (h:tM X (mCB g fs) σ H Q):tCB (rC X g) (tMA X fs) σ H Q:=by
 obtain ⟨B,θ,ρ,F,w⟩:=h
 refine Zbi (Zf3 F w) ?_
 rintro xs' H2 ⟨B2,θ2,xs,E2,F2,rxs,w2⟩
 exact ⟨σ,B2,θ2,xs,F2.good,rxs,w2⟩
theorem zp {x:Str} {id:String} {p:Pos} {es:List Expr} {fs:AM} {g:GM} (hc:CallR X (.builtin id) (rC X g)) (hm:X.mg x=none) (hv:bootBuiltins x=some (.builtin id)) (ha:MA X (e::es) fs) (hg:Gl X x:=by rfl) (hn:x≠"__name__":=by decide) (hdb:(x == ("__debug__":Str))=false:=by decide)
  (he:starEach (e::es) X.env=(false,eval e X.env)::starEach es X.env:=by rfl) (hpl:(backTo pos (starEach es X.env)).any (·.1)=false:=by rfl):ME X (.Call (.Name x p) (e::es) [] pos) (mCB g fs):=
 PE.imp (Zov hc hg hm hv ha hn hdb he hpl) Zsm
theorem ZgT {x:Str} {T:String} {p:Pos} {es:List Expr} {fs:AM} {g:GM} (hc:CallR X (.type T) (rC X g)) (hm:X.mg x=none) (hv:bootBuiltins x=some (.type T)) (ha:MA X (e::es) fs) (hg:Gl X x:=by rfl) (hn:x≠"__name__":=by decide) (hdb:(x == ("__debug__":Str))=false:=by decide)
  (he:starEach (e::es) X.env=(false,eval e X.env)::starEach es X.env:=by rfl) (hpl:(backTo pos (starEach es X.env)).any (·.1)=false:=by rfl):ME X (.Call (.Name x p) (e::es) [] pos) (mCB g fs):=
 PE.imp (Zm1 hc hg hm hv ha hn hdb he hpl) Zsm
end
end
end L2.MM
namespace L2.MM
open PySem PySem.Spec PyProof.Rows PySem.SeqAt
noncomputable section
variable {X:Cx}
section
open Classical in
def opI (C:Int→Int→Prop) (g:Int→Int→D):OM:=fun x y θ=>match x,y with
 | .int i,.int j=>if C i j then .ok (g i j) θ else .bad
 | _,_=>.bad
open Classical in
@[simp] theorem ZxH (C:Int→Int→Prop) (g:Int→Int→D) (i j:Int) (θ:Sto):opI C g (.int i) (.int j) θ=if C i j then .ok (g i j) θ else .bad:=nr rfl
open Classical in
theorem Ze3 {f:Value→Value→Sem Value} {C:Int→Int→Prop} {g:Int→Int→D} {gV:Int→Int→V} (h:OpR X f (rI C gV)) (r:∀B H i j,RepV B H (g i j) (gV i j)):OpR X f (rM X (opI C g)):=by
 refine OpR.imp h fun x y H Q q=>?_
 obtain ⟨σ,B,θ,d,e,G,rd,re,w⟩:=q
 unfold opI at w
 split at w
 ·rename_i i j
  split at w
  ·rename_i hc
   exact ⟨i,j,rd,re,hc,ZR G (r B H i j) w⟩
  ·exact w.elim
 ·exact w.elim
theorem ZiS {f:Value→Value→Sem Value} {g:Int→Int→V} (h:OpR X f (rI0 g)):OpR X f (rI (fun _ _=>True) g):=OpR.imp h fun x y H Q ⟨i,j,a,b,_,q⟩=>⟨i,j,a,b,q⟩
abbrev Zdc:OM:=opI (fun _ _=>True) fun i j=>.int (i-j)
abbrev ZjL:OM:=opI (fun _ j=>0<j∧j<18446744073709551616) fun i j=>.int (i/j)
abbrev Zbo:OM:=opI (fun _ j=>0<j) fun i j=>.int (i % j)
abbrev Zxn:OM:=opI (fun _ _=>True) fun i j=>.int (Builtin.bitAnd i j)
abbrev ltM:OM:=opI (fun _ _=>True) fun i j=>.bl (decide (i<j))
abbrev leM:OM:=opI (fun _ _=>True) fun i j=>.bl (decide (i≤j))
abbrev gtM:OM:=opI (fun _ _=>True) fun i j=>.bl (decide (j<i))
abbrev geM:OM:=opI (fun _ _=>True) fun i j=>.bl (decide (j≤i))
theorem Zd7:OpR X (binaryOp .Sub) (rM X Zdc):=Ze3 (ZiS ZuR) fun _ _ _ _=>rfl
theorem ZiZ:OpR X (binaryOp .FloorDiv) (rM X ZjL):=Ze3 (OpR.imp Zow fun x y H Q ⟨i,j,a,b,c,q⟩=>⟨i,j,a,b,⟨c.1,by
 have h:j.natAbs<2 ^ 64:=by have:=c.1; have:=c.2; omega
 have h0:j.natAbs≠0:=by have:=c.1; omega
 have:=(Nat.log2_lt h0).mpr h
 omega⟩,q⟩) fun _ _ _ _=>rfl
theorem ZbI:OpR X (binaryOp .Mod) (rM X Zbo):=Ze3 ZuU fun _ _ _ _=>rfl
theorem ZwJ:OpR X (binaryOp .BitAnd) (rM X Zxn):=Ze3 (ZiS ZuY) fun _ _ _ _=>rfl
theorem ZAj:OpR X (compareOp .Lt) (rM X ltM):=Ze3 (ZiS ZwF) fun _ _ i j=>by show _=V.bl _; congr
theorem Zk9:OpR X (compareOp .LtE) (rM X leM):=Ze3 (ZiS ZwG) fun _ _ i j=>by show _=V.bl _; congr
theorem Zlb:OpR X (compareOp .Gt) (rM X gtM):=Ze3 (ZiS ZwH) fun _ _ i j=>by show _=V.bl _; congr
theorem Zry:OpR X (compareOp .GtE) (rM X geM):=Ze3 (ZiS ZwI) fun _ _ i j=>by show _=V.bl _; congr
def za:OM:=fun x y θ=>match x,y with
 | .int i,.int j=>.ok (.int (i+j)) θ
 | .str i,.str j=>if i.length+j.length≤BIG then .ok (.str (i++j)) θ else .bad
 | .tup xs,.tup ys=>if xs.isEmpty=false∧xs.length+ys.length≤BIG then .ok (.tup (xs++ys)) θ else .bad
 | x,y=>match Zbb θ x,Zbb θ y with
  | some xs,some ys=>if xs.length+ys.length≤BIG then .ok (.lst (xs++ys)) θ else .bad
  | _,_=>.bad
@[simp] theorem Zxp (i j:Int) (θ:Sto):za (.int i) (.int j) θ=.ok (.int (i+j)) θ:=nr rfl
@[simp] theorem Zpq (xs ys:List D) (θ:Sto):za (.lst xs) (.lst ys) θ=if xs.length+ys.length≤BIG then .ok (.lst (xs++ys)) θ else .bad:=nr rfl
@[simp] theorem Zxo (xs ys:List D) (θ:Sto):za (.tup xs) (.tup ys) θ=if xs.isEmpty=false∧xs.length+ys.length≤BIG then .ok (.tup (xs++ys)) θ else .bad:=nr rfl
theorem Z2:OpR X (binaryOp .Add) (rM X za):=by
 refine OpR.imp (op_add.or (op_add_str.or (op_catT.or ZuX))) fun x y H Q q=>?_
 obtain ⟨σ,B,θ,d,e,G,rd,re,w⟩:=q
 unfold za at w
 split at w
 ·exact .inl ⟨_,_,rd,re,ZR G (show RepV B H (.int _) (.int _) from rfl) w⟩
 ·split at w
  ·rename_i hz
   exact .inr (.inl ⟨_,_,rd,re,zM hz,ZR G (show RepV B H (.str _) (.str _) from rfl) w⟩)
  ·exact w.elim
 ·split at w
  ·rename_i xs ys hz
   obtain ⟨a,vs,rfl,h1,k1,l1⟩:=rd
   obtain ⟨b,us,rfl,h2,k2,l2⟩:=re
   refine .inr (.inr (.inl ⟨a,b,vs,us,rfl,rfl,SqT.of h1,SqT.of h2,?_,?_,fun z=>?_,fun _=>ZhI G (l1.app l2) w⟩))
   ·intro z
    have:=l1.emp
    rw [z,hz.1] at this
    simp at this
   ·rw [l1.len,l2.len]; exact zM hz.2
   ·have e0:ys=[]:=by
     have:=l2.emp
     rw [z] at this
     cases ys with
     | nil=>rfl
     | cons _ _=>simp at this
    subst e0
    rw [YC] at w
    exact ZR G (show RepV B H (.tup xs) (.ref a) from ⟨a,vs,rfl,h1,k1,l1⟩) w
  ·exact w.elim
 ·split at w
  ·rename_i xs ys e1 e2
   split at w
   ·rename_i hz
    obtain ⟨a,vs,rfl,h1,l1⟩:=ZaH G rd e1
    obtain ⟨b,us,rfl,h2,l2⟩:=ZaH G re e2
    exact .inr (.inr (.inr ⟨a,b,vs,us,rfl,rfl,h1,h2,by rw [l1.len,l2.len]; exact zM hz,ZfF G (l1.app l2) w⟩))
   ·exact w.elim
  ·exact w.elim
def ZgD (i j:Int):Prop:=(-18446744073709551616<i∧i<18446744073709551616)∨(-18446744073709551616<j∧j<18446744073709551616)
instance {i j:Int}:Decidable (ZgD i j):=by unfold ZgD; infer_instance
def ZcY:OM:=fun x y θ=>match x,y with
 | .int i,.int j=>if ZgD i j then .ok (.int (i*j)) θ else .bad
 | .tup xs,.int k=>if xs.isEmpty=false∧0≤k∧k<1000∧(xs.length:Int)*k≤1000 then .ok (.tup (List.replicate k.toNat xs).flatten) θ else .bad
 | x,.int k=>match Zbb θ x with
  | some xs=>if -1000000≤k∧k≤1000000∧xs.length*k.toNat≤BIG then .ok (.lst (List.replicate k.toNat xs).flatten) θ else .bad
  | _=>.bad
 | _,_=>.bad
@[simp] theorem ZwN (i j:Int) (θ:Sto):ZcY (.int i) (.int j) θ=if ZgD i j then .ok (.int (i*j)) θ else .bad:=nr rfl
@[simp] theorem Zgh (xs:List D) (k:Int) (θ:Sto):ZcY (.lst xs) (.int k) θ=if -1000000≤k∧k≤1000000∧xs.length*k.toNat≤BIG then .ok (.lst (List.replicate k.toNat xs).flatten) θ else .bad:=nr rfl
theorem RepL.rep {B:Bx} {H:Hp} {xs:List D} {vs:List V} (r:RepL B H xs vs):∀k:Nat,RepL B H (List.replicate k xs).flatten (List.replicate k vs).flatten
 | 0=>rfl
 | k+1=>by
  rw [Yx,Yx,YG,YG]
  exact r.app (RepL.rep r k)
theorem Zdy:OpR X (binaryOp .Mult) (rM X ZcY):=by
 refine OpR.imp (op_mul.or (op_repT.or ZuS)) fun x y H Q q=>?_
 obtain ⟨σ,B,θ,d,e,G,rd,re,w⟩:=q
 unfold ZcY at w
 split at w
 ·split at w
  ·rename_i hc
   exact .inl ⟨_,_,rd,re,hc.imp (fun h=>⟨by have:=h.1; omega,by have:=h.2; omega⟩) (fun h=>⟨by have:=h.1; omega,by have:=h.2; omega⟩),ZR G (show RepV B H (.int _) (.int _) from rfl) w⟩
  ·exact w.elim
 ·split at w
  ·rename_i xs k hz
   obtain ⟨a,vs,rfl,h1,k1,l1⟩:=rd
   obtain ⟨z1,z2,z3,z4⟩:=hz
   refine .inr (.inl ⟨a,k,vs,rfl,re,SqT.of h1,?_,z2,z3,by rw [l1.len]; exact z4,fun z=>?_,fun _=>ZhI G (l1.rep _) w⟩)
   ·intro z
    have:=l1.emp
    rw [z,z1] at this
    simp at this
   ·subst z
    have e0:(List.replicate (1:Int).toNat xs).flatten=xs:=by simp
    rw [e0] at w
    exact ZR G (show RepV B H (.tup xs) (.ref a) from ⟨a,vs,rfl,h1,k1,l1⟩) w
  ·exact w.elim
 ·split at w
  ·rename_i xs e1
   split at w
   ·rename_i hz
    obtain ⟨a,vs,rfl,h1,l1⟩:=ZaH G rd e1
    exact .inr (.inr ⟨a,_,vs,rfl,re,h1,by have:=hz.1; omega,by have:=hz.2.1; omega,by rw [l1.len]; exact zM hz.2.2,ZfF G (l1.rep _) w⟩)
   ·exact w.elim
  ·exact w.elim
 ·exact w.elim
def ZAm (f:EM):EM:=fun ρ θ=>(f ρ θ).bind fun x θ=>match x with
 | .int i=>.ok (.int (-i)) θ
 | _=>.bad
mutual
def dat:D→PyData
 | .bl b=>.bool b
 | .int i=>.int i
 | .str x=>.str x
 | .tup xs=>.tuple (Ze8 xs)
 | .lst xs=>.list (Ze8 xs)
 | _=>.none
def Ze8:List D→List PyData
 | []=>[]
 | d::r=>dat d::Ze8 r
end
mutual
def plain:D→Bool
 | .non=>true
 | .bl _=>true
 | .int _=>true
 | .str _=>true
 | .tup xs=>Zb7 xs
 | .lst xs=>Zb7 xs
 | _=>false
def Zb7:List D→Bool
 | []=>true
 | d::r=>plain d && Zb7 r
end
mutual
theorem rdv {B:Bx} {H:Hp} {K:PySem.W.Frag}:∀{d:D} {v:V},plain d=true→RepV B H d v→RdV K H v (dat d)
 | .non,_,_,r=>by cases (show _=V.non from r); exact .non
 | .bl b,_,_,r=>by cases (show _=V.bl b from r); exact .bl b
 | .int i,_,_,r=>by cases (show _=V.int i from r); exact .int i
 | .str x,_,_,r=>by cases (show _=V.str x from r); exact .str x
 | .tup xs,_,p,r=>by
  obtain ⟨a,vs,rfl,h,_,l⟩:=r
  exact .tup (SqT.of h) (Zre p l)
 | .lst xs,_,p,r=>by
  obtain ⟨a,vs,rfl,h,_,l⟩:=r
  exact .lst (SqL.of h) (Zre p l)
 | .ty _,_,p,_=>nomatch p
 | .scr _,_,p,_=>nomatch p
 | .ref _,_,p,_=>nomatch p
theorem Zre {B:Bx} {H:Hp} {K:PySem.W.Frag}:∀{ds:List D} {vs:List V},Zb7 ds=true→RepL B H ds vs→RdVs K H vs (Ze8 ds)
 | [],_,_,r=>by cases (show _=[] from r); exact .nil
 | d::ds,_,p,r=>by
  obtain ⟨v,q,rfl,hv,hq⟩:=r
  have p':plain d=true∧Zb7 ds=true:=by simpa [Zb7] using p
  exact .cons (rdv p'.1 hv) (Zre p'.2 hq)
end
mutual
theorem Zke:∀{d e:D},plain d=true→plain e=true→(same (dat d) (dat e)=true↔d=e):=fun {d e} p q=>by
 cases d with
 | ty _=>exact nomatch p
 | scr _=>exact nomatch p
 | ref _=>exact nomatch p
 | non=>cases e<;>simp_all [plain,dat,same]
 | bl _=>cases e<;>simp_all [plain,dat,same]
 | int _=>cases e<;>simp_all [plain,dat,same]
 | str _=>cases e<;>simp_all [plain,dat,same]
 | tup xs=>
  cases e with
  | tup ys=>
   simp only [dat,same,D.tup.injEq]
   exact ZgL p q
  | ty _=>exact nomatch q
  | scr _=>exact nomatch q
  | ref _=>exact nomatch q
  | _=>simp [dat,same]
 | lst xs=>
  cases e with
  | lst ys=>
   simp only [dat,same,D.lst.injEq]
   exact ZgL p q
  | ty _=>exact nomatch q
  | scr _=>exact nomatch q
  | ref _=>exact nomatch q
  | _=>simp [dat,same]
theorem ZgL:∀{ds es:List D},Zb7 ds=true→Zb7 es=true→(sameAll (Ze8 ds) (Ze8 es)=true↔ds=es)
 | [],[],_,_=>by simp [Ze8,sameAll]
 | [],_::_,_,_=>by simp [Ze8,sameAll]
 | _::_,[],_,_=>by simp [Ze8,sameAll]
 | d::ds,e::es,p,q=>by
  have p':plain d=true∧Zb7 ds=true:=by simpa [Zb7] using p
  have q':plain e=true∧Zb7 es=true:=by simpa [Zb7] using q
  simp only [Ze8,sameAll,Yl,List.cons.injEq]
  rw [Zke p'.1 q'.1,ZgL p'.2 q'.2]
end
def look (θ:Sto) (d:D):D:=match d with
 | .ref l=>match θ[l]? with
  | some (.lst xs)=>.lst xs
  | _=>.ref l
 | d=>d
theorem Zgm {B:Bx} {θ:Sto} {H:Hp} {K:PySem.W.Frag} (G:Good X.cl B θ H) {d:D} {v:V} (r:RepV B H d v) (p:plain (look θ d)=true):RdV K H v (dat (look θ d)):=by
 cases d with
 | ref l=>
  unfold look at p ⊢
  simp only at p ⊢
  split at p
  ·rename_i xs e
   obtain ⟨hl,rfl⟩:=r
   obtain ⟨vs,h1,h2⟩:=G.cel l _ e
   exact .lst (SqL.of h1) (Zre p h2)
  ·exact nomatch p
 | _=>exact rdv p r
structure ZkT (x y:D):Prop where
 px:plain x=true
 py:plain y=true
 sx:shaped (dat x)=true
 sy:shaped (dat y)=true
 nm:noMix (dat x) (dat y)=true
open Classical in
def eqM:OM:=fun x y θ=>if ZkT (look θ x) (look θ y) then .ok (.bl (decide (look θ x=look θ y))) θ else .bad
open Classical in
def neM:OM:=fun x y θ=>if ZkT (look θ x) (look θ y) then .ok (.bl (!decide (look θ x=look θ y))) θ else .bad
open Classical in
theorem Zkf {d e:D} (p:plain d=true) (q:plain e=true):same (dat d) (dat e)=decide (d=e):=by
 rw [Jd,Zke p q,decide_eq_true_iff]
open Classical in
theorem Zal (hu:X.A.units+64<cLine):OpR X (compareOp .Eq) (rM X eqM):=by
 refine OpR.imp (ZuW hu) fun x y H Q q=>?_
 obtain ⟨σ,B,θ,d,e,G,rd,re,w⟩:=q
 unfold eqM at w
 split at w
 ·rename_i c
  refine ⟨_,_,Zgm G rd c.px,Zgm G re c.py,c.sx,c.sy,c.nm,?_⟩
  rw [Zkf c.px c.py]
  exact ZR G (show RepV B H (.bl _) (.bl _) from rfl) w
 ·exact w.elim
open Classical in
theorem Zfx (hu:X.A.units+64<cLine):OpR X (compareOp .NotEq) (rM X neM):=by
 refine OpR.imp (ZuT hu) fun x y H Q q=>?_
 obtain ⟨σ,B,θ,d,e,G,rd,re,w⟩:=q
 unfold neM at w
 split at w
 ·rename_i c
  refine ⟨_,_,Zgm G rd c.px,Zgm G re c.py,c.sx,c.sy,c.nm,?_⟩
  rw [Zkf c.px c.py]
  exact ZR G (show RepV B H (.bl _) (.bl _) from rfl) w
 ·exact w.elim
def ZjY:List D→Bool
 | []=>true
 | .int _::r=>ZjY r
 | _=>false
def Zix:List D→Bool
 | []=>true
 | .str _::r=>Zix r
 | _=>false
def memI (i:Int):List D→Bool
 | .int j::r=>decide (j=i) || memI i r
 | _=>false
def memS (x:Str):List D→Bool
 | .str y::r=>decide (y=x) || memS x r
 | _=>false
def inD (θ:Sto) (x y:D):Option Bool:=match seqOf θ y with
 | none=>none
 | some ys=>match x with
  | .int i=>if ZjY ys=true then some (memI i ys) else none
  | .str z=>if Zix ys=true then some (memS z ys) else none
  | _=>none
def inM:OM:=fun x y θ=>match inD θ x y with
 | some k=>.ok (.bl k) θ
 | none=>.bad
def ZdQ:OM:=fun x y θ=>match inD θ x y with
 | some k=>.ok (.bl (!k)) θ
 | none=>.bad
theorem Zhl {B:Bx} {H:Hp}:∀{ys:List D} {vs:List V},ZjY ys=true→RepL B H ys vs→vs.all ZdD=true∧∀i:Int,inV (.int i) vs=memI i ys
 | [],_,_,r=>by cases (show _=[] from r); exact ⟨rfl,fun _=>rfl⟩
 | d::ys,_,h,r=>by
  cases d with
  | int j=>
   obtain ⟨v,q,rfl,hv,hq⟩:=r
   cases (show v=V.int j from hv)
   obtain ⟨h1,h2⟩:=Zhl (show ZjY ys=true from h) hq
   refine ⟨by simp [ZdD] at h1 ⊢; exact h1,fun i=>?_⟩
   have:=h2 i
   unfold inV at this ⊢
   rw [YF,this]
   show (j == i || memI i ys)=(decide (j=i) || memI i ys)
   rw [Bool.beq_eq_decide_eq]
  | _=>exact nomatch h
theorem Zhk {B:Bx} {H:Hp}:∀{ys:List D} {vs:List V},Zix ys=true→RepL B H ys vs→vs.all ZdD=true∧∀i:Str,inV (.str i) vs=memS i ys
 | [],_,_,r=>by cases (show _=[] from r); exact ⟨rfl,fun _=>rfl⟩
 | d::ys,_,h,r=>by
  cases d with
  | str j=>
   obtain ⟨v,q,rfl,hv,hq⟩:=r
   cases (show v=V.str j from hv)
   obtain ⟨h1,h2⟩:=Zhk (show Zix ys=true from h) hq
   refine ⟨by simp [ZdD] at h1 ⊢; exact h1,fun i=>?_⟩
   have:=h2 i
   unfold inV at this ⊢
   rw [YF,this]
   show (j == i || memS i ys)=(decide (j=i) || memS i ys)
   rw [Bool.beq_eq_decide_eq]
  | _=>exact nomatch h
theorem ZoQ {cl:Mo} {B:Bx} {θ:Sto} {H:Hp} (G:Good cl B θ H) {d e:D} {x y:V} {k:Bool} (rd:RepV B H d x) (re:RepV B H e y) (h:inD θ d e=some k) :
  ∃p xs,y=.ref p∧(SqL cl.K H p xs∨SqT cl.K H p xs)∧ZdD x=true∧xs.all ZdD=true∧inV x xs=k:=by
 unfold inD at h
 split at h
 ·cases h
 ·rename_i ys e1
  obtain ⟨a,vs,rfl,h1,h2⟩:=Zdd G re e1
  split at h
  ·split at h
   ·rename_i i hz
    cases h
    cases (show x=V.int i from rd)
    obtain ⟨q1,q2⟩:=Zhl hz h2
    exact ⟨a,vs,rfl,h1,rfl,q1,q2 i⟩
   ·cases h
  ·split at h
   ·rename_i i hz
    cases h
    cases (show x=V.str i from rd)
    obtain ⟨q1,q2⟩:=Zhk hz h2
    exact ⟨a,vs,rfl,h1,rfl,q1,q2 i⟩
   ·cases h
  ·cases h
theorem Zkr:OpR X (compareOp .In) (rM X inM):=by
 refine OpR.imp Zm3 fun x y H Q q=>?_
 obtain ⟨σ,B,θ,d,e,G,rd,re,w⟩:=q
 unfold inM at w
 split at w
 ·rename_i k e1
  obtain ⟨p,xs,h1,h2,h3,h4,h5⟩:=ZoQ G rd re e1
  exact ⟨p,xs,h1,h2,h3,h4,by rw [h5]; exact ZR G (show RepV B H (.bl _) (.bl _) from rfl) w⟩
 ·exact w.elim
theorem Zju:OpR X (compareOp .NotIn) (rM X ZdQ):=by
 refine OpR.imp Zjt fun x y H Q q=>?_
 obtain ⟨σ,B,θ,d,e,G,rd,re,w⟩:=q
 unfold ZdQ at w
 split at w
 ·rename_i k e1
  obtain ⟨p,xs,h1,h2,h3,h4,h5⟩:=ZoQ G rd re e1
  exact ⟨p,xs,h1,h2,h3,h4,by rw [h5]; exact ZR G (show RepV B H (.bl _) (.bl _) from rfl) w⟩
 ·exact w.elim
def Zak:D→Bool
 | .non=>true
 | _=>false
theorem ZkC {B:Bx} {H:Hp} {d:D} {v:V} (r:RepV B H d v):Zak d=decide (v=.non):=by
 cases d with
 | non=>cases (show v=.non from r); simp [Zak]
 | bl b=>cases (show v=.bl b from r); simp [Zak]
 | int i=>cases (show v=.int i from r); simp [Zak]
 | str x=>cases (show v=.str x from r); simp [Zak]
 | ty n=>cases (show v=.ty n from r); simp [Zak]
 | scr ns=>obtain ⟨a,rfl,_⟩:=r; simp [Zak]
 | tup xs=>obtain ⟨a,o,rfl,_⟩:=r; simp [Zak]
 | lst xs=>obtain ⟨a,o,rfl,_⟩:=r; simp [Zak]
 | ref l=>obtain ⟨_,rfl⟩:=r; simp [Zak]
def isM:OM:=fun x y θ=>match y with
 | .non=>.ok (.bl (Zak x)) θ
 | .bl c=>match x with
  | .bl b=>.ok (.bl (b == c)) θ
  | _=>.bad
 | _=>.bad
def ZdS:OM:=fun x y θ=>match y with
 | .non=>.ok (.bl (!Zak x)) θ
 | .bl c=>match x with
  | .bl b=>.ok (.bl (!(b == c))) θ
  | _=>.bad
 | _=>.bad
theorem ZuV:OpR X (compareOp .Is) (fun x y H Q=>∃b c:Bool,x=.bl b∧y=.bl c∧Q (.bl (b == c)) H):=by
 intro pins s σ H x y v u Q I rx ry h
 obtain ⟨b,c,rfl,rfl,q⟩:=h
 cases rx
 cases ry
 have e:(Value.bool b == Value.bool c)=(b == c):=by cases b<;>cases c<;>rfl
 exact wpAny_is_plain rfl ⟨.bl _,H,I,rfl,by rw [e]; exact q⟩
theorem Zla:OpR X (compareOp .Is) (rM X isM):=by
 refine OpR.imp (op_isN.or ZuV) fun x y H Q q=>?_
 obtain ⟨σ,B,θ,d,e,G,rd,re,w⟩:=q
 unfold isM at w
 split at w
 ·refine .inl ⟨re,?_⟩
  have q:=ZR G (show RepV B H (.bl _) (.bl _) from rfl) w
  rw [ZkC rd] at q
  exact q
 ·split at w
  ·exact .inr ⟨_,_,rd,re,ZR G (show RepV B H (.bl _) (.bl _) from rfl) w⟩
  ·exact w.elim
 ·exact w.elim
theorem Zew:OpR X (compareOp .IsNot) (rM X ZdS):=by
 refine OpR.imp (op_notN.or Zrv) fun x y H Q q=>?_
 obtain ⟨σ,B,θ,d,e,G,rd,re,w⟩:=q
 unfold ZdS at w
 split at w
 ·refine .inl ⟨re,?_⟩
  have q:=ZR G (show RepV B H (.bl _) (.bl _) from rfl) w
  rw [ZkC rd] at q
  exact q
 ·split at w
  ·exact .inr ⟨_,_,rd,re,ZR G (show RepV B H (.bl _) (.bl _) from rfl) w⟩
  ·exact w.elim
 ·exact w.elim
end
end
end L2.MM
namespace L2.MM
open PySem PySem.Spec PyProof.Rows PySem.SeqAt
noncomputable section
variable {X:Cx}
section
def ixD (θ:Sto) (x:D) (i:Int):Option D:=match x with
 | .str z=>if z.length≤BIG then (atI z.cps.toList i).map fun c=>.str ⟨#[c]⟩ else none
 | x=>(seqOf θ x).bind (atI · i)
def ixM:OM:=fun x y θ=>match y with
 | .int i=>match ixD θ x i with
  | some d=>.ok d θ
  | none=>.bad
 | _=>.bad
theorem RepL.atI {B:Bx} {H:Hp} {xs:List D} {vs:List V} {i:Int} {d:D} (r:RepL B H xs vs) (h:atI xs i=some d):∃v,atI vs i=some v∧RepV B H d v:=by
 unfold L2.atI at h ⊢
 rw [r.len]
 cases e:ixN xs.length i with
 | none=>rw [e] at h; cases h
 | some j=>
  rw [e] at h
  exact r.get h
theorem ZG:IxR X (rM X ixM):=by
 refine IxR.imp Zva fun x y H Q q=>?_
 obtain ⟨σ,B,θ,d,e,G,rd,re,w⟩:=q
 unfold ixM at w
 split at w
 ·rename_i i
  split at w
  ·rename_i r e1
   have sq:(seqOf θ d).bind (L2.atI · i)=some r→rIx X.K x y H Q:=fun h=>by
    cases e2:seqOf θ d with
    | none=>rw [e2] at h; cases h
    | some xs=>
     rw [e2] at h
     obtain ⟨a,vs,rfl,h1,h2⟩:=Zdd G rd e2
     obtain ⟨v,h3,h4⟩:=h2.atI h
     have q:=ZR G h4 w
     rcases h1 with h1 | h1
     ·exact .inl ⟨a,vs,i,v,rfl,re,h1,h3,q⟩
     ·exact .inr (.inl ⟨a,vs,i,v,rfl,re,h1,h3,q⟩)
   cases d with
   | str z=>
    simp only [ixD] at e1
    split at e1
    ·rename_i hz
     cases e2:L2.atI z.cps.toList i with
     | none=>rw [e2] at e1; cases e1
     | some c=>
      rw [e2] at e1
      cases e1
      exact .inr (.inr ⟨z,i,c,rd,re,zM hz,e2,ZR G (show RepV B H (.str _) (.str _) from rfl) w⟩)
    ·cases e1
   | non=>exact sq e1
   | bl _=>exact sq e1
   | int _=>exact sq e1
   | ty _=>exact sq e1
   | scr _=>exact sq e1
   | tup _=>exact sq e1
   | lst _=>exact sq e1
   | ref _=>exact sq e1
  ·exact w.elim
 ·exact w.elim
abbrev PM:=List Sl→Sto→R (Option Int)
def EqO (_:Bx) (_:Hp) (a b:Option Int):Prop:=a=b
def tMO (X:Cx) (f:PM):TO:=fun σ H Q=>∃B θ ρ,Frm X.cl B θ ρ σ H∧wpR X σ EqO B H (f ρ θ) Q
def MO (X:Cx) (e:Option Expr) (f:PM):Prop:=PO X e (tMO X f)
theorem ZeW {f:PM} {σ:St} {H:Hp} {Q Q':Option Int→Hp→Prop} (h:tMO X f σ H Q) (hQ:∀v H',Q v H'→Q' v H'):tMO X f σ H Q':=let ⟨B,θ,ρ,F,w⟩:=h; ⟨B,θ,ρ,F,w.mono hQ⟩
theorem Zka {σ:St} {H:Hp} {γ δ:Type} {Rel':Bx→Hp→γ→δ→Prop} {B:Bx} {θ:Sto} {ρ:List Sl} {f:PM} {k:Option Int→Sto→R γ} {Q:δ→Hp→Prop} (F:Frm X.cl B θ ρ σ H) (h:wpR X σ Rel' B H ((f ρ θ).bind k) Q) :
  tMO X f σ H (fun c H1=>∃B1 θ1,ExtE B B1 H H1∧Frm X.cl B1 θ1 ρ σ H1∧wpR X σ Rel' B1 H1 (k c θ1) Q):=
 ⟨B,θ,ρ,F,(wpR.bind (Rel:=EqO) h).mono fun v H1 ⟨B1,θ1,d,E,G,r,w⟩=>by cases (show d=v from r); exact ⟨B1,θ1,E,F.ext E G,w⟩⟩
def ZcC:PM:=fun _ θ=>.ok none θ
def ZeQ (f:EM):PM:=fun ρ θ=>(f ρ θ).bind fun x θ=>match x with
 | .int i=>.ok (some i) θ
 | _=>.bad
theorem PO.imp {e:Option Expr} {t t':TO} (h:PO X e t) (hi:∀σ H Q,t' σ H Q→t σ H Q):PO X e t':=fun pins s σ H Q I q=>h pins s σ H Q I (hi σ H Q q)
theorem ZdA:MO X none ZcC:=PO.imp Zrn fun σ H Q h=>by
 obtain ⟨B,θ,ρ,F,w⟩:=h
 exact ZR (Rel:=EqO) F.good rfl w
theorem ZcB {e:Expr} {f:EM} (h:ME X e f):MO X (some e) (ZeQ f):=PO.imp (Zrm h) fun σ H Q h=>by
 obtain ⟨B,θ,ρ,F,w⟩:=h
 refine ZJ (step F w) ?_
 rintro v H1 ⟨B1,θ1,x,E1,F1,rx,w1⟩
 cases x with
 | int i=>exact ⟨i,rx,ZR (Rel:=EqO) F1.good rfl w1⟩
 | _=>exact w1.elim
def Zbh {α:Type} (xs:List α) (lo hi:Option Int):List α:=(xs.drop (HT.sIx xs.length 0 lo)).take (HT.sIx xs.length xs.length hi-HT.sIx xs.length 0 lo)
theorem RepL.cut {B:Bx} {H:Hp} {xs:List D} {vs:List V} (r:RepL B H xs vs) (lo hi:Option Int):RepL B H (Zbh xs lo hi) (ZkL vs lo hi):=by
 unfold Zbh ZkL
 rw [r.len]
 exact (r.drop _).take _
def ZgJ (θ:Sto) (x:D) (lo hi:Option Int):Option D:=match x with
 | .tup xs=>if HT.sIx xs.length 0 lo=0∧HT.sIx xs.length xs.length hi=xs.length then none else some (.tup (Zbh xs lo hi))
 | x=>(Zbb θ x).map fun xs=>.lst (Zbh xs lo hi)
def mSl (f:EM) (lo hi:PM):EM:=fun ρ θ=>(f ρ θ).bind fun x θ=>(lo ρ θ).bind fun l θ=>(hi ρ θ).bind fun h θ=>match ZgJ θ x l h with
 | some d=>.ok d θ
 | none=>.bad
theorem Zea {e:Expr} {lo hi:Option Expr} {f:EM} {fl fh:PM} {pos p2:Pos} (he:ME X e f) (hl:MO X lo fl) (hh:MO X hi fh):ME X (.Subscript e (.Slice lo hi none p2) pos) (mSl f fl fh):=by
 refine PE.imp (Zol (sl_list.or Zuo) he hl hh) fun σ H Q h=>?_
 obtain ⟨B,θ,ρ,F,w⟩:=h
 refine ZJ (step F w) ?_
 rintro v H1 ⟨B1,θ1,x,E1,F1,rx,w1⟩
 refine ZeW (Zka F1 w1) ?_
 rintro l H2 ⟨B2,θ2,E2,F2,w2⟩
 refine ZeW (Zka F2 w2) ?_
 rintro u H3 ⟨B3,θ3,E3,F3,w3⟩
 have rx3:=rx.ext (E2.trans E3).toExtS
 have lst:∀d,(Zbb θ3 x).map (fun xs=>D.lst (Zbh xs l u))=some d→wpR X σ RepV B3 H3 (R.ok d θ3) Q→Zwq X.K v l u H3 Q:=fun d h w=>by
  cases e2:Zbb θ3 x with
  | none=>rw [e2] at h; cases h
  | some xs=>
   rw [e2] at h
   cases h
   obtain ⟨a,vs,rfl,h1,h2⟩:=ZaH F3.good rx3 e2
   exact ⟨a,vs,rfl,SqL.of h1,ZfF F3.good (h2.cut l u) w⟩
 split at w3
 ·rename_i d e1
  cases x with
  | tup xs=>
   simp only [ZgJ] at e1
   split at e1
   ·cases e1
   ·rename_i hw
    cases e1
    obtain ⟨a,vs,rfl,h1,k1,l1⟩:=rx3
    exact .inr ⟨a,vs,rfl,SqT.of h1,by rw [l1.len]; exact hw,ZhI F3.good (l1.cut l u) w3⟩
  | non=>exact .inl (lst d e1 w3)
  | bl _=>exact .inl (lst d e1 w3)
  | int _=>exact .inl (lst d e1 w3)
  | str _=>exact .inl (lst d e1 w3)
  | ty _=>exact .inl (lst d e1 w3)
  | scr _=>exact .inl (lst d e1 w3)
  | lst _=>exact .inl (lst d e1 w3)
  | ref _=>exact .inl (lst d e1 w3)
 ·exact w3.elim
def Zd3 {α:Type} (xs:List α) (lo hi st:Option Int):List α:=(sliceRange (sliceBounds lo hi st xs.length).1 (sliceBounds lo hi st xs.length).2.1 (sliceBounds lo hi st xs.length).2.2).filterMap (xs[·]?)
theorem RepL.none_of:∀{B:Bx} {H:Hp} {xs:List D} {vs:List V} {i:Nat},RepL B H xs vs→xs[i]?=none→vs[i]?=none:=fun {B H xs vs i} r e=>by
 have h1:=r.len
 have h2:xs.length≤i:=YJ.mp e
 exact YJ.mpr (by omega)
theorem RepL.pick {B:Bx} {H:Hp} {xs:List D} {vs:List V} (r:RepL B H xs vs):∀ks:List Nat,RepL B H (ks.filterMap (xs[·]?)) (ks.filterMap (vs[·]?))
 | []=>rfl
 | k::ks=>by
  cases e:xs[k]? with
  | none=>rw [List.filterMap_cons_none e,List.filterMap_cons_none (r.none_of e)]; exact r.pick ks
  | some x=>
   obtain ⟨u,e',q⟩:=r.get e
   rw [List.filterMap_cons_some e,List.filterMap_cons_some e']
   exact ⟨_,_,rfl,q,r.pick ks⟩
def ZrF (f:EM) (lo hi st:PM):EM:=fun ρ θ=>(f ρ θ).bind fun x θ=>(lo ρ θ).bind fun l θ=>(hi ρ θ).bind fun h θ=>(st ρ θ).bind fun s θ=>match Zbb θ x with
 | some xs=>if s≠some 0∧(Zd3 xs l h s).length≤BIG then .ok (.lst (Zd3 xs l h s)) θ else .bad
 | none=>.bad
theorem Zi1 {e sp:Expr} {lo hi:Option Expr} {f:EM} {fl fh fs:PM} {pos p2:Pos} (he:ME X e f) (hl:MO X lo fl) (hh:MO X hi fh) (hs:MO X (some sp) fs):ME X (.Subscript e (.Slice lo hi (some sp) p2) pos) (ZrF f fl fh fs):=by
 refine PE.imp (Zm0 he hl hh hs) fun σ H Q h=>?_
 obtain ⟨B,θ,ρ,F,w⟩:=h
 refine ZJ (step F w) ?_
 rintro v H1 ⟨B1,θ1,x,E1,F1,rx,w1⟩
 refine ZeW (Zka F1 w1) ?_
 rintro l H2 ⟨B2,θ2,E2,F2,w2⟩
 refine ZeW (Zka F2 w2) ?_
 rintro u H3 ⟨B3,θ3,E3,F3,w3⟩
 refine ZeW (Zka F3 w3) ?_
 rintro s H4 ⟨B4,θ4,E4,F4,w4⟩
 split at w4
 ·rename_i xs e1
  split at w4
  ·rename_i hz
   obtain ⟨a,vs,rfl,h1,h2⟩:=ZaH F4.good (rx.ext ((E2.trans E3).trans E4).toExtS) e1
   have p:RepL B4 H4 (Zd3 xs l u s) (ZeY vs l u s):=by
    unfold Zd3 ZeY
    rw [h2.len]
    exact h2.pick _
   exact ⟨a,vs,rfl,SqL.of h1,hz.1,by rw [p.len]; exact zM hz.2,ZfF F4.good p w4⟩
  ·exact w4.elim
 ·exact w4.elim
def lenG:GM:=fun ds θ=>match ds with
 | [.str z]=>if z.length≤BIG then .ok (.int z.length) θ else .bad
 | [d]=>match seqOf θ d with
  | some xs=>.ok (.int xs.length) θ
  | none=>.bad
 | _=>.bad
theorem RepL.one {B:Bx} {H:Hp} {d:D} {vs:List V} (r:RepL B H [d] vs):∃v,vs=[v]∧RepV B H d v:=by
 obtain ⟨v,q,rfl,hv,hq⟩:=r
 cases (show q=[] from hq)
 exact ⟨v,rfl,hv⟩
theorem RepL.two {B:Bx} {H:Hp} {d e:D} {vs:List V} (r:RepL B H [d,e] vs):∃v u,vs=[v,u]∧RepV B H d v∧RepV B H e u:=by
 obtain ⟨v,q,rfl,hv,hq⟩:=r
 obtain ⟨u,rfl,hu⟩:=hq.one
 exact ⟨v,u,rfl,hv,hu⟩
theorem ZdI:CallR X (.builtin "len") (rC X lenG):=by
 refine CallR.imp (call_len_str.or ZjS) fun vs H Q q=>?_
 obtain ⟨σ,B,θ,ds,G,r,w⟩:=q
 unfold lenG at w
 split at w
 ·split at w
  ·rename_i z hz
   obtain ⟨v,rfl,rv⟩:=r.one
   cases (show v=V.str z from rv)
   exact .inl ⟨z,rfl,zM hz,ZR G (show RepV B H (.int _) (.int _) from rfl) w⟩
  ·exact w.elim
 ·split at w
  ·rename_i xs e1
   obtain ⟨v,rfl,rv⟩:=r.one
   obtain ⟨a,us,rfl,h1,h2⟩:=Zdd G rv e1
   exact .inr ⟨a,us,rfl,h1,by rw [h2.len]; exact ZR G (show RepV B H (.int _) (.int _) from rfl) w⟩
  ·exact w.elim
 ·exact w.elim
def Zgr:List D→Option (List Int)
 | []=>some []
 | .int i::r=>(Zgr r).map (i::·)
 | _=>none
@[simp] theorem ZoP (ns:List Int):Zgr (ns.map D.int)=some ns:=by
 induction ns with
 | nil=>rfl
 | cons n r ih=>simp [Zgr,ih]
theorem Zmj:∀{ds:List D} {ns:List Int},Zgr ds=some ns→ds=ns.map D.int
 | [],_,h=>by cases h; rfl
 | d::r,ns,h=>by
  cases d with
  | int i=>
   simp only [Zgr] at h
   cases e:Zgr r with
   | none=>rw [e] at h; cases h
   | some ms=>rw [e] at h; cases h; rw [Zmj e]; rfl
  | _=>cases h
theorem ZkD {B:Bx} {H:Hp}:∀{ns:List Int} {vs:List V},RepL B H (ns.map D.int) vs→vs=ns.map V.int
 | [],_,r=>r
 | n::ns,_,r=>by
  obtain ⟨v,q,rfl,hv,hq⟩:=r
  cases (show v=V.int n from hv)
  rw [ZkD hq]; rfl
def ZmT:GM:=fun ds θ=>match ds with
 | [d]=>match (Zbb θ d).bind Zgr with
  | some ns=>.ok (.int ns.sum) θ
  | none=>.bad
 | _=>.bad
theorem ZsG (hc:X.calm=true:=by rfl):CallR X (.builtin "sum") (rC X ZmT):=by
 refine CallR.imp (Zpk hc) fun vs H Q q=>?_
 obtain ⟨σ,B,θ,ds,G,r,w⟩:=q
 unfold ZmT at w
 split at w
 ·rename_i d
  split at w
  ·rename_i ns e1
   obtain ⟨v,rfl,rv⟩:=r.one
   cases e2:Zbb θ d with
   | none=>rw [e2] at e1; cases e1
   | some xs=>
    rw [e2] at e1
    obtain ⟨a,us,rfl,h1,h2⟩:=ZaH G rv e2
    rw [Zmj (show Zgr xs=some ns from e1)] at h2
    rw [ZkD h2] at h1
    exact ⟨a,ns,rfl,SqL.of h1,ZR G (show RepV B H (.int _) (.int _) from rfl) w⟩
  ·exact w.elim
 ·exact w.elim
def Zky:GM:=fun ds θ=>match ds with
 | [.int i,.int j]=>.ok (.int (if j<i then j else i)) θ
 | [.int i,.int j,.int k]=>.ok (.int (if j<i then (if k<j then k else j) else (if k<i then k else i))) θ
 | _=>.bad
def ZrE:GM:=fun ds θ=>match ds with
 | [.int i,.int j]=>.ok (.int (if j > i then j else i)) θ
 | _=>.bad
theorem RepL.three {B:Bx} {H:Hp} {d e f:D} {vs:List V} (r:RepL B H [d,e,f] vs):∃v u w,vs=[v,u,w]∧RepV B H d v∧RepV B H e u∧RepV B H f w:=by
 obtain ⟨v,q,rfl,hv,hq⟩:=r
 obtain ⟨u,w,rfl,hu,hw⟩:=hq.two
 exact ⟨v,u,w,rfl,hv,hu,hw⟩
theorem Znr (hc:X.calm=true):CallR X (.builtin "min") (fun xs H Q=>∃i j k,xs=[.int i,.int j,.int k]∧Q (.int (if j<i then (if k<j then k else j) else (if k<i then k else i))) H):=by
 intro pins s σ H xs us Q I r h
 obtain ⟨i,j,k,rfl,q⟩:=h
 cases r with
 | cons r1 rr=>
  obtain ⟨u2,u3,e,r2,r3⟩:=ZnH rr
  subst e
  obtain ⟨t1,rfl⟩:=r1
  obtain ⟨t2,rfl⟩:=r2
  obtain ⟨t3,rfl⟩:=r3
  refine min_three_ints (I.ok.hd hc) fun h' tk kk=>⟨_,H,I.kept kk,?_,q⟩
  by_cases c1:j<i
  ·by_cases c2:k<j
   ·simp only [c1,c2,if_true]; exact ⟨_,rfl⟩
   ·simp only [c1,c2,if_true,if_false]; exact ⟨_,rfl⟩
  ·by_cases c2:k<i
   ·simp only [c1,c2,if_true,if_false]; exact ⟨_,rfl⟩
   ·simp only [c1,c2,if_false]; exact ⟨_,rfl⟩
theorem Zmx (hc:X.calm=true:=by rfl):CallR X (.builtin "min") (rC X Zky):=by
 refine CallR.imp ((Zns hc).or (Znr hc)) fun vs H Q q=>?_
 obtain ⟨σ,B,θ,ds,G,r,w⟩:=q
 unfold Zky at w
 split at w
 ·rename_i i j
  obtain ⟨v,u,rfl,rv,ru⟩:=r.two
  cases (show v=V.int i from rv)
  cases (show u=V.int j from ru)
  exact .inl ⟨i,j,rfl,ZR G (show RepV B H (.int _) (.int _) from rfl) w⟩
 ·rename_i i j k
  obtain ⟨v,u,z,rfl,rv,ru,rz⟩:=r.three
  cases (show v=V.int i from rv)
  cases (show u=V.int j from ru)
  cases (show z=V.int k from rz)
  exact .inr ⟨i,j,k,rfl,ZR G (show RepV B H (.int _) (.int _) from rfl) w⟩
 ·exact w.elim
theorem Zxf (hc:X.calm=true:=by rfl):CallR X (.builtin "max") (rC X ZrE):=by
 refine CallR.imp (Znt hc) fun vs H Q q=>?_
 obtain ⟨σ,B,θ,ds,G,r,w⟩:=q
 unfold ZrE at w
 split at w
 ·rename_i i j
  obtain ⟨v,u,rfl,rv,ru⟩:=r.two
  cases (show v=V.int i from rv)
  cases (show u=V.int j from ru)
  exact ⟨i,j,rfl,ZR G (show RepV B H (.int _) (.int _) from rfl) w⟩
 ·exact w.elim
def Zmd:GM:=fun ds θ=>match ds with
 | [d]=>match seqOf θ d with
  | some xs=>.ok (.lst xs) θ
  | none=>.bad
 | _=>.bad
theorem Zvm:CallR X (.type "list") (rC X Zmd):=by
 refine CallR.imp ZjR fun vs H Q q=>?_
 obtain ⟨σ,B,θ,ds,G,r,w⟩:=q
 unfold Zmd at w
 split at w
 ·split at w
  ·rename_i xs e1
   obtain ⟨v,rfl,rv⟩:=r.one
   obtain ⟨a,us,rfl,h1,h2⟩:=Zdd G rv e1
   exact ⟨a,us,rfl,h1,ZfF G h2 w⟩
  ·exact w.elim
 ·exact w.elim
def ZhO:GM:=fun ds θ=>match ds with
 | [.tup xs]=>.ok (.tup xs) θ
 | [d]=>match Zbb θ d with
  | some xs=>.ok (.tup xs) θ
  | none=>.bad
 | _=>.bad
theorem Zmw:CallR X (.type "tuple") (rC X ZhO):=by
 refine CallR.imp ZiG fun vs H Q q=>?_
 obtain ⟨σ,B,θ,ds,G,r,w⟩:=q
 unfold ZhO at w
 split at w
 ·rename_i xs
  obtain ⟨v,rfl,rv⟩:=r.one
  obtain ⟨a,us,rfl,h1,k1,l1⟩:=id rv
  exact ⟨a,us,rfl,.inr ⟨SqT.of h1,ZR G rv w⟩⟩
 ·split at w
  ·rename_i xs e1
   obtain ⟨v,rfl,rv⟩:=r.one
   obtain ⟨a,us,rfl,h1,h2⟩:=ZaH G rv e1
   exact ⟨a,us,rfl,.inl ⟨SqL.of h1,ZhI G h2 w⟩⟩
  ·exact w.elim
 ·exact w.elim
inductive Ty | non | bl | int | str | lst | tup
end
end
end L2.MM
namespace L2.MM
open PySem PySem.Spec PyProof.Rows PySem.SeqAt
noncomputable section
variable {X:Cx}
inductive Src where
 | seq (d:D) | rng (lo:Int) (n:Nat)
def Src.items (θ:Sto):Src→Option (List D)
 | .seq d=>seqOf θ d
 | .rng lo n=>some ((List.range n).map fun (i:Nat)=>D.int (lo+(i:Int)))
def SrcRep (K:PySem.W.Frag) (B:Bx) (H:Hp):Src→It→Prop
 | .seq d,J=>∃a,RepV B H d (.ref a)∧J=(match d with | .tup _=>Itt K a | _=>Itl K a)
 | .rng lo n,J=>J=Itr lo n
abbrev IM:=List Sl→Sto→R Src
section
def tMI (X:Cx) (f:IM):TI:=fun σ H Q=>∃B θ ρ,Frm X.cl B θ ρ σ H∧wpR X σ (SrcRep X.K) B H (f ρ θ) Q
def MI (X:Cx) (tg iter:Expr) (f:IM):Prop:=PI X tg iter (tMI X f)
theorem PI.imp {tg iter:Expr} {t t':TI} (h:PI X tg iter t) (hi:∀σ H Q,t' σ H Q→t σ H Q):PI X tg iter t':=fun pins s σ H Q I q=>h pins s σ H Q I (hi σ H Q q)
theorem SrcRep.ext {K:PySem.W.Frag} {B B':Bx} {H H':Hp} {S:Src} {J:It} (r:SrcRep K B H S J) (E:ExtS B B' H H'):SrcRep K B' H' S J:=by
 cases S with
 | seq d=>obtain ⟨a,h,e⟩:=r; exact ⟨a,h.ext E,e⟩
 | rng lo n=>exact r
theorem Zjk {cl:Mo} {B:Bx} {θ:Sto} {H:Hp} {S:Src} {J:It} {xs:List D} (G:Good cl B θ H) (r:SrcRep cl.K B H S J) (h:S.items θ=some xs) :
  (∀i d,xs[i]?=some d→J.go i H∧∀x H',J.yld i H x H'→H'=H∧RepV B H d x)∧J.stop xs.length H:=by
 cases S with
 | rng lo n=>
  cases (show J=Itr lo n from r)
  cases h
  refine ⟨fun i d e=>?_,by show n≤_; simp⟩
  rw [Yn] at e
  by_cases hi:i<n
  ·rw [Je hi] at e
   cases e
   exact ⟨hi,fun x H' y=>⟨y.1,y.2⟩⟩
  ·rw [List.getElem?_eq_none (by simpa using hi)] at e
   cases e
 | seq d=>
  obtain ⟨a,rv,e⟩:=r
  cases d with
  | tup ys=>
   obtain ⟨a',vs,e1,h1,_,h2⟩:=rv
   cases e1
   cases h
   simp only at e
   subst e
   refine ⟨fun i d e=>?_,⟨vs,SqT.of h1,by rw [h2.len]; exact Yd _⟩⟩
   obtain ⟨v,q1,q2⟩:=h2.get e
   refine ⟨⟨vs,v,SqT.of h1,q1⟩,fun x H' y=>⟨y.1,?_⟩⟩
   have:=y.2 vs (SqT.of h1)
   rw [q1] at this
   cases this
   exact q2
  | scr ns=>
   cases h
   obtain ⟨a',vs',e1,h1,_⟩:=Zdd G rv (show seqOf θ (.scr ns)=some (ns.map D.int) from rfl)
   cases e1
   simp only at e
   subst e
   have hS:SqL cl.K H a (ns.map V.int):=by
    obtain ⟨a',e1,h1⟩:=rv
    cases e1
    rcases h1 with ⟨o,h1,_⟩ | h1
    ·exact .inl (.inr ⟨o,h1⟩)
    ·exact .inr (G.kc a ns h1)
   have h2:RepL B H (ns.map D.int) (ns.map V.int):=RepL.map (f:=D.int) (g:=V.int) (fun _=>rfl) ns
   refine ⟨fun i d e=>?_,⟨ns.map V.int,hS,by simp⟩⟩
   obtain ⟨v,q1,q2⟩:=h2.get e
   refine ⟨⟨_,v,hS,q1⟩,fun x H' y=>⟨y.1,?_⟩⟩
   have:=y.2 _ hS
   rw [q1] at this
   cases this
   exact q2
  | lst ys=>
   obtain ⟨a',vs,e1,h1,h2⟩:=ZaH G rv (show Zbb θ (.lst ys)=some xs from h)
   cases e1
   simp only at e
   subst e
   refine ⟨fun i d e=>?_,⟨vs,SqL.of h1,by rw [h2.len]; exact Yd _⟩⟩
   obtain ⟨v,q1,q2⟩:=h2.get e
   refine ⟨⟨vs,v,SqL.of h1,q1⟩,fun x H' y=>⟨y.1,?_⟩⟩
   have:=y.2 vs (SqL.of h1)
   rw [q1] at this
   cases this
   exact q2
  | ref l=>
   obtain ⟨a',vs,e1,h1,h2⟩:=ZaH G rv (show Zbb θ (.ref l)=some xs from h)
   cases e1
   simp only at e
   subst e
   refine ⟨fun i d e=>?_,⟨vs,SqL.of h1,by rw [h2.len]; exact Yd _⟩⟩
   obtain ⟨v,q1,q2⟩:=h2.get e
   refine ⟨⟨vs,v,SqL.of h1,q1⟩,fun x H' y=>⟨y.1,?_⟩⟩
   have:=y.2 vs (SqL.of h1)
   rw [q1] at this
   cases this
   exact q2
  | non=>cases h
  | bl _=>cases h
  | int _=>cases h
  | str _=>cases h
  | ty _=>cases h
def ZAw (K:PySem.W.Frag) (tl:TE):TI:=fun σ H R=>tl σ H fun x H1=>∃a,x=.ref a∧(((∃xs,SqL K H1 a xs)∧R (Itl K a) H1)∨((∃xs,SqT K H1 a xs)∧R (Itt K a) H1))
theorem ZuF {tg l:Expr} {tl:TE} (hl:PE X l tl):PI X tg l (ZAw X.K tl):=by
 intro pins s σ H R I h
 refine thn (hl pins s σ H _ I h) fun v s1 ⟨x,H1,I1,r1,q1⟩=>?_
 obtain ⟨a,e,q1⟩:=q1
 subst e
 cases r1
 rcases q1 with ⟨⟨xs,hq⟩,q⟩ | ⟨⟨xs,hq⟩,q⟩
 ·obtain ⟨its,rv,p,hz⟩:=I1.list hq
  refine wpAny_pyIter_list p.isList ?_
  refine ⟨s1.heap.objs.size,[s1.heap.objs.size],_,_,H1,rfl,I1.kept (t':=s1.toks) fun b o e=>Heap.get?_push_of_some _ e,ZmN a _,⟨_,Heap.get?_push_size _ rfl,rfl,rfl⟩,fun b hb=>?_,q⟩
  have e:b=s1.heap.objs.size:=by simpa using hb
  subst e
  exact I1.fpOk (Yd _) (I1.hok.fresh (Yd _))
 ·obtain ⟨its,rv,p,hz⟩:=I1.tuple hq
  refine wpAny_pyIter_tuple (show s1.heap.IsTuple a its.toArray from p) ?_
  refine ⟨s1.heap.objs.size,[s1.heap.objs.size],_,_,H1,rfl,I1.kept (t':=s1.toks) fun b o e=>Heap.get?_push_of_some _ e,ZkW a _,⟨_,Heap.get?_push_size _ rfl,rfl,rfl⟩,fun b hb=>?_,q⟩
  have e:b=s1.heap.objs.size:=by simpa using hb
  subst e
  exact I1.fpOk (Yd _) (I1.hok.fresh (Yd _))
def mIn (f:EM):IM:=fun ρ θ=>(f ρ θ).bind fun d θ=>match seqOf θ d with
 | some _=>.ok (.seq d) θ
 | none=>.bad
theorem ZhX {tg l:Expr} {f:EM} (h:ME X l f):MI X tg l (mIn f):=by
 refine PI.imp (ZuF h) fun σ H R q=>?_
 obtain ⟨B,θ,ρ,F,w⟩:=q
 refine ZJ (step F w) ?_
 rintro v H1 ⟨B1,θ1,d,E1,F1,rd,w1⟩
 split at w1
 ·rename_i xs e
  obtain ⟨a,vs,rfl,h1,h2⟩:=Zdd F1.good rd e
  refine ⟨a,rfl,?_⟩
  have fin:=fun J (hJ:SrcRep X.K B1 H1 (.seq d) J)=>ZR (Rel:=SrcRep X.K) F1.good hJ w1
  cases d with
  | tup ys=>
   obtain ⟨a',us,e1,g1,_,_⟩:=id rd
   cases e1
   exact .inr ⟨⟨us,SqT.of g1⟩,fin _ ⟨a,rd,rfl⟩⟩
  | scr ns=>
   have hS:SqL X.K H1 a (ns.map V.int):=by
    obtain ⟨a',e1,g1⟩:=id rd
    cases e1
    rcases g1 with ⟨o,g1,_⟩ | g1
    ·exact .inl (.inr ⟨o,g1⟩)
    ·exact .inr (F1.good.kc a ns g1)
   exact .inl ⟨⟨_,hS⟩,fin _ ⟨a,rd,rfl⟩⟩
  | lst ys=>
   obtain ⟨a',us,e1,g1,_⟩:=ZaH F1.good rd (show Zbb θ1 (.lst ys)=some xs from e)
   cases e1
   exact .inl ⟨⟨us,SqL.of g1⟩,fin _ ⟨a,rd,rfl⟩⟩
  | ref l=>
   obtain ⟨a',us,e1,g1,_⟩:=ZaH F1.good rd (show Zbb θ1 (.ref l)=some xs from e)
   cases e1
   exact .inl ⟨⟨us,SqL.of g1⟩,fin _ ⟨a,rd,rfl⟩⟩
  | non=>cases e
  | bl _=>cases e
  | int _=>cases e
  | str _=>cases e
  | ty _=>cases e
 ·exact w1.elim
def Zci (f:AM):IM:=fun ρ θ=>(f ρ θ).bind fun ds θ=>match ds with
 | [.int j]=>if -1000000≤j∧j≤1000000 then .ok (.rng 0 j.toNat) θ else .bad
 | _=>.bad
theorem Zc8 {tg a:Expr} {f:AM} {p pos:Pos} (hm:X.mg "range"=none) (ha:MA X [a] f) (hg:Gl X "range":=by rfl) (hs:starEach [a] X.env=[(false,eval a X.env)]:=by rfl):MI X tg (.Call (.Name "range" p) [a] [] pos) (Zci f):=by
 refine PI.imp (ZmZ hg hm ha hs) fun σ H R q=>?_
 obtain ⟨B,θ,ρ,F,w⟩:=q
 refine Zbi (Zf3 F w) ?_
 rintro vs H1 ⟨B1,θ1,ds,E1,F1,rd,w1⟩
 split at w1
 ·rename_i j
  split at w1
  ·rename_i hj
   obtain ⟨v,rfl,rv⟩:=rd.one
   cases (show v=V.int j from rv)
   exact ⟨j,rfl,by have:=hj.1; omega,by have:=hj.2; omega,ZR (Rel:=SrcRep X.K) F1.good (show SrcRep X.K B1 H1 (.rng 0 j.toNat) _ from rfl) w1⟩
  ·exact w1.elim
 ·exact w1.elim
def inEnv (src:List Nat) (ρ:List Sl) (x:D):List Sl:=Sl.val x::src.map fun (j:Nat)=>match ρ[j]? with
 | some (Sl.val d)=>Sl.val d
 | _=>Sl.no
theorem Frm.inner {B:Bx} {θ:Sto} {ρ:List Sl} {σ:St} {H:Hp} (F:Frm X.cl B θ ρ σ H) (src:List Nat) {x:D} {v:V} (r:RepV B H x v):Frm X.cl B θ (inEnv src ρ x) (L2.inner src σ (some v)) H:=by
 have key:∀(i:Nat) (s:Sl),(inEnv src ρ x)[i]?=some s→s=.no∨∃d,s=.val d∧∃v',(L2.inner src σ (some v))[i]?=some (some v')∧RepV B H d v':=fun i s e=>by
  cases i with
  | zero=>simp [inEnv] at e; subst e; exact .inr ⟨x,rfl,v,by simp [L2.inner],r⟩
  | succ i=>
   simp only [inEnv,YZ,Yn] at e
   simp only [L2.inner,YZ,Yn]
   cases q:src[i]? with
   | none=>rw [q] at e; cases e
   | some j=>
    rw [q] at e
    simp only [Option.map_some,Option.some.injEq] at e
    split at e
    ·rename_i d ed
     subst e
     obtain ⟨v',h1,h2⟩:=F.val j d ed
     exact .inr ⟨d,rfl,v',by simp [h1],h2⟩
    ·exact .inl e.symm
 refine ⟨F.good,by simp [inEnv,L2.inner],fun i d e=>?_,fun i xs e=>?_,fun i j xs ys a _ e _=>?_⟩
 ·rcases key i _ e with z | ⟨d',z,v',h1,h2⟩
  ·cases z
  ·cases z; exact ⟨v',h1,h2⟩
 ·rcases key i _ e with z | ⟨d',z,_⟩<;>cases z
 ·rcases key i _ e with z | ⟨d',z,_⟩<;>cases z
inductive Fl where
 | nx | rt (d:D) | bk | ct
abbrev SM:=List Sl→Sto→R (Fl×List Sl)
def ZsF (Dn:Zfy) (B:Bx) (σ:St) (H:Hp):Fl→Prop
 | .nx=>Dn.nx σ H
 | .bk=>Dn.bk σ H
 | .ct=>Dn.ct σ H
 | .rt d=>∀v,RepV B H d v→Dn.rt v H
def wpS (X:Cx) (σ:St) (B:Bx) (H:Hp) (r:R (Fl×List Sl)) (Dn:Zfy):Prop:=match r with
 | .ok (fl,ρ') θ'=>∀B' H' σ',ExtS B B' H H'→Frm X.cl B' θ' ρ' σ' H'→ZsF Dn B' σ' H' fl
 | .ex c θ'=>XE X σ B H c θ'
 | .bad=>False
def tMS (X:Cx) (f:SM):TS:=fun Dn σ H=>∃B θ ρ,Frm X.cl B θ ρ σ H∧wpS X σ B H (f ρ θ) Dn
def MS (X:Cx) (st:Stmt) (f:SM):Prop:=PS X st (tMS X f)
def MSs (X:Cx) (sts:List Stmt) (f:SM):Prop:=PSs X sts (tMS X f)
theorem PS.imp {st:Stmt} {t t':TS} (h:PS X st t) (hi:∀D σ H,t' D σ H→t D σ H):PS X st t':=fun pins s σ H D I q=>h pins s σ H D I (hi D σ H q)
theorem PSs.imp {st:List Stmt} {t t':TS} (h:PSs X st t) (hi:∀D σ H,t' D σ H→t D σ H):PSs X st t':=fun pins s σ H D I q=>h pins s σ H D I (hi D σ H q)
theorem wpS.trans {σ σ':St} {B B':Bx} {H H':Hp} {r:R (Fl×List Sl)} {Dn:Zfy} (h:wpS X σ B H r Dn) (E:ExtS B B' H H'):wpS X σ' B' H' r Dn:=by
 cases r with
 | ok a θ'=>exact fun B2 H2 σ2 e g=>h B2 H2 σ2 (E.trans e) g
 | ex c θ'=>exact h
 | bad=>exact h
theorem wpS.bind {α β:Type} {Rel:Bx→Hp→α→β→Prop} {σ:St} {B:Bx} {H:Hp} {r:R α} {k:α→Sto→R (Fl×List Sl)} {Dn:Zfy} (h:wpS X σ B H (r.bind k) Dn) :
  wpR X σ Rel B H r (fun b H1=>∃B1 θ1 a,ExtE B B1 H H1∧Good X.cl B1 θ1 H1∧Rel B1 H1 a b∧wpS X σ B1 H1 (k a θ1) Dn):=by
 cases r with
 | ok a θ'=>exact fun B1 H1 b E g q=>⟨B1,θ',a,E,g,q,wpS.trans h E.toExtS⟩
 | ex c θ'=>exact h
 | bad=>exact h
theorem Zd1 {σ:St} {H:Hp} {B:Bx} {θ:Sto} {ρ:List Sl} {f:EM} {k:D→Sto→R (Fl×List Sl)} {Dn:Zfy} (F:Frm X.cl B θ ρ σ H) (h:wpS X σ B H ((f ρ θ).bind k) Dn) :
  tM X f σ H (fun v H1=>∃B1 θ1 d,ExtE B B1 H H1∧Frm X.cl B1 θ1 ρ σ H1∧RepV B1 H1 d v∧wpS X σ B1 H1 (k d θ1) Dn):=
 ⟨B,θ,ρ,F,(wpS.bind (Rel:=RepV) h).mono fun v H1 ⟨B1,θ1,d,E,G,r,w⟩=>⟨B1,θ1,d,E,F.ext E G,r,w⟩⟩
theorem ZnW {σ:St} {H:Hp} {B:Bx} {θ:Sto} {ρ:List Sl} {f:TMr} {k:Bool→Sto→R (Fl×List Sl)} {Dn:Zfy} (F:Frm X.cl B θ ρ σ H) (h:wpS X σ B H ((f ρ θ).bind k) Dn) :
  tMT X f σ H (fun c H1=>∃B1 θ1,ExtE B B1 H H1∧Frm X.cl B1 θ1 ρ σ H1∧wpS X σ B1 H1 (k c θ1) Dn):=
 ⟨B,θ,ρ,F,(wpS.bind (Rel:=EqB) h).mono fun v H1 ⟨B1,θ1,d,E,G,r,w⟩=>by cases (show d=v from r); exact ⟨B1,θ1,E,F.ext E G,w⟩⟩
theorem Zen {σ:St} {B:Bx} {H:Hp} {θ:Sto} {ρ:List Sl} {fl:Fl} {Dn:Zfy} (F:Frm X.cl B θ ρ σ H) (h:wpS X σ B H (.ok (fl,ρ) θ) Dn):ZsF Dn B σ H fl:=h B H σ (ExtS.refl B H) F
def ZK:SM:=fun ρ θ=>.ok (.nx,ρ) θ
def Zg7 (r:R (Fl×List Sl)) (k:SM):R (Fl×List Sl):=r.bind fun p θ=>match p with
 | (.nx,ρ)=>k ρ θ
 | p=>.ok p θ
def Zr (f g:SM):SM:=fun ρ θ=>Zg7 (f ρ θ) g
theorem Zv:MSs X [] ZK:=PSs.imp Zrk fun D σ H h=>by
 obtain ⟨B,θ,ρ,F,w⟩:=h
 exact Zen F w
theorem wpS.seq {σ:St} {B:Bx} {H:Hp} {r:R (Fl×List Sl)} {g:SM} {Dn:Zfy} (w:wpS X σ B H (Zg7 r g) Dn):wpS X σ B H r { Dn with nx:=tMS X g Dn }:=by
 cases r with
 | ex c θ'=>exact w
 | bad=>exact w
 | ok p θ'=>
  obtain ⟨fl,ρ'⟩:=p
  intro B' H' σ' E F
  cases fl with
  | nx=>exact ⟨B',θ',ρ',F,wpS.trans w E⟩
  | bk=>exact w B' H' σ' E F
  | ct=>exact w B' H' σ' E F
  | rt d=>exact w B' H' σ' E F
theorem Ze {st:Stmt} {rest:List Stmt} {f g:SM} (h1:MS X st f) (h2:MSs X rest g):MSs X (st::rest) (Zr f g):=PSs.imp (Zoe h1 h2) fun D σ H h=>by
 obtain ⟨B,θ,ρ,F,w⟩:=h
 exact ⟨B,θ,ρ,F,wpS.seq w⟩
theorem Zg {st:Stmt} {f:SM} (h1:MS X st f):MSs X [st] f:=Zrj h1
def Zll:SM:=fun _ _=>.bad
theorem Zgi {st:Stmt}:MS X st Zll:=fun _ _ _ _ _ _ h=>by obtain ⟨_,_,_,_,w⟩:=h; exact w.elim
def zn (f:EM):SM:=fun ρ θ=>(f ρ θ).bind fun _ θ=>.ok (.nx,ρ) θ
theorem ZP {e:Expr} {f:EM} {pos:Pos} (he:ME X e f) (hs:swapsWith e none pos.line X.env=pure false:=by rfl):MS X (.Expr e pos) (zn f):=PS.imp (ZlP he hs) fun D σ H h=>by
 obtain ⟨B,θ,ρ,F,w⟩:=h
 refine ZJ (Zd1 F w) ?_
 rintro v H1 ⟨B1,θ1,d,E1,F1,rd,w1⟩
 exact Zen F1 w1
def ZM (f:EM):SM:=fun ρ θ=>(f ρ θ).bind fun d θ=>.ok (.rt d,ρ) θ
theorem Zu {e:Expr} {f:EM} {pos:Pos} (he:ME X e f):MS X (.Return (some e) pos) (ZM f):=PS.imp (ZuA he) fun D σ H h=>by
 obtain ⟨B,θ,ρ,F,w⟩:=h
 refine ZJ (Zd1 F w) ?_
 rintro v H1 ⟨B1,θ1,d,E1,F1,rd,w1⟩
 exact Zen F1 w1 v rd
def Zgk:SM:=fun ρ θ=>.ok (.rt .non,ρ) θ
theorem Zey {pos:Pos}:MS X (.Return none pos) Zgk:=PS.imp Zrl fun D σ H h=>by
 obtain ⟨B,θ,ρ,F,w⟩:=h
 exact Zen F w .non rfl
def mIf (t:TMr) (f g:SM):SM:=fun ρ θ=>(t ρ θ).bind fun k θ=>if k=true then f ρ θ else g ρ θ
theorem ZE {c:Expr} {a b:List Stmt} {t:TMr} {f g:SM} {pos:Pos} (hc:MT X c t) (ha:MSs X a f) (hb:MSs X b g):MS X (.If c a b pos) (mIf t f g):=PS.imp (Zwx hc ha hb) fun D σ H h=>by
 obtain ⟨B,θ,ρ,F,w⟩:=h
 refine Zd0 (ZnW F w) ?_
 rintro k H1 ⟨B1,θ1,E1,F1,w1⟩
 cases k with
 | true=>rw [if_pos rfl] at w1 ⊢; exact ⟨B1,θ1,ρ,F1,w1⟩
 | false=>rw [if_neg Yi] at w1 ⊢; exact ⟨B1,θ1,ρ,F1,w1⟩
theorem Frm.set {B:Bx} {θ:Sto} {ρ:List Sl} {σ:St} {H:Hp} (F:Frm X.cl B θ ρ σ H) (i:Nat) {d:D} {v:V} (r:RepV B H d v):Frm X.cl B θ (ρ.set i (.val d)) (σ.set i (some v)) H:=by
 have oth:∀(j:Nat) (s:Sl),(ρ.set i (Sl.val d))[j]?=some s→(j=i∧s=.val d∧j < σ.length)∨(j≠i∧ρ[j]?=some s):=fun j s e=>by
  by_cases q:j=i
  ·subst q
   have hl:j < ρ.length:=by
    have:=(Ya.mp e).1
    simpa using this
   rw [Yg hl] at e
   cases e
   exact .inl ⟨rfl,rfl,by rw [←F.len]; exact hl⟩
  ·rw [Yc (Ne.symm q)] at e
   exact .inr ⟨q,e⟩
 refine ⟨F.good,by simp [F.len],fun j e h=>?_,fun j xs h=>?_,fun j k xs ys a hne h1 h2 h3=>?_⟩
 ·rcases oth j _ h with ⟨rfl,z,hl⟩ | ⟨q,z⟩
  ·cases z; exact ⟨v,by rw [Yg hl],r⟩
  ·rw [Yc (Ne.symm q)]; exact F.val j e z
 ·rcases oth j _ h with ⟨rfl,z,hl⟩ | ⟨q,z⟩
  ·cases z
  ·rw [Yc (Ne.symm q)]; exact F.own j xs z
 ·rcases oth j _ h1 with ⟨_,z,_⟩ | ⟨q1,z1⟩
  ·cases z
  ·rcases oth k _ h2 with ⟨_,z,_⟩ | ⟨q2,z2⟩
   ·cases z
   ·rw [Yc (Ne.symm q1)] at h3
    rw [Yc (Ne.symm q2)]
    exact F.ne j k xs ys a hne z1 z2 h3
def Z1 (i:Nat) (f:EM):SM:=fun ρ θ=>(f ρ θ).bind fun d θ=>.ok (.nx,ρ.set i (.val d)) θ
theorem ZI (i:Nat) {x:Str} {e:Expr} {f:EM} {pos pos':Pos} (hN:X.N.Nodup) (he:ME X e f) (hi:X.N[i]?=some x:=by rfl) (hx:Loc X.env.scope x:=by first | exact Or.inl rfl | exact Or.inr rfl)
  (hs:swapsWith e (some (.Name x pos')) pos.line X.env=pure false:=by rfl) (hf:X.fn x=true∨X.env.scope.names.lookup x=some .local:=by first | exact .inl rfl | exact .inr rfl):MS X (.Assign [.Name x pos'] e pos) (Z1 i f):=
 PS.imp (Zog hN hi hx he hs hf) fun D σ H h=>by
 obtain ⟨B,θ,ρ,F,w⟩:=h
 refine ZJ (Zd1 F w) ?_
 rintro v H1 ⟨B1,θ1,d,E1,F1,rd,w1⟩
 exact w1 B1 H1 _ (ExtS.refl _ _) (F1.set i rd)
end
end
end L2.MM
namespace L2.MM
open PySem PySem.Spec PyProof.Rows PySem.SeqAt
noncomputable section
variable {X:Cx}
def Zgl (k:SM):Fl×List Sl→Sto→R (Fl×List Sl)
 | (.nx,ρ),θ=>k ρ θ
 | (.ct,ρ),θ=>k ρ θ
 | (.bk,ρ),θ=>.ok (.nx,ρ) θ
 | (.rt d,ρ),θ=>.ok (.rt d,ρ) θ
theorem wpS.loop {σ:St} {B:Bx} {H:Hp} {r:R (Fl×List Sl)} {k:SM} {Dn:Zfy} (w:wpS X σ B H (r.bind (Zgl k)) Dn) :
  wpS X σ B H r { Dn with nx:=fun σ' H'=>∃B' θ' ρ',ExtS B B' H H'∧Frm X.cl B' θ' ρ' σ' H'∧wpS X σ' B' H' (k ρ' θ') Dn,ct:=fun σ' H'=>∃B' θ' ρ',ExtS B B' H H'∧Frm X.cl B' θ' ρ' σ' H'∧wpS X σ' B' H' (k ρ' θ') Dn,bk:=Dn.nx }:=by
 cases r with
 | ex c θ'=>exact w
 | bad=>exact w
 | ok p θ'=>
  obtain ⟨fl,ρ'⟩:=p
  intro B' H' σ' E F
  cases fl with
  | nx=>exact ⟨B',θ',ρ',E,F,wpS.trans w E⟩
  | ct=>exact ⟨B',θ',ρ',E,F,wpS.trans w E⟩
  | bk=>exact w B' H' σ' E F
  | rt d=>exact w B' H' σ' E F
abbrev TgM:=D→List Sl→Option (List Sl)
def tMG (X:Cx) (g:TgM):TG:=fun v σ H Q=>∃B θ ρ d ρ',Frm X.cl B θ ρ σ H∧RepV B H d v∧g d ρ=some ρ'∧∀σ',Frm X.cl B θ ρ' σ' H→Q σ' H
def MG (X:Cx) (tg:Expr) (g:TgM):Prop:=PG X tg (tMG X g)
theorem PG.imp {tg:Expr} {t t':TG} (h:PG X tg t) (hi:∀v σ H Q,t' v σ H Q→t v σ H Q):PG X tg t':=fun pins s σ H v u Q I r q=>h pins s σ H v u Q I r (hi v σ H Q q)
def gNm (i:Nat):TgM:=fun d ρ=>some (ρ.set i (.val d))
theorem ZcZ (i:Nat) {x:Str} {pos:Pos} (hN:X.N.Nodup) (hi:X.N[i]?=some x:=by rfl) (hx:Loc X.env.scope x:=by first | exact Or.inl rfl | exact Or.inr rfl) (hf:X.fn x=true∨X.env.scope.names.lookup x=some .local:=by first | exact .inl rfl | exact .inr rfl):MG X (.Name x pos) (gNm i):=
 PG.imp (Zgb hN hi hx hf) fun v σ H Q h=>by
 obtain ⟨B,θ,ρ,d,ρ',F,r,e,q⟩:=h
 cases e
 exact q _ (F.set i r)
open Classical in
def Zb9 (S:Src) (all:List D) (tg:TgM) (body:SM):List D→SM
 | []=>fun ρ θ=>if S.items θ=some all then .ok (.nx,ρ) θ else .bad
 | x::r=>fun ρ θ=>if S.items θ=some all then (match tg x ρ with
  | none=>.bad
  | some ρ1=>(body ρ1 θ).bind (Zgl (Zb9 S all tg body r))) else .bad
def ZcH (fi:IM) (tg:TgM) (body:SM):SM:=fun ρ θ=>(fi ρ θ).bind fun S θ=>match S.items θ with
 | some xs=>Zb9 S xs tg body xs ρ θ
 | none=>.bad
open Classical in
theorem Zez {tg iter:Expr} {body:List Stmt} {fi:IM} {g:TgM} {fb:SM} {pos:Pos} (hp:PassesOwn (model X.prog X.w) X.A X.env X.xe) (hi:MI X tg iter fi) (hg:MG X tg g) (hb:MSs X body fb) (hc:X.calm=true:=by rfl)
  (hs:∀x,foldedSetIterable iter X.env x=pure x:=by intro _; rfl):MS X (.For tg iter body [] pos) (ZcH fi g fb):=
 PS.imp (Zoh hp hc hi hg hb hs) fun Dn σ H h=>by
 obtain ⟨B,θ,ρ,F,w⟩:=h
 refine ⟨B,θ,ρ,F,(wpS.bind (Rel:=SrcRep X.K) w).mono ?_⟩
 rintro J H1 ⟨B1,θ1,S,E1,G1,rJ,w1⟩
 split at w1
 ·rename_i xs e1
  refine ⟨fun i m σ H=>∃B θ ρ,Frm X.cl B θ ρ σ H∧SrcRep X.K B H S J∧m=xs.length-i∧i≤xs.length∧wpS X σ B H (Zb9 S xs g fb (xs.drop i) ρ θ) Dn,⟨xs.length,B1,θ1,ρ,F.ext E1 G1,rJ,rfl,YB _,w1⟩,?_⟩
  rintro i m σ2 H2 ⟨B2,θ2,ρ2,F2,rJ2,rfl,hi2,w2⟩
  by_cases hlt:i<xs.length
  ·rw [Yv hlt] at w2
   unfold Zb9 at w2
   split at w2
   ·rename_i e2
    obtain ⟨g1,g2⟩:=(Zjk F2.good rJ2 e2).1 i xs[i] (List.getElem?_eq_getElem hlt)
    split at w2
    ·exact w2.elim
    ·rename_i ρ3 e3
     refine .inr ⟨g1,fun σ' H'=>∃B' θ' ρ',ExtS B2 B' H2 H'∧Frm X.cl B' θ' ρ' σ' H'∧wpS X σ' B' H' (Zb9 S xs g fb (xs.drop (i+1)) ρ' θ') Dn,?_,fun x H' hy=>?_⟩
     ·rintro σ' H' ⟨B',θ',ρ',E',F',w'⟩
      exact ⟨xs.length-(i+1),by omega,B',θ',ρ',F',rJ2.ext E',rfl,hlt,w'⟩
     ·obtain ⟨rfl,rx⟩:=g2 x H' hy
      refine ⟨B2,θ2,ρ2,xs[i],ρ3,F2,rx,e3,fun σ' F'=>⟨B2,θ2,ρ3,F',?_⟩⟩
      have w3:=wpS.loop w2
      exact wpS.trans w3 (ExtS.refl _ _)
   ·exact w2.elim
  ·have e:i=xs.length:=by omega
   subst e
   rw [Ja] at w2
   unfold Zb9 at w2
   split at w2
   ·rename_i e2
    exact .inl ⟨(Zjk F2.good rJ2 e2).2,Zen F2 w2⟩
   ·exact w2.elim
 ·exact w1.elim
def Zc9 (t:TMr) (body:SM):Nat→SM
 | 0=>Zll
 | n+1=>fun ρ θ=>(t ρ θ).bind fun k θ=>if k=true then (body ρ θ).bind (Zgl (Zc9 t body n)) else .ok (.nx,ρ) θ
theorem Zkv (n:Nat) {c:Expr} {body:List Stmt} {t:TMr} {fb:SM} {pos:Pos} (hp:PassesOwn (model X.prog X.w) X.A X.env X.xe) (hc:MT X c t) (hb:MSs X body fb):MS X (.While c body [] pos) (Zc9 t fb n):=
 PS.imp (Zof hp hc hb) fun Dn σ H h=>by
 obtain ⟨B,θ,ρ,F,w⟩:=h
 refine ⟨fun m σ H=>∃B θ ρ,Frm X.cl B θ ρ σ H∧wpS X σ B H (Zc9 t fb m ρ θ) Dn,⟨n,B,θ,ρ,F,w⟩,?_⟩
 rintro m σ2 H2 ⟨B2,θ2,ρ2,F2,w2⟩
 cases m with
 | zero=>exact w2.elim
 | succ m=>
  refine Zd0 (ZnW F2 w2) ?_
  rintro k H3 ⟨B3,θ3,E3,F3,w3⟩
  cases k with
  | true=>
   rw [if_pos rfl] at w3 ⊢
   refine ⟨_,?_,⟨B3,θ3,ρ2,F3,wpS.loop w3⟩⟩
   rintro σ' H' ⟨B',θ',ρ',E',F',w'⟩
   exact ⟨m,YD _,B',θ',ρ',F',w'⟩
  | false=>
   rw [if_neg Yi] at w3 ⊢
   exact Zen F3 w3
theorem Frm.setOwn {cl:Mo} {B:Bx} {θ:Sto} {ρ:List Sl} {σ:St} {H:Hp} (F:Frm cl B θ ρ σ H) (i:Nat) {p:Addr} (hp:H p=none) {xs:List D} {vs:List V} (r:RepL B H xs vs) :
  ExtS B { B with os:=p::B.os } H (upd H p (.lst vs))∧Frm cl { B with os:=p::B.os } θ (ρ.set i (.own xs)) (σ.set i (some (.ref p))) (upd H p (.lst vs)):=by
 have E0:=Zc2 F.good hp (.lst vs)
 have G0:=Ze7 F.good hp (.lst vs)
 have ok:=F.good.okNone hp
 have E:ExtS B { B with os:=p::B.os } H (upd H p (.lst vs)):=⟨E0.n,E0.m,E0.fr,E0.keep,E0.sm,fun a h=>by
  rcases Yr.mp h with rfl | h
  ·exact .inr hp
  ·exact .inl h,rfl,rfl⟩
 refine ⟨E,?_⟩
 have E1:ExtS B { B with os:=p::B.os } H (upd H p (.lst vs)):=E
 have G:Good cl { B with os:=p::B.os } θ (upd H p (.lst vs)):=⟨G0.len,G0.inj,fun j c e=>(F.good.cel j c e).ext E fun u q=>by rw [ZS (zl q hp)]; exact q,fun j hj=>⟨(G0.cF j hj).1,fun z=>by
   rcases Yr.mp z with z | z
   ·exact ok.1 j hj z
   ·exact (G0.cF j hj).2 z⟩,G0.Fs,fun a z=>by
   rcases Yr.mp z with rfl | z
   ·rw [zd]; simp
   ·exact G0.oS a z,fun a z=>by
   rcases Yr.mp z with rfl | z
   ·exact ok.2.1
   ·exact G0.oF a z,G0.kc⟩
 have oth:∀(j:Nat) (s:Sl),(ρ.set i (Sl.own xs))[j]?=some s→(j=i∧s=.own xs∧j < σ.length)∨(j≠i∧ρ[j]?=some s):=fun j s e=>by
  by_cases q:j=i
  ·subst q
   have hl:j < ρ.length:=by
    have:=(Ya.mp e).1
    simpa using this
   rw [Yg hl] at e
   cases e
   exact .inl ⟨rfl,rfl,by rw [←F.len]; exact hl⟩
  ·rw [Yc (Ne.symm q)] at e
   exact .inr ⟨q,e⟩
 have old:∀j ys,ρ[j]?=some (Sl.own ys)→∀a,σ[j]?=some (some (V.ref a))→a≠p:=fun j ys h a e z=>by
  obtain ⟨a',us,q1,q2,q3,q4⟩:=F.own j ys h
  rw [e] at q1
  cases q1
  rw [z,hp] at q3
  cases q3
 refine ⟨G,by simp [F.len],fun j d h=>?_,fun j ys h=>?_,fun j k ys zs a hne h1 h2 h3=>?_⟩
 ·rcases oth j _ h with ⟨_,z,_⟩ | ⟨q,z⟩
  ·cases z
  ·rw [Yc (Ne.symm q)]
   obtain ⟨v,q1,q2⟩:=F.val j d z
   exact ⟨v,q1,q2.ext E⟩
 ·rcases oth j _ h with ⟨rfl,z,hl⟩ | ⟨q,z⟩
  ·cases z
   exact ⟨p,vs,by rw [Yg hl],Ys,zd,r.ext E⟩
  ·rw [Yc (Ne.symm q)]
   obtain ⟨a,us,q1,q2,q3,q4⟩:=F.own j ys z
   exact ⟨a,us,q1,Yq _ q2,by rw [ZS (zl q3 hp)]; exact q3,q4.ext E⟩
 ·rcases oth j _ h1 with ⟨rfl,z1,hl⟩ | ⟨q1,z1⟩
  ·rcases oth k _ h2 with ⟨rfl,z2,_⟩ | ⟨q2,z2⟩
   ·exact absurd rfl hne
   ·rw [Yg hl] at h3
    cases h3
    rw [Yc (Ne.symm q2)]
    exact fun z=>old k zs z2 _ z rfl
  ·rw [Yc (Ne.symm q1)] at h3
   rcases oth k _ h2 with ⟨rfl,z2,hl⟩ | ⟨q2,z2⟩
   ·rw [Yg hl]
    intro z
    cases z
    exact old j ys z1 _ h3 rfl
   ·rw [Yc (Ne.symm q2)]
    exact F.ne j k ys zs a hne z1 z2 h3
def ZeA (i:Nat) (f:AM):SM:=fun ρ θ=>(f ρ θ).bind fun xs θ=>if xs.length≤BIG then .ok (.nx,ρ.set i (.own xs)) θ else .bad
theorem ZnX {σ:St} {H:Hp} {B:Bx} {θ:Sto} {ρ:List Sl} {f:AM} {k:List D→Sto→R (Fl×List Sl)} {Dn:Zfy} (F:Frm X.cl B θ ρ σ H) (h:wpS X σ B H ((f ρ θ).bind k) Dn) :
  tMA X f σ H (fun v H1=>∃B1 θ1 d,ExtE B B1 H H1∧Frm X.cl B1 θ1 ρ σ H1∧RepL B1 H1 d v∧wpS X σ B1 H1 (k d θ1) Dn):=
 ⟨B,θ,ρ,F,(wpS.bind (Rel:=RepL) h).mono fun v H1 ⟨B1,θ1,d,E,G,r,w⟩=>⟨B1,θ1,d,E,F.ext E G,r,w⟩⟩
theorem ZgR (i:Nat) {x:Str} {es:List Expr} {f:AM} {pos pos' lpos:Pos} (hN:X.N.Nodup) (he:MA X es f) (hi:X.N[i]?=some x:=by rfl) (hx:Loc X.env.scope x:=by first | exact Or.inl rfl | exact Or.inr rfl)
  (hs:swapsWith (.List es lpos) (some (.Name x pos')) pos.line X.env=pure false:=by rfl) (hf:X.fn x=true∨X.env.scope.names.lookup x=some .local:=by first | exact .inl rfl | exact .inr rfl):MS X (.Assign [.Name x pos'] (.List es lpos) pos) (ZeA i f):=
 PS.imp (Zog hN hi hx (Zk8 he) hs hf) fun D σ H h=>by
 obtain ⟨B,θ,ρ,F,w⟩:=h
 refine Zbi (ZnX F w) ?_
 rintro vs H1 ⟨B1,θ1,xs,E1,F1,rd,w1⟩
 split at w1
 ·rename_i hz
  refine ⟨by rw [rd.len]; exact zM hz,fun p hp=>?_⟩
  obtain ⟨E2,F2⟩:=F1.setOwn i hp rd
  exact w1 _ _ _ E2 F2
 ·exact w1.elim
theorem Frm.updOwn {cl:Mo} {B:Bx} {θ:Sto} {ρ:List Sl} {σ:St} {H:Hp} (F:Frm cl B θ ρ σ H) {i:Nat} {xs ys:List D} {us:List V} {a:Addr} (h:ρ[i]?=some (Sl.own xs)) (ha:σ[i]?=some (some (.ref a))) (r:RepL B H ys us) :
  ExtS B B H (upd H a (.lst us))∧Frm cl B θ (ρ.set i (.own ys)) σ (upd H a (.lst us)):=by
 obtain ⟨a',vs,q1,q2,q3,q4⟩:=F.own i xs h
 rw [ha] at q1
 cases q1
 have hc:∀j,j<B.n→B.m j≠a:=fun j hj z=>(F.good.cF j hj).2 (by rw [z]; exact q2)
 have E:ExtS B B H (upd H a (.lst us)):=⟨Yd _,fun _ _=>rfl,fun i h h'=>absurd h' (YH.mpr h),fun b o e _ hb=>by rw [ZS (fun z=>hb (by rw [z]; exact q2))]; exact e,fun b e=>by
  by_cases q:b=a
  ·rw [q,zd]; simp
  ·rw [ZS q]; exact e,fun _ h=>.inl h,rfl,rfl⟩
 have hl:i < ρ.length:=(Ya.mp h).1
 have oth:∀(j:Nat) (s:Sl),(ρ.set i (Sl.own ys))[j]?=some s→(j=i∧s=.own ys)∨(j≠i∧ρ[j]?=some s):=fun j s e=>by
  by_cases q:j=i
  ·subst q
   rw [Yg hl] at e
   cases e
   exact .inl ⟨rfl,rfl⟩
  ·rw [Yc (Ne.symm q)] at e
   exact .inr ⟨q,e⟩
 refine ⟨E,⟨⟨F.good.len,F.good.inj,fun j c e=>(F.good.cel j c e).ext E fun u q=>by
   have hj:j<B.n:=by rw [←F.good.len]; exact (Ya.mp e).1
   rw [ZS (hc j hj)]; exact q,F.good.cF,fun b z=>E.sm b (F.good.Fs b z),fun b z=>E.sm b (F.good.oS b z),F.good.oF,F.good.kc⟩,by simp [F.len],fun j d e=>?_,fun j zs e=>?_,fun j k zs ws b hne h1 h2 h3=>?_⟩⟩
 ·rcases oth j _ e with ⟨_,z⟩ | ⟨_,z⟩
  ·cases z
  ·obtain ⟨v,p1,p2⟩:=F.val j d z
   exact ⟨v,p1,p2.ext E⟩
 ·rcases oth j _ e with ⟨rfl,z⟩ | ⟨q,z⟩
  ·cases z
   exact ⟨a,us,ha,q2,zd,r.ext E⟩
  ·obtain ⟨b,ws,p1,p2,p3,p4⟩:=F.own j zs z
   refine ⟨b,ws,p1,p2,?_,p4.ext E⟩
   rw [ZS (fun z'=>F.ne i j xs zs a (Ne.symm q) h z ha (by rw [←z']; exact p1))]
   exact p3
 ·have o1:∃zs',ρ[j]?=some (Sl.own zs'):=by
   rcases oth j _ h1 with ⟨rfl,_⟩ | ⟨_,z⟩
   ·exact ⟨xs,h⟩
   ·exact ⟨_,z⟩
  have o2:∃ws',ρ[k]?=some (Sl.own ws'):=by
   rcases oth k _ h2 with ⟨rfl,_⟩ | ⟨_,z⟩
   ·exact ⟨xs,h⟩
   ·exact ⟨_,z⟩
  obtain ⟨zs',o1⟩:=o1
  obtain ⟨ws',o2⟩:=o2
  exact F.ne j k zs' ws' b hne o1 o2 h3
def Zc1 (i:Nat) (f:EM):SM:=fun ρ θ=>(f ρ θ).bind fun d θ=>match ρ[i]? with
 | some (Sl.own xs)=>if xs.length<BIG then .ok (.nx,ρ.set i (.own (xs++[d]))) θ else .bad
 | _=>.bad
theorem ZgS (i:Nat) {x:Str} {e:Expr} {f:EM} {p apos pos pos':Pos} (he:ME X e f) (hN:X.N[i]?=some x:=by rfl) (hv:Vis X.env.scope x:=by first | exact Or.inl rfl | exact Or.inr (Or.inl rfl) | exact Or.inr (Or.inr rfl))
  (hd:(x == ("__debug__":Str))=false:=by decide) (hcd:(x == ("__classdict__":Str))=false:=by decide)
  (hpe:∀{to:TE},PE X (.Name x p) to→PE X (.Call (.Attribute (.Name x p) "append" apos) [e] [] pos) (tBM X.K "list" Zjp to (ZlJ (tM X f) ZnT)))
  (hs:swapsWith (.Call (.Attribute (.Name x p) "append" apos) [e] [] pos) none pos'.line X.env=pure false:=by rfl):MS X (.Expr (.Call (.Attribute (.Name x p) "append" apos) [e] [] pos) pos') (Zc1 i f):=
 PS.imp (ZlP (hpe (Zok hN hv hd hcd)) hs) fun D σ H h=>by
 obtain ⟨B,θ,ρ,F,w⟩:=h
 have own:∃xs,ρ[i]?=some (Sl.own xs):=by
  unfold Zc1 at w
  cases q:f ρ θ with
  | bad=>rw [q] at w; exact w.elim
  | ex c θ'=>rw [q] at w; exact False.elim w
  | ok d θ'=>
   rw [q] at w
   simp only [R.bind_ok] at w
   split at w
   ·rename_i xs e; exact ⟨xs,e⟩
   ·exact w.elim
 obtain ⟨xs,hx⟩:=own
 obtain ⟨a,vs,q1,q2,q3,q4⟩:=F.own i xs hx
 refine ⟨.ref a,q1,.inl ⟨rfl,vs,SqL.of q3⟩,?_⟩
 refine ZJ (Zd1 F w) ?_
 rintro y H1 ⟨B1,θ1,d,E1,F1,rd,w1⟩
 rw [hx] at w1
 simp only at w1
 split at w1
 ·rename_i hz
  obtain ⟨a',us,p1,p2,p3,p4⟩:=F1.own i xs hx
  rw [q1] at p1
  cases p1
  refine ⟨a,us,y,rfl,rfl,p3,by rw [p4.len]; exact Yh hz (zM (Yd _)),?_⟩
  obtain ⟨E2,F2⟩:=F1.updOwn hx q1 (p4.app (show RepL B1 H1 [d] [y] from ⟨y,[],rfl,rd,rfl⟩))
  exact w1 _ _ _ E2 F2
 ·exact w1.elim
def mFreeze (i:Nat) (f:SM):SM:=fun ρ θ=>match ρ[i]? with
 | some (Sl.own xs)=>f (ρ.set i (.val (.lst xs))) θ
 | _=>f ρ θ
theorem Zk0 {i:Nat} {f:SM} {D:Zfy} {σ:St} {H:Hp} (h:tMS X (mFreeze i f) D σ H):tMS X f D σ H:=by
 obtain ⟨B,θ,ρ,F,w⟩:=h
 unfold mFreeze at w
 split at w
 ·rename_i xs hx
  obtain ⟨a,vs,q1,q2,q3,q4⟩:=F.own i xs hx
  let B':Bx:={ B with os:=B.os.filter fun b=>decide (b≠a) }
  have sub:∀b,b∈B'.os→b∈B.os∧b≠a:=fun b hb=>by
   have:=YT.mp hb
   exact ⟨this.1,of_decide_eq_true this.2⟩
  have E:ExtS B B' H H:=⟨Yd _,fun _ _=>rfl,fun i h h'=>absurd h' (YH.mpr h),fun _ _ e _ _=>e,fun _ e=>e,fun b hb=>.inl (sub b hb).1,rfl,rfl⟩
  have hc:∀j,j<B.n→B.m j≠a:=fun j hj z=>(F.good.cF j hj).2 (by rw [z]; exact q2)
  have G:Good X.cl B' θ H:=⟨F.good.len,F.good.inj,fun j c e=>(F.good.cel j c e).ext E fun _ q=>q,fun j hj=>⟨(F.good.cF j hj).1,fun z=>(F.good.cF j hj).2 (sub _ z).1⟩,F.good.Fs,fun b z=>F.good.oS b (sub b z).1,fun b z=>F.good.oF b (sub b z).1,F.good.kc⟩
  have rv:RepV B' H (.lst xs) (.ref a):=⟨a,vs,rfl,q3,⟨hc,F.good.oF a q2,fun z=>(sub a z).2 rfl⟩,q4.ext E⟩
  have hl:i < ρ.length:=(Ya.mp hx).1
  have oth:∀(j:Nat) (s:Sl),(ρ.set i (Sl.val (.lst xs)))[j]?=some s→(j=i∧s=.val (.lst xs))∨(j≠i∧ρ[j]?=some s):=fun j s e=>by
   by_cases q:j=i
   ·subst q
    rw [Yg hl] at e
    cases e
    exact .inl ⟨rfl,rfl⟩
   ·rw [Yc (Ne.symm q)] at e
    exact .inr ⟨q,e⟩
  refine ⟨B',θ,_,⟨G,by simp [F.len],fun j d e=>?_,fun j ys e=>?_,fun j k ys zs b hne h1 h2 h3=>?_⟩,wpS.trans w E⟩
  ·rcases oth j _ e with ⟨rfl,z⟩ | ⟨_,z⟩
   ·cases z; exact ⟨_,q1,rv⟩
   ·obtain ⟨v,p1,p2⟩:=F.val j d z
    exact ⟨v,p1,p2.ext E⟩
  ·rcases oth j _ e with ⟨_,z⟩ | ⟨q,z⟩
   ·cases z
   ·obtain ⟨b,ws,p1,p2,p3,p4⟩:=F.own j ys z
    refine ⟨b,ws,p1,YT.mpr ⟨p2,decide_eq_true fun z'=>?_⟩,p3,p4.ext E⟩
    subst z'
    exact F.ne i j xs ys b (Ne.symm q) hx z q1 p1
  ·rcases oth j _ h1 with ⟨_,z⟩ | ⟨_,z1⟩
   ·cases z
   ·rcases oth k _ h2 with ⟨_,z⟩ | ⟨_,z2⟩
    ·cases z
    ·exact F.ne j k ys zs b hne z1 z2 h3
 ·exact ⟨B,θ,ρ,F,w⟩
theorem Zb0 (i:Nat) {st:Stmt} {f:SM} (h:MS X st f):MS X st (mFreeze i f):=PS.imp h fun _ _ _ q=>Zk0 q
def Zeo (n:Nat) (ds:List D):List Sl:=ds.map Sl.val++List.replicate (n-ds.length) Sl.no
def ZO (np nn:Nat) (fb:SM):GM:=fun ds θ=>if ds.length=np then (fb (Zeo nn ds) θ).bind fun p θ=>match p.1 with
 | .nx=>.ok .non θ
 | .rt d=>.ok d θ
 | _=>.bad
 else .bad
def spM (X:Mo) (f:GM):Sp:=fun vs H Q E=>∃B θ ds,B.os=[]∧Good X B θ H∧RepL B H ds vs∧(match f ds θ with
 | .ok d θ'=>∀B' H' v,ExtE B B' H H'→Good X B' θ' H'→RepV B' H' d v→Q v H'
 | .ex c θ'=>False
 | .bad=>False)
def Zq (P:Program) (w:World) (K:PySem.W.Frag) (mg:Str→Option Value) (base:Heap) (k:Nat) (x:Str) (f:GM):Prop:=∃ps,Def P w K mg base k x ps (spM ⟨zB mg,K⟩ f)
theorem ZmV {cl:Mo} {B:Bx} {θ:Sto} {H:Hp} {ds:List D} {vs:List V} {N:List Str} {nn:Nat} (G:Good cl B θ H) (r:RepL B H ds vs) (hn:N.length=nn):Frm cl B θ (Zeo nn ds) (ZeO N vs) H:=by
 subst hn
 have hl:=r.len
 have key:∀(i:Nat) (s:Sl),(Zeo N.length ds)[i]?=some s→s=.no∨∃d,s=.val d∧∃v,(ZeO N vs)[i]?=some (some v)∧RepV B H d v:=fun i s e=>by
  unfold Zeo at e
  by_cases q:i<ds.length
  ·rw [Yu (by simpa using q),Yn,List.getElem?_eq_getElem q] at e
   cases e
   obtain ⟨v,h1,h2⟩:=r.get (List.getElem?_eq_getElem q)
   refine .inr ⟨_,rfl,v,?_,h2⟩
   unfold ZeO
   rw [Yu (by simpa [hl] using q),Yn,h1]
   rfl
  ·rw [YA (by simpa using q)] at e
   exact .inl (Jj (List.mem_of_getElem? e))
 refine ⟨G,by simp [Zeo,ZeO,hl],fun i d e=>?_,fun i xs e=>?_,fun i j xs ys a _ e _=>?_⟩
 ·rcases key i _ e with z | ⟨d',z,v',h1,h2⟩
  ·cases z
  ·cases z; exact ⟨v',h1,h2⟩
 ·rcases key i _ e with z | ⟨d',z,_⟩<;>cases z
 ·rcases key i _ e with z | ⟨d',z,_⟩<;>cases z
theorem mfn {P:Program} {w:World} {K:PySem.W.Frag} {mg:Str→Option Value} {base:Heap} {x qual:Str} {st:Stmt} {N ps:List Str} {k:Nat} {fb:SM} {f:Addr} {fd:FuncData} (F:Fun K x qual st f fd) (S:Zo N ps (Zj st)) (np nn:Nat) (hp:ps.length=np) (hn:N.length=nn)
  (hbody:∀(cdv:Value) (A:Around) (outer:List Env) (s:Shared) (H:Hp) (E:XK),Room k (A.deeper (envOfC qual (Zj st) s.heap.objs.size f cdv))→MSs (Zg0 CX0 P w K mg base N qual (Zj st) f cdv A outer s H E).nox (Zbd st) fb) :
  FnOk P w K mg base CX0 (k+1) f fd ps (spM ⟨zB mg,K⟩ (ZO np nn fb)):=by
 refine F.ok S ?_ ?_
 ·rintro vs H Q E ⟨B,θ,ds,_,_,r,q⟩
  unfold ZO at q
  split at q
  ·rename_i h
   split at h
   ·rename_i hl; rw [r.len,hl,hp]
   ·cases h
  ·exact q.elim
  ·exact q.elim
 ·intro cdv A outer s H vs Q E hr h
  obtain ⟨B,θ,ds,hos,G,r,q⟩:=h
  refine ⟨tMS (Zg0 CX0 P w K mg base N qual (Zj st) f cdv A outer s H E).nox fb,hbody cdv A outer s H E hr,B,θ,Zeo nn ds,ZmV G r hn,?_⟩
  unfold ZO at q
  by_cases hl:ds.length=np
  ·rw [if_pos hl] at q
   cases e:fb (Zeo nn ds) θ with
   | bad=>rw [e] at q; exact q.elim
   | ex c θ'=>rw [e] at q; exact q.elim
   | ok p θ'=>
    rw [e] at q
    obtain ⟨fl,ρ'⟩:=p
    intro B' H' σ' E' F'
    have hos':∀a,a∈B.os→False:=fun a ha=>by rw [hos] at ha; cases ha
    let B2:Bx:={ B' with os:=[] }
    have E2:ExtE B B2 H H':=⟨⟨E'.n,E'.m,E'.fr,E'.keep,E'.sm,fun a ha=>(nomatch ha),E'.F,E'.ks⟩,hos.symm,fun a o ha=>(hos' a ha).elim⟩
    have E3:ExtS B' B2 H' H':=⟨Yd _,fun _ _=>rfl,fun i h h'=>absurd h' (YH.mpr h),fun _ _ e _ _=>e,fun _ e=>e,fun b hb=>(nomatch hb),rfl,rfl⟩
    have G2:Good ⟨zB mg,K⟩ B2 θ' H':=⟨F'.good.len,F'.good.inj,fun j c e=>(F'.good.cel j c e).ext E3 fun _ q=>q,fun j hj=>⟨(F'.good.cF j hj).1,fun z=>nomatch z⟩,F'.good.Fs,fun b z=>(nomatch z),fun b z=>(nomatch z),F'.good.kc⟩
    cases fl with
    | nx=>exact q B2 H' .non E2 G2 rfl
    | rt d=>exact fun v rv=>q B2 H' v E2 G2 (rv.ext E3)
    | bk=>exact q.elim
    | ct=>exact q.elim
  ·rw [if_neg hl] at q
   exact q.elim
theorem Z0 {P:Program} {w:World} {K:PySem.W.Frag} {mg:Str→Option Value} {base:Heap} {x:Str} {st:Stmt} {N ps:List Str} {k:Nat} {fb:SM} (D0:Zw K mg x st ps) (S:Zo N ps (Zj st)) (np nn:Nat) (hp:ps.length=np) (hn:N.length=nn)
  (hbody:∀(f:Addr) (cdv:Value) (A:Around) (outer:List Env) (s:Shared) (H:Hp) (E:XK),Room k (A.deeper (envOfC x (Zj st) s.heap.objs.size f cdv))→MSs (Zg0 CX0 P w K mg base N x (Zj st) f cdv A outer s H E).nox (Zbd st) fb):Zq P w K mg base (k+1) x (ZO np nn fb):=by
 obtain ⟨f,fd,F,b,m⟩:=D0
 exact ⟨ps,f,fd,mfn F S np nn hp hn (hbody f),b,F.kp,m⟩
def Bx.inC (B:Bx):Bx:={ B with F:=fun a=>B.F a∨a∈B.os,os:=[] }
theorem inC_ok {B:Bx} {a:Addr}:B.inC.ok a↔B.ok a:=by
 constructor
 ·rintro ⟨h1,h2,h3⟩
  exact ⟨h1,fun z=>h2 (.inl z),fun z=>h2 (.inr z)⟩
 ·rintro ⟨h1,h2,h3⟩
  exact ⟨h1,fun z=>z.elim h2 h3,fun z=>nomatch z⟩
mutual
theorem RepV.same {B B':Bx} {H:Hp} (hn:B'.n=B.n) (hm:B'.m=B.m) (hk:B'.ks=B.ks) (ho:∀a,B.ok a→B'.ok a):∀{d:D} {v:V},RepV B H d v→RepV B' H d v
 | .non,_,h=>h
 | .bl _,_,h=>h
 | .int _,_,h=>h
 | .str _,_,h=>h
 | .ty _,_,h=>h
 | .scr _,_,h=>by
  obtain ⟨a,e,h⟩:=h
  refine ⟨a,e,?_⟩
  rcases h with ⟨o,h,k⟩ | h
  ·exact .inl ⟨o,h,ho a k⟩
  ·exact .inr (by rw [hk]; exact h)
 | .tup _,_,h=>by obtain ⟨a,vs,e,h,k,l⟩:=h; exact ⟨a,vs,e,h,ho a k,RepL.same hn hm hk ho l⟩
 | .lst _,_,h=>by obtain ⟨a,vs,e,h,k,l⟩:=h; exact ⟨a,vs,e,h,ho a k,RepL.same hn hm hk ho l⟩
 | .ref l,_,h=>⟨by rw [hn]; exact h.1,by rw [hm]; exact h.2⟩
theorem RepL.same {B B':Bx} {H:Hp} (hn:B'.n=B.n) (hm:B'.m=B.m) (hk:B'.ks=B.ks) (ho:∀a,B.ok a→B'.ok a):∀{ds:List D} {vs:List V},RepL B H ds vs→RepL B' H ds vs
 | [],_,h=>h
 | _::_,_,h=>by obtain ⟨v,r,e,hv,hr⟩:=h; exact ⟨v,r,e,RepV.same hn hm hk ho hv,RepL.same hn hm hk ho hr⟩
end
theorem RepKV.same {κ:Type} {B B':Bx} {H:Hp} (hn:B'.n=B.n) (hm:B'.m=B.m) (hk:B'.ks=B.ks) (ho:∀a,B.ok a→B'.ok a):∀{ks:List (κ×D)} {vs:List (κ×V)},RepKV B H ks vs→RepKV B' H ks vs
 | _,_,.nil=>.nil
 | _,_,.cons h t=>.cons ⟨h.1,RepV.same hn hm hk ho h.2⟩ (RepKV.same hn hm hk ho t)
theorem CellOk.same {cl:Mo} {B B':Bx} {H:Hp} {a:Addr} {c:Cell} (hn:B'.n=B.n) (hm:B'.m=B.m) (hk:B'.ks=B.ks) (ho:∀a,B.ok a→B'.ok a) (k:CellOk cl B H a c):CellOk cl B' H a c:=by
 cases c with
 | lst xs=>obtain ⟨vs,e,r⟩:=k; exact ⟨vs,e,r.same hn hm hk ho⟩
 | dK kvs=>obtain ⟨vs,e,r⟩:=k; exact ⟨vs,e,r.same hn hm hk ho⟩
 | dT kvs=>obtain ⟨vs,e,r⟩:=k; exact ⟨vs,e,r.same hn hm hk ho⟩
 | ins C fs=>obtain ⟨dx,vs,e,r⟩:=k; exact ⟨dx,vs,e,r.same hn hm hk ho⟩
theorem ZoX {cl:Mo} {B:Bx} {θ:Sto} {H:Hp} (G:Good cl B θ H):Good cl B.inC θ H:=
 ⟨G.len,G.inj,fun i c e=>CellOk.same (B:=B) (B':=B.inC) rfl rfl rfl (fun a=>inC_ok.mpr) (G.cel i c e),fun i hi=>⟨fun z=>z.elim (G.cF i hi).1 (G.cF i hi).2,fun z=>nomatch z⟩,fun a z=>z.elim (G.Fs a) (G.oS a),fun a z=>(nomatch z),fun a z=>(nomatch z),G.kc⟩
theorem ZwE {cl:Mo} {B B':Bx} {θ θ':Sto} {H H':Hp} (G:Good cl B θ H) (E:ExtE B.inC B' H H') (G':Good cl B' θ' H') :
  ExtE B { B' with F:=B.F,os:=B.os } H H'∧Good cl { B' with F:=B.F,os:=B.os } θ' H'∧∀d v,RepV B' H' d v→RepV { B' with F:=B.F,os:=B.os } H' d v:=by
 have hF:B'.F=fun a=>B.F a∨a∈B.os:=E.F
 have ho:∀a,B'.ok a→Bx.ok { B' with F:=B.F,os:=B.os } a:=fun a ⟨h1,h2,h3⟩=>by
  rw [hF] at h2
  exact ⟨h1,fun z=>h2 (.inl z),fun z=>h2 (.inr z)⟩
 have keep:∀a o,H a=some o→(∀i,i<B.n→B.m i≠a)→H' a=some o:=fun a o h k=>E.keep a o h k (fun z=>nomatch z)
 refine ⟨⟨⟨E.n,E.m,E.fr,fun a o h k _=>keep a o h k,E.sm,fun a h=>.inl h,rfl,E.ks⟩,rfl,fun a o _ k h=>keep a o h k⟩,⟨G'.len,G'.inj,fun i c e=>CellOk.same (B:=B') (B':={ B' with F:=B.F,os:=B.os }) rfl rfl rfl ho (G'.cel i c e),fun i hi=>?_,fun a z=>E.sm a (G.Fs a z),fun a z=>E.sm a (G.oS a z),G.oF,G'.kc⟩,fun d v r=>RepV.same (B:=B') (B':={ B' with F:=B.F,os:=B.os }) rfl rfl rfl ho r⟩
 have:=(G'.cF i hi).1
 rw [hF] at this
 exact ⟨fun z=>this (.inl z),fun z=>this (.inr z)⟩
theorem ZjQ {f:GM} {σ:St} {B:Bx} {θ:Sto} {H:Hp} {ds:List D} {vs:List V} {Q:VK} {E:XK} (G:Good X.cl B θ H) (r:RepL B H ds vs) (w:wpR X σ RepV B H (f ds θ) Q):spM X.cl f vs H Q E:=by
 refine ⟨B.inC,θ,ds,rfl,ZoX G,RepL.same (B:=B) (B':=B.inC) rfl rfl rfl (fun a=>inC_ok.mpr) r,?_⟩
 cases e:f ds θ with
 | bad=>rw [e] at w; exact w
 | ex c θ'=>rw [e] at w; exact w
 | ok d θ'=>
  rw [e] at w
  intro B' H' v E' G' rv
  obtain ⟨h1,h2,h3⟩:=ZwE G E' G'
  exact w _ H' v h1 h2 (h3 d v rv)
theorem Zh {k j:Nat} {x:Str} {f:GM} {p pos:Pos} {e:Expr} {es:List Expr} {fs:AM} (D0:Zq X.prog X.w X.K X.mg X.base k x f) (hr:Room j X.A) (hj:k≤j) (ha:MA X (e::es) fs) (hg:Gl X x:=by rfl) (hdb:(x == ("__debug__":Str))=false:=by decide)
  (he:starEach (e::es) X.env=(false,eval e X.env)::starEach es X.env:=by rfl) (hpl:(backTo pos (starEach es X.env)).any (·.1)=false:=by rfl):ME X (.Call (.Name x p) (e::es) [] pos) (mCB f fs):=by
 obtain ⟨ps,D0⟩:=D0
 refine PE.imp (Zou D0 hr hj ha hg hdb he hpl) fun σ H Q h=>?_
 obtain ⟨B,θ,ρ,F,w⟩:=h
 refine Zbi (Zf3 F w) ?_
 rintro vs H1 ⟨B1,θ1,ds,E1,F1,rd,w1⟩
 rw [YC]
 exact ZjQ F1.good rd w1
end
end L2.MM
namespace L2.MM
open PySem PySem.Spec PyProof.Rows PySem.SeqAt
noncomputable section
def ZlM (K:PySem.W.Frag):Sp:=fun vs H Q _=>∃(a:Addr) (ns:List Int),vs=[.ref a]∧Zr9 H∧SqL K H a (ns.map V.int)∧ns.length≤63∧∀H',Q (.bl true) H'
theorem ZrG {P:Program} {w:World} {K:PySem.W.Frag} {mg:Str→Option Value} {base:Heap} {k:Nat} {f:Addr} {fd:FuncData} {ps:List Str} {g:GM} (h:∀ns:List Int,ns.length≤63→∃θ',g [.scr ns] []=.ok (.bl true) θ')
  (F:FnOk P w K mg base CX0 k f fd ps (spM ⟨zB mg,K⟩ g)):FnOk P w K mg base CX0 k f fd ps (ZlM K):=by
 refine F.imp ?_
 rintro vs H Q E ⟨a,ns,rfl,hO,hS,hl,q⟩
 obtain ⟨θ',e⟩:=h ns hl
 refine ⟨⟨0,fun _=>0,fun _=>False,[],KL K⟩,[],[.scr ns],rfl,⟨rfl,fun i j hi=>absurd hi (YV _),fun i c h=>by simp at h,fun i hi=>absurd hi (YV _),fun a h=>h.elim,fun a h=>(nomatch h),fun a h=>(nomatch h),fun a ns h=>h⟩,?_,?_⟩
 ·refine ⟨.ref a,[],rfl,⟨a,rfl,?_⟩,rfl⟩
  rcases hS with (h1 | ⟨o,h1⟩) | h1
  ·rcases hO a with z | ⟨o,xs,z⟩
   ·rw [z] at h1; cases h1
   ·rw [z] at h1; cases h1
  ·exact .inl ⟨o,h1,fun i hi=>absurd hi (YV _),fun z=>z,fun z=>(nomatch z)⟩
  ·exact .inr h1
 ·rw [e]
  intro B' H' v _ _ rv
  cases (show v=V.bl true from rv)
  exact q H'
end
end L2.MM
namespace L2.MM
open PySem PySem.Spec PyProof.Rows PySem.SeqAt
noncomputable section
section
variable {i j k:Nat} {ρ:List Sl} {θ:Sto} {f g h:EM} {fs:AM} {t u:TMr}
@[simp] theorem ZAS:Zd i ρ θ=match ρ[i]? with | some (Sl.val d)=>.ok d θ | _=>.bad:=nr rfl
@[simp] theorem x_c {d:D}:mC d ρ θ=.ok d θ:=nr rfl
@[simp] theorem ZBw {o:OM}:mOp o f g ρ θ=(f ρ θ).bind fun x θ=>(g ρ θ).bind fun y θ=>o x y θ:=nr rfl
@[simp] theorem ZzA:ZD f ρ θ=(f ρ θ).bind fun x θ=>match x with | .bl k=>.ok k θ | _=>.bad:=nr rfl
@[simp] theorem ZAU:zR f ρ θ=(f ρ θ).bind fun x θ=>match Zhn θ x with | some k=>.ok k θ | none=>.bad:=nr rfl
@[simp] theorem ZA9:ZfK t u ρ θ=(t ρ θ).bind fun k θ=>if k=true then u ρ θ else .ok false θ:=nr rfl
@[simp] theorem ZBv:mOr t u ρ θ=(t ρ θ).bind fun k θ=>if k=true then .ok true θ else u ρ θ:=nr rfl
@[simp] theorem ZAY:Zeb t ρ θ=(t ρ θ).bind fun k θ=>.ok (!k) θ:=nr rfl
def Zvo (g:Sto→R D):D→Sto→R D
 | .bl true,θ=>g θ
 | .bl false,θ=>.ok (.bl false) θ
 | _,_=>.bad
def orK (g:Sto→R D):D→Sto→R D
 | .bl true,θ=>.ok (.bl true) θ
 | .bl false,θ=>g θ
 | _,_=>.bad
@[simp] theorem ZxQ {g:Sto→R D} {k:Bool}:Zvo g (.bl k) θ=if k=true then g θ else .ok (.bl false) θ:=by cases k<;>rfl
@[simp] theorem ZAh {g:Sto→R D} {k:Bool}:orK g (.bl k) θ=if k=true then .ok (.bl true) θ else g θ:=by cases k<;>rfl
@[simp] theorem ZzN:ZcI f g ρ θ=(f ρ θ).bind (Zvo (g ρ)):=by
 show (f ρ θ).bind _=_
 congr 1
 funext x θ
 cases x<;>first | rfl | (rename_i b; cases b<;>rfl)
@[simp] theorem ZAX:Znc f g ρ θ=(f ρ θ).bind (orK (g ρ)):=by
 show (f ρ θ).bind _=_
 congr 1
 funext x θ
 cases x<;>first | rfl | (rename_i b; cases b<;>rfl)
@[simp] theorem ZwU {p:Prop} [Decidable p] {m:Bool}:(if p then R.ok (D.bl m) θ else R.ok (D.bl false) θ)=R.ok (D.bl (decide p && m)) θ:=by by_cases h:p<;>simp [h]
@[simp] theorem ZxJ {p:Prop} [Decidable p] {m:Bool}:(if p then R.ok (D.bl true) θ else R.ok (D.bl m) θ)=R.ok (D.bl (decide p || m)) θ:=by by_cases h:p<;>simp [h]
@[simp] theorem ZvK {p:Prop} [Decidable p] {m:Bool}:(if p then R.ok m θ else R.ok false θ)=R.ok (decide p && m) θ:=by by_cases h:p<;>simp [h]
@[simp] theorem ZwT {p:Prop} [Decidable p] {m:Bool}:(if p then R.ok true θ else R.ok m θ)=R.ok (decide p || m) θ:=by by_cases h:p<;>simp [h]
@[simp] theorem ZzG:ZfB f ρ θ=(f ρ θ).bind fun x θ=>match Zhn θ x with | some k=>.ok (.bl (!k)) θ | none=>.bad:=nr rfl
@[simp] theorem ZA0:ZAm f ρ θ=(f ρ θ).bind fun x θ=>match x with | .int i=>.ok (.int (-i)) θ | _=>.bad:=nr rfl
@[simp] theorem ZA4:ZfJ t f g ρ θ=(t ρ θ).bind fun k θ=>if k=true then f ρ θ else g ρ θ:=nr rfl
@[simp] theorem Zxx {o o':OM}:ZgU o o' f g h ρ θ=(f ρ θ).bind fun x θ=>(g ρ θ).bind fun y θ=>(o x y θ).bind (Zvo fun θ=>(h ρ θ).bind fun w θ=>o' y w θ):=by
 show (f ρ θ).bind _=_
 congr 1
 funext x θ
 congr 1
 funext y θ
 congr 1
 funext z θ
 cases z<;>first | rfl | (rename_i b; cases b<;>rfl)
@[simp] theorem ZAZ:Zi ρ θ=.ok [] θ:=nr rfl
@[simp] theorem ZzL:Zc f fs ρ θ=(f ρ θ).bind fun x θ=>(fs ρ θ).bind fun xs θ=>.ok (x::xs) θ:=nr rfl
@[simp] theorem ZAT:ZbA fs ρ θ=(fs ρ θ).bind fun xs θ=>if xs.length≤BIG then .ok (.tup xs) θ else .bad:=nr rfl
@[simp] theorem ZA3:ZcO fs ρ θ=(fs ρ θ).bind fun xs θ=>if xs.length≤BIG then .ok (.lst xs) θ else .bad:=nr rfl
@[simp] theorem ZzI:Zl8 fs ρ θ=(fs ρ θ).bind fun xs θ=>if xs.length≤BIG then .ok (.ref θ.length) (θ++[.lst xs]) else .bad:=nr rfl
@[simp] theorem ZBz {o:GM}:mCB o fs ρ θ=(fs ρ θ).bind fun xs θ=>o xs θ:=nr rfl
@[simp] theorem ZvT:ZcC ρ θ=.ok none θ:=nr rfl
@[simp] theorem ZzF:ZeQ f ρ θ=(f ρ θ).bind fun x θ=>match x with | .int i=>.ok (some i) θ | _=>.bad:=nr rfl
@[simp] theorem ZBu {lo hi:PM}:mSl f lo hi ρ θ=(f ρ θ).bind fun x θ=>(lo ρ θ).bind fun l θ=>(hi ρ θ).bind fun h θ=>match ZgJ θ x l h with
 | some d=>.ok d θ
 | none=>.bad:=nr rfl
@[simp] theorem ZAV {lo hi st:PM}:ZrF f lo hi st ρ θ=(f ρ θ).bind fun x θ=>(lo ρ θ).bind fun l θ=>(hi ρ θ).bind fun h θ=>(st ρ θ).bind fun s θ=>match Zbb θ x with
 | some xs=>if s≠some 0∧(Zd3 xs l h s).length≤BIG then .ok (.lst (Zd3 xs l h s)) θ else .bad
 | none=>.bad:=nr rfl
@[simp] theorem ZBy:mIn f ρ θ=(f ρ θ).bind fun d θ=>match seqOf θ d with | some _=>.ok (.seq d) θ | none=>.bad:=nr rfl
@[simp] theorem ZzD:Zci fs ρ θ=(fs ρ θ).bind fun ds θ=>match ds with
 | [.int j]=>if -1000000≤j∧j≤1000000 then .ok (.rng 0 j.toNat) θ else .bad
 | _=>.bad:=by
 unfold Zci; exact nr rfl
variable {a b:SM} {Fl':Fl×List Sl}
@[simp] theorem ZzB:ZK ρ θ=.ok (.nx,ρ) θ:=nr rfl
@[simp] theorem ZA8:Zll ρ θ=.bad:=nr rfl
@[simp] theorem ZW {ρ':List Sl}:Zg7 (.ok (.nx,ρ') θ) a=a ρ' θ:=nr rfl
@[simp] theorem Zvt {ρ':List Sl} {d:D}:Zg7 (.ok (.rt d,ρ') θ) a=.ok (.rt d,ρ') θ:=nr rfl
@[simp] theorem ZaZ:Zr a b ρ θ=Zg7 (a ρ θ) b:=nr rfl
@[simp] theorem ZnG:zn f ρ θ=(f ρ θ).bind fun _ θ=>.ok (.nx,ρ) θ:=nr rfl
@[simp] theorem ZAW:ZM f ρ θ=(f ρ θ).bind fun d θ=>.ok (.rt d,ρ) θ:=nr rfl
@[simp] theorem ZzE:Zgk ρ θ=.ok (.rt .non,ρ) θ:=nr rfl
@[simp] theorem ZvW:mIf t a b ρ θ=(t ρ θ).bind fun k θ=>if k=true then a ρ θ else b ρ θ:=nr rfl
@[simp] theorem ZnF:Z1 i f ρ θ=(f ρ θ).bind fun d θ=>.ok (.nx,ρ.set i (.val d)) θ:=nr rfl
@[simp] theorem ZvS:ZeA i fs ρ θ=(fs ρ θ).bind fun xs θ=>if xs.length≤BIG then .ok (.nx,ρ.set i (.own xs)) θ else .bad:=nr rfl
@[simp] theorem ZvY:Zc1 i f ρ θ=(f ρ θ).bind fun d θ=>match ρ[i]? with
 | some (Sl.own xs)=>if xs.length<BIG then .ok (.nx,ρ.set i (.own (xs++[d]))) θ else .bad
 | _=>.bad:=nr rfl
@[simp] theorem ZvX:mFreeze i a ρ θ=match ρ[i]? with | some (Sl.own xs)=>a (ρ.set i (.val (.lst xs))) θ | _=>a ρ θ:=nr rfl
@[simp] theorem Zbq {ρ':List Sl}:Zgl a (.nx,ρ') θ=a ρ' θ:=nr rfl
@[simp] theorem ZiJ {ρ':List Sl} {d:D}:Zgl a (.rt d,ρ') θ=.ok (.rt d,ρ') θ:=nr rfl
@[simp] theorem ZA7 {np nn:Nat} {ds:List D}:ZO np nn a ds θ=if ds.length=np then (a (Zeo nn ds) θ).bind fun p θ=>match p.1 with | .nx=>.ok .non θ | .rt d=>.ok d θ | _=>.bad else .bad:=nr rfl
@[simp] theorem Zxr {n:Nat} {ds:List D}:Zeo n ds=ds.map Sl.val++List.replicate (n-ds.length) Sl.no:=nr rfl
@[simp] theorem Zsc {xs:List D}:seqOf θ (.lst xs)=some xs:=nr rfl
@[simp] theorem Zg6 {xs:List D}:seqOf θ (.tup xs)=some xs:=nr rfl
@[simp] theorem Zvs {b:Bool}:Zhn θ (.bl b)=some b:=nr rfl
@[simp] theorem ZtV {ns:List Int}:Zhn θ (.scr ns)=some (!(ns.map D.int).isEmpty):=nr rfl
@[simp] theorem ZtX {xs:List D}:look θ (.lst xs)=.lst xs:=nr rfl
@[simp] theorem ZtY {n:Int}:look θ (.int n)=.int n:=nr rfl
@[simp] theorem ZtW {n:Str}:look θ (.str n)=.str n:=nr rfl
@[simp] theorem ZhF {xs:List D} {n:Int}:ixM (.lst xs) (.int n) θ=match atI xs n with | some d=>.ok d θ | none=>.bad:=nr rfl
@[simp] theorem ZjZ {xs:List D} {n:Int}:ixM (.tup xs) (.int n) θ=match atI xs n with | some d=>.ok d θ | none=>.bad:=nr rfl
@[simp] theorem ZvV {xs:List Int} {n:Int}:ixM (.scr xs) (.int n) θ=match atI (xs.map D.int) n with | some d=>.ok d θ | none=>.bad:=nr rfl
@[simp] theorem ZvU {xs:List D}:lenG [.lst xs] θ=.ok (.int xs.length) θ:=nr rfl
@[simp] theorem ZmJ {xs:List D}:lenG [.tup xs] θ=.ok (.int xs.length) θ:=nr rfl
@[simp] theorem Zvu {xs:List Int}:lenG [.scr xs] θ=.ok (.int (xs.map D.int).length) θ:=nr rfl
@[simp] theorem ZvR {xs:List D}:ZmT [.lst xs] θ=match Zgr xs with | some ns=>.ok (.int ns.sum) θ | none=>.bad:=nr rfl
@[simp] theorem ZA1 {m n:Int}:Zky [.int m,.int n] θ=.ok (.int (if n<m then n else m)) θ:=nr rfl
@[simp] theorem ZzH {m n k:Int}:Zky [.int m,.int n,.int k] θ=.ok (.int (if n<m then (if k<n then k else n) else (if k<m then k else m))) θ:=nr rfl
@[simp] theorem ZA2 {m n:Int}:ZrE [.int m,.int n] θ=.ok (.int (if n > m then n else m)) θ:=nr rfl
@[simp] theorem ZnE {xs:List D} {lo hi:Option Int}:ZgJ θ (.lst xs) lo hi=some (.lst (Zbh xs lo hi)):=nr rfl
@[simp] theorem ZBx {x:D}:isM x .non θ=.ok (.bl (Zak x)) θ:=nr rfl
@[simp] theorem Zxs {x:D}:ZdS x .non θ=.ok (.bl (!Zak x)) θ:=nr rfl
end
mutual
def pl:Nat→D→Bool
 | _,.non=>true
 | _,.bl _=>true
 | _,.int _=>true
 | _,.str x=>PyData.strOk x
 | k+1,.tup xs=>pls k xs
 | k+1,.lst xs=>pls k xs
 | _,_=>false
def pls:Nat→List D→Bool
 | _,[]=>true
 | k,d::r=>pl k d && pls k r
end
mutual
def noB:D→Bool
 | .bl _=>false
 | .tup xs=>ZhW xs
 | .lst xs=>ZhW xs
 | _=>true
def ZhW:List D→Bool
 | []=>true
 | d::r=>noB d && ZhW r
end
mutual
theorem ZlR:∀(k:Nat) (d:D),pl k d=true→plain d=true∧(dat d).canLay0=true∧(dat d).depth≤k
 | _,.non,_=>⟨rfl,rfl,YB _⟩
 | _,.bl _,_=>⟨rfl,rfl,YB _⟩
 | _,.int _,_=>⟨rfl,rfl,YB _⟩
 | k,.str x,h=>⟨rfl,by cases k<;>simpa [pl,dat,PyData.canLay0] using h,YB _⟩
 | k+1,.tup xs,h=>by
  obtain ⟨a,b,c⟩:=Zk6 k xs (by simpa [pl] using h)
  exact ⟨a,b,by simp only [dat,PyData.depth]; omega⟩
 | k+1,.lst xs,h=>by
  obtain ⟨a,b,c⟩:=Zk6 k xs (by simpa [pl] using h)
  exact ⟨a,b,by simp only [dat,PyData.depth]; omega⟩
 | 0,.tup xs,h=>by simp [pl] at h
 | 0,.lst xs,h=>by simp [pl] at h
 | 0,.ty _,h=>by simp [pl] at h
 | 0,.scr _,h=>by simp [pl] at h
 | 0,.ref _,h=>by simp [pl] at h
 | _+1,.ty _,h=>by simp [pl] at h
 | _+1,.scr _,h=>by simp [pl] at h
 | _+1,.ref _,h=>by simp [pl] at h
theorem Zk6:∀(k:Nat) (ds:List D),pls k ds=true→Zb7 ds=true∧PyData.canLayAll0 (Ze8 ds)=true∧PyData.depthAll (Ze8 ds)≤k
 | _,[],_=>⟨rfl,rfl,YB _⟩
 | k,d::r,h=>by
  have h':pl k d=true∧pls k r=true:=by simpa [pls] using h
  obtain ⟨a,b,c⟩:=ZlR k d h'.1
  obtain ⟨a',b',c'⟩:=Zk6 k r h'.2
  exact ⟨by simp [Zb7,a,a'],by simp [Ze8,PyData.canLayAll0,b,b'],by simp only [Ze8,PyData.depthAll]; omega⟩
end
mutual
theorem Zl2:∀(d e:D),noB d=true→noB e=true→noMix (dat d) (dat e)=true:=fun d e p q=>by
 cases d with
 | bl _=>simp [noB] at p
 | tup xs=>
  cases e with
  | bl _=>simp [noB] at q
  | tup ys=>simp only [dat,noMix]; exact ZhV xs ys p q
  | _=>simp [dat,noMix]
 | lst xs=>
  cases e with
  | bl _=>simp [noB] at q
  | lst ys=>simp only [dat,noMix]; exact ZhV xs ys p q
  | _=>simp [dat,noMix]
 | _=>cases e<;>simp_all [noB,dat,noMix]
theorem ZhV:∀(ds es:List D),ZhW ds=true→ZhW es=true→noMixAll (Ze8 ds) (Ze8 es)=true
 | [],[],_,_=>rfl
 | [],_::_,_,_=>rfl
 | _::_,[],_,_=>rfl
 | d::ds,e::es,p,q=>by
  have p':noB d=true∧ZhW ds=true:=by simpa [ZhW] using p
  have q':noB e=true∧ZhW es=true:=by simpa [ZhW] using q
  simp only [Ze8,noMixAll,Yl]
  exact ⟨Zl2 d e p'.1 q'.1,ZhV ds es p'.2 q'.2⟩
end
theorem ZiQ {k:Nat} {d:D} (h:pl k d=true) (hk:k≤64):shaped (dat d)=true:=by
 obtain ⟨_,b,c⟩:=ZlR k d h
 unfold shaped
 rw [b,decide_eq_true (by omega)]
 rfl
theorem ZfO {x y:D} (h1:pl 9 x=true) (h2:pl 9 y=true) (h3:noB x=true) (h4:noB y=true):ZkT x y:=
 ⟨(ZlR _ _ h1).1,(ZlR _ _ h2).1,ZiQ h1 (by decide),ZiQ h2 (by decide),Zl2 x y h3 h4⟩
section
open Classical
theorem Zls {x y:D} {θ:Sto} (h:ZkT (look θ x) (look θ y)):eqM x y θ=.ok (.bl (decide (look θ x=look θ y))) θ:=if_pos h
theorem Zjw {x y:D} {θ:Sto} (h:ZkT (look θ x) (look θ y)):neM x y θ=.ok (.bl (!decide (look θ x=look θ y))) θ:=if_pos h
end
@[simp] theorem Zwy (k:Nat) (ns:List Int):pls k (ns.map D.int)=true:=by
 induction ns with
 | nil=>rfl
 | cons n r ih=>simp only [Yf,pls,ih,Jk]; cases k<;>rfl
@[simp] theorem ZvI (ns:List Int):ZhW (ns.map D.int)=true:=by
 induction ns with
 | nil=>rfl
 | cons n r ih=>simp only [Yf,ZhW,ih,Jk]; rfl
@[simp] theorem Zsz (ns ms:List Int):(ns.map D.int=ms.map D.int)↔ns=ms:=by
 constructor
 ·intro h
  have:∀(ns ms:List Int),ns.map D.int=ms.map D.int→ns=ms:=fun ns=>by
   induction ns with
   | nil=>intro ms h; cases ms with
    | nil=>rfl
    | cons _ _=>cases h
   | cons n r ih=>intro ms h; cases ms with
    | nil=>cases h
    | cons m s=>simp at h; rw [h.1,ih s h.2]
  exact this ns ms h
 ·intro h; rw [h]
@[simp] theorem ZAI (a b:Int) (θ:Sto):eqM (.int a) (.int b) θ=.ok (.bl (decide (a=b))) θ:=by
 rw [Zls (ZfO rfl rfl rfl rfl)]
 simp
@[simp] theorem ZAk (a b:Int) (θ:Sto):neM (.int a) (.int b) θ=.ok (.bl (!decide (a=b))) θ:=by
 rw [Zjw (ZfO rfl rfl rfl rfl)]
 simp
@[simp] theorem Zrz (a b:List Int) (θ:Sto):neM (.lst (a.map D.int)) (.lst (b.map D.int)) θ=.ok (.bl (!decide (a=b))) θ:=by
 rw [Zjw (ZfO (by simp [pl]) (by simp [pl]) (by simp [noB]) (by simp [noB]))]
 simp
end
end L2.MM
namespace L2.MM
open PySem PySem.Spec PyProof.Rows PySem.SeqAt My
noncomputable section
@[simp] theorem ZAR:BIG=100000:=nr rfl
def il (ns:List Int):D:=.lst (ns.map D.int)
def itp (ns:List Int):D:=.tup (ns.map D.int)
section
variable {θ:Sto} {a b ns ms:List Int} {i j:Int}
@[simp] theorem ZBq:D.lst (ns.map D.int)=il ns:=nr rfl
theorem ZcR:D.lst []=il []:=rfl
@[simp] theorem ZBp (x:Int):D.lst [.int x]=il [x]:=nr rfl
@[simp] theorem ZBo (x y:Int):D.lst [.int x,.int y]=il [x,y]:=nr rfl
@[simp] theorem ZwY:Zbb θ (il a)=some (a.map D.int):=nr rfl
@[simp] theorem ZwX:seqOf θ (il a)=some (a.map D.int):=nr rfl
@[simp] theorem ZoT:za (il a) (il b) θ=if a.length+b.length≤BIG then .ok (il (a++b)) θ else .bad:=by
 unfold il
 rw [Zpq]
 simp [il]
theorem ZrK (h:a.length+b.length≤100000):za (il a) (il b) θ=.ok (il (a++b)) θ:=by
 rw [ZoT,if_pos h]
@[simp] theorem ZAt:lenG [il a] θ=.ok (.int a.length) θ:=by
 unfold il; rw [ZvU]; simp
@[simp] theorem ZAr:lenG [itp a] θ=.ok (.int a.length) θ:=by
 unfold itp; rw [ZmJ]; simp
theorem Zr6 {α β:Type} (f:α→β) (xs:List α) (n:Int):atI (xs.map f) n=(atI xs n).map f:=by
 unfold L2.atI
 rw [List.length_map]
 cases ixN xs.length n with
 | none=>rfl
 | some k=>simp
theorem ZwZ:ixM (il a) (.int i) θ=match atI a i with | some z=>.ok (.int z) θ | none=>.bad:=by
 unfold il
 rw [ZhF,Zr6]
 cases atI a i<;>rfl
theorem Zpo {xs:List Int} {i:Int} (h0:0≤i) (h:i<xs.length):atI xs i=some (xs.getD i.toNat 0):=by
 have c:i=((i.toNat:Nat):Int):=by omega
 rw [c]
 refine ZeN ?_
 have d:i.toNat<xs.length:=by omega
 rw [List.getD_eq_getElem?_getD,Int.toNat_natCast,List.getElem?_eq_getElem d]
 rfl
def gt (a:List Int) (i:Nat):Int:=a.getD i 0
theorem Ze6 (h0:0≤i) (h:i<a.length):ixM (il a) (.int i) θ=.ok (.int (gt a i.toNat)) θ:=by rw [ZwZ,Zpo h0 h]; rfl
@[simp] theorem ZAv {x:Int} {r:List Int}:ixM (il (x::r)) (.int 0) θ=.ok (.int x) θ:=Ze6 (a:=x::r) (i:=0) (by decide) (by rw [Yb]; omega)
@[simp] theorem ZAu {x y:Int} {r:List Int}:ixM (il (x::y::r)) (.int 1) θ=.ok (.int y) θ:=Ze6 (a:=x::y::r) (i:=1) (by decide) (by rw [Yb,Yb]; omega)
@[simp high] theorem ZBB {x:D} {r:List D}:ixM (.tup (x::r)) (.int 0) θ=.ok x θ:=by
 rw [ZjZ,show (0:Int)=((0:Nat):Int) from rfl,ZeN (j:=0) (v:=x) rfl]
@[simp high] theorem ZBA {x y:D} {r:List D}:ixM (.tup (x::y::r)) (.int 1) θ=.ok y θ:=by
 rw [ZjZ,show (1:Int)=((1:Nat):Int) from rfl,ZeN (j:=1) (v:=y) rfl]
theorem Zpg {α β:Type} (f:α→β) (xs:List α) (lo hi:Option Int):Zbh (xs.map f) lo hi=(Zbh xs lo hi).map f:=by
 unfold Zbh
 rw [List.length_map,List.map_take,List.map_drop]
@[simp] theorem ZoR {lo hi:Option Int}:ZgJ θ (il a) lo hi=some (il (Zbh a lo hi)):=by
 unfold il; rw [ZnE,Zpg]
@[simp] theorem ZxK:Zmd [itp a] θ=.ok (il a) θ:=nr rfl
@[simp] theorem ZwW:ZhO [il a] θ=.ok (itp a) θ:=nr rfl
@[simp] theorem ZAs:ZmT [il a] θ=.ok (.int a.sum) θ:=by unfold il; rw [ZvR,ZoP]
@[simp] theorem ZBj:neM (il a) (il b) θ=.ok (.bl (!decide (a=b))) θ:=Zrz a b θ
@[simp] theorem ZoS {k:Int}:ZcY (il a) (.int k) θ=if -1000000≤k∧k≤1000000∧a.length*k.toNat≤BIG then .ok (il (List.replicate k.toNat a).flatten) θ else .bad:=by
 unfold il
 rw [Zgh,List.length_map]
 have:(List.replicate k.toNat (a.map D.int)).flatten=(List.replicate k.toNat a).flatten.map D.int:=by
  rw [List.map_flatten,List.map_replicate]
 rw [this]
theorem ZgO {α β:Type} (f:α→β) (xs:List α) (lo hi st:Option Int):Zd3 (xs.map f) lo hi st=(Zd3 xs lo hi st).map f:=by
 unfold Zd3
 rw [List.length_map,List.map_filterMap]
 congr
 funext k
 simp
theorem ZhZ:∀{ns ms:List Int},ns.map V.int=ms.map V.int→ns=ms
 | [],[],_=>rfl
 | [],_::_,h=>by cases h
 | _::_,[],h=>by cases h
 | _::_,_::_,h=>by simp at h; rw [h.1,ZhZ h.2]
@[simp] theorem Zst (ns:List Int):Zd3 ns none none (some 2)=ZeR ns:=ZhZ (by
 have:=Znp ns
 rw [show ZeY (ns.map V.int) none none (some 2)=Zd3 (ns.map V.int) none none (some 2) from rfl,ZgO] at this
 exact this)
@[simp] theorem ZuE (ns:List Int):Zd3 ns (some 1) none (some 2)=ZhT ns:=ZhZ (by
 have:=Zpf ns
 rw [show ZeY (ns.map V.int) (some 1) none (some 2)=Zd3 (ns.map V.int) (some 1) none (some 2) from rfl,ZgO] at this
 exact this)
end
theorem Zn3 {n d:Nat} {k:Int} (h:0≤k):HT.sIx n d (some k)=min k.toNat n:=by
 have c:k=((k.toNat:Nat):Int):=by omega
 rw [c]
 exact HT.sIx_nat n d k.toNat
theorem Ze9 {α:Type} (xs:List α) {k:Int} (h:0≤k):Zbh xs none (some k)=xs.take k.toNat:=by
 unfold Zbh
 rw [HT.sIx_none,Zn3 h,Y1,Nat.sub_zero,←List.take_take,List.take_length]
theorem Zdn {α:Type} (xs:List α) {k:Int} (h:0≤k):Zbh xs (some k) none=xs.drop k.toNat:=by
 unfold Zbh
 rw [HT.sIx_none,Zn3 h]
 by_cases q:k.toNat≤xs.length
 ·rw [Nat.min_eq_left q,YO]
  rw [Y9]
  exact Yd _
 ·rw [Nat.min_eq_right (by omega),Ja,Y2 (by omega)]
  simp
section
variable {θ:Sto} {ρ:List Sl}
@[simp] theorem ZgM {lo:Int} {n:Nat}:(Src.rng lo n).items θ=some ((List.range n).map fun (i:Nat)=>D.int (lo+(i:Int))):=nr rfl
@[simp] theorem ZwV {src:List Nat} {x:D}:inEnv src ρ x=Sl.val x::src.map fun (j:Nat)=>match ρ[j]? with | some (Sl.val d)=>Sl.val d | _=>Sl.no:=nr rfl
open Classical in
theorem for_rng {lo:Int} {n:Nat} {all:List D} {tg:TgM} {body:SM} (st:Nat→List Sl) (hs:∀i ρ1,i<n→tg (.int (lo+i)) (st i)=some ρ1→body ρ1 θ=.ok (.nx,st (i+1)) θ) (ht:∀i,i<n→∃ρ1,tg (.int (lo+i)) (st i)=some ρ1) (hall:all=(List.range n).map fun (i:Nat)=>D.int (lo+(i:Int))) :
  Zb9 (.rng lo n) all tg body all (st 0) θ=.ok (.nx,st n) θ:=by
 subst hall
 have key:∀m,m≤n→Zb9 (.rng lo n) ((List.range n).map fun (i:Nat)=>D.int (lo+(i:Int))) tg body (((List.range n).map fun (i:Nat)=>D.int (lo+(i:Int))).drop (n-m)) (st (n-m)) θ=.ok (.nx,st n) θ:=fun m=>by
  induction m with
  | zero=>
   intro _
   rw [Nat.sub_zero,Y2 (by simp)]
   simp [Zb9]
  | succ m ih=>
   intro hm
   have hlt:n-(m+1)<n:=by omega
   rw [Yv (by simpa using hlt)]
   obtain ⟨ρ1,h1⟩:=ht (n-(m+1)) hlt
   have h2:=hs (n-(m+1)) ρ1 hlt h1
   have e:n-(m+1)+1=n-m:=by omega
   simp only [List.getElem_map,List.getElem_range,Zb9,ZgM,if_true,h1]
   rw [h2,R.bind_ok,Zbq,e]
   exact ih (by omega)
 have:=key n (Yd _)
 rw [Jf,Y1] at this
 exact this
end
end
end L2.MM
namespace L2.MM
open PySem PySem.Spec PyProof.Rows PySem.SeqAt
noncomputable section
variable {X:Cx}
def ZaE (f:Str) (v:D):List (Str×D)→List (Str×D)
 | []=>[(f,v)]
 | (g,x)::r=>if g=f then (g,v)::r else (g,x)::ZaE f v r
theorem RepKV.put {B:Bx} {H:Hp} {f:Str} {d:D} {v:V} (q:RepV B H d v):∀{fs:List (Str×D)} {vs:List (Str×V)},RepKV B H fs vs→RepKV B H (ZaE f d fs) (Zd2 f v vs)
 | _,_,.nil=>.cons ⟨rfl,q⟩ .nil
 | (g,x)::fs,(g',y)::vs,.cons h t=>by
  obtain ⟨h1,h2⟩:=h
  cases (show g=g' from h1)
  unfold ZaE Zd2
  by_cases e:g=f
  ·rw [if_pos e,if_pos e]; exact .cons ⟨rfl,q⟩ t
  ·rw [if_neg e,if_neg e]; exact .cons ⟨rfl,h2⟩ (RepKV.put q t)
theorem RepKV.len {κ:Type} {B:Bx} {H:Hp}:∀{fs:List (κ×D)} {vs:List (κ×V)},RepKV B H fs vs→vs.length=fs.length
 | _,_,.nil=>rfl
 | _,_,.cons _ t=>by rw [Yb,Yb,RepKV.len t]
theorem RepKV.get {B:Bx} {H:Hp} {f:Str} {d:D}:∀{fs:List (Str×D)} {vs:List (Str×V)},RepKV B H fs vs→fs.lookup f=some d→∃v,vs.lookup f=some v∧RepV B H d v
 | _,_,.nil,h=>by cases h
 | (g,x)::fs,(g',y)::vs,.cons h t,e=>by
  obtain ⟨h1,h2⟩:=h
  cases (show g=g' from h1)
  rw [Yw] at e ⊢
  cases q:f == g with
  | true=>rw [q] at e; cases e; exact ⟨y,rfl,h2⟩
  | false=>rw [q] at e; exact RepKV.get t e
theorem RepKV.none {B:Bx} {H:Hp} {f:Str}:∀{fs:List (Str×D)} {vs:List (Str×V)},RepKV B H fs vs→fs.lookup f=none→vs.lookup f=none
 | _,_,.nil,h=>rfl
 | (g,x)::fs,(g',y)::vs,.cons h t,e=>by
  obtain ⟨h1,h2⟩:=h
  cases (show g=g' from h1)
  rw [Yw] at e ⊢
  cases q:f == g with
  | true=>rw [q] at e; cases e
  | false=>rw [q] at e; exact RepKV.none t e
def Zdk (θ:Sto):D→Option (Nat×Str×List (Str×D))
 | .ref l=>match θ[l]? with
  | some (.ins C fs)=>some (l,C,fs)
  | _=>none
 | _=>none
theorem Zia {cl:Mo} {B:Bx} {θ:Sto} {H:Hp} (G:Good cl B θ H) {d:D} {v:V} {l:Nat} {C:Str} {fs:List (Str×D)} (r:RepV B H d v) (h:Zdk θ d=some (l,C,fs)) :
  l<B.n∧v=.ref (B.m l)∧∃dx vs,H (B.m l)=some (.ins (cl.cl C) dx vs)∧RepKV B H fs vs:=by
 cases d with
 | ref k=>
  simp only [Zdk] at h
  split at h
  ·rename_i C' fs' e
   cases h
   obtain ⟨hl,rfl⟩:=r
   obtain ⟨dx,vs,h1,h2⟩:=G.cel _ _ e
   exact ⟨hl,rfl,dx,vs,h1,h2⟩
  ·cases h
 | _=>cases h
def fldK (cs:List Str) (f:Str):D→Sto→R D:=fun d θ=>match Zdk θ d with
 | some (_,C,fs)=>if cs.contains C=true then (match fs.lookup f with
  | some v=>.ok v θ
  | none=>.bad) else .bad
 | none=>.bad
def Zz (cs:List Str) (f:Str) (fe:EM):EM:=fun ρ θ=>(fe ρ θ).bind (fldK cs f)
def ZsH (X:Cx) (f:Str) (C:Str):Prop:=Cls X.K (X.cl.cl C)∧NoAttr X.K (X.cl.cl C) f
theorem Zp {P:Str→Prop} {a:Str} (h:P a):∀C,[a].contains C=true→P C:=fun C hc=>by
 have:C=a:=by simpa using hc
 rw [this]; exact h
theorem Zm {cs:List Str} {f:Str} {e:Expr} {fe:EM} {pos:Pos} (hc:∀C,cs.contains C=true→ZsH X f C) (he:ME X e fe) (hb:attributeBase e f X.env (eval e X.env)=eval e X.env:=by rfl):ME X (.Attribute e f pos) (Zz cs f fe):=by
 refine PE.imp (ZuO he hb) fun σ H Q h=>?_
 obtain ⟨B,θ,ρ,F,w⟩:=h
 refine ZJ (step F w) ?_
 rintro v H1 ⟨B1,θ1,d,E1,F1,rd,w1⟩
 unfold fldK at w1
 split at w1
 ·rename_i l C fs e1
  split at w1
  ·rename_i hC
   split at w1
   ·rename_i y ey
    obtain ⟨hl,rfl,dx,vs,h1,h2⟩:=Zia F1.good rd e1
    obtain ⟨u,h3,h4⟩:=h2.get ey
    exact ⟨_,_,dx,vs,u,rfl,h1,(hc C hC).1,(hc C hC).2,h3,ZR F1.good h4 w1⟩
   ·exact w1.elim
  ·exact w1.elim
 ·exact w1.elim
def setK (cs:List Str) (f:Str) (y d:D) (θ:Sto):Option Sto:=match Zdk θ d with
 | some (l,C,fs)=>if cs.contains C=true∧fs.length<1000 then some (θ.set l (.ins C (ZaE f y fs))) else none
 | none=>none
def ZA (cs:List Str) (f:Str) (fe fv:EM):SM:=fun ρ θ=>(fv ρ θ).bind fun y θ=>(fe ρ θ).bind fun d θ=>match setK cs f y d θ with
 | some θ'=>.ok (.nx,ρ) θ'
 | none=>.bad
theorem Zt {cs:List Str} {f:Str} {o value:Expr} {fe fv:EM} {pos pos':Pos} (hc:∀C,cs.contains C=true→ZsH X f C) (he:ME X o fe) (hv:ME X value fv) (hs:swapsWith value (some (.Attribute o f pos')) pos.line X.env=pure false:=by rfl) :
  MS X (.Assign [.Attribute o f pos'] value pos) (ZA cs f fe fv):=
 PS.imp (ZuC he hv hs) fun D σ H h=>by
 obtain ⟨B,θ,ρ,F,w⟩:=h
 refine ZJ (Zd1 F w) ?_
 rintro y H1 ⟨B1,θ1,dy,E1,F1,ry,w1⟩
 refine ZJ (Zd1 F1 w1) ?_
 rintro v H2 ⟨B2,θ2,d,E2,F2,rd,w2⟩
 unfold setK at w2
 cases e1:Zdk θ2 d with
 | none=>rw [e1] at w2; exact w2.elim
 | some q=>
  obtain ⟨l,C,fs⟩:=q
  rw [e1] at w2
  simp only at w2
  by_cases hC:cs.contains C=true∧fs.length<1000
  ·rw [if_pos hC] at w2
   obtain ⟨hl,rfl,dx,vs,h1,h2⟩:=Zia F2.good rd e1
   refine ⟨_,_,dx,vs,rfl,h1,(hc C hC.1).1,(hc C hC.1).2,by rw [h2.len]; exact hC.2,?_⟩
   have E3:=ZdF F2.good hl (.ins (X.cl.cl C) dx (Zd2 f y vs))
   have G3:=Zdl F2.good hl (o:=.ins (X.cl.cl C) dx (Zd2 f y vs)) (c:=.ins C (ZaE f dy fs)) ⟨dx,_,zd,(h2.put (ry.ext E2.toExtS)).ext E3.toExtS⟩
   exact w2 _ _ _ E3.toExtS (F2.ext E3 G3)
  ·rw [if_neg hC] at w2
   exact w2.elim
structure MMk (P:Program) (w:World) (K:PySem.W.Frag) (mg:Str→Option Value) (base:Heap) (k:Nat) (C:Str) (f:GM):Prop where
 ex:∃(fI:Addr) (fd:FuncData) (ps:List Str),Mk K (zB mg C) fI∧FnOk P w K mg base CX0 k fI fd ps (spM ⟨zB mg,K⟩ f)∧Binds K fd ps []
 mg:mg C=some (.ref (zB mg C))
def mkG (C:Str) (f:GM):GM:=fun vs θ=>(f (.ref θ.length::vs) (θ++[.ins C []])).bind fun v θ'=>match v with
 | .non=>.ok (.ref θ.length) θ'
 | _=>.bad
theorem wpR.made {σ:St} {B:Bx} {θ:Sto} {H:Hp} {C:Str} {f:GM} {ds:List D} {vs:List V} {Q:VK} {E:XK} (G:Good X.cl B θ H) (r:RepL B H ds vs) (w:wpR X σ RepV B H (mkG C f ds θ) Q) :
  ∀x dx,H x=none→H dx=none→dx≠x→spM X.cl f (.ref x::(vs++[])) (upd (upd H dx (.own x)) x (.ins (X.cl.cl C) dx [])) (fun v H2=>v=.non∧Q (.ref x) H2) E:=by
 intro x dx hx hdx ne
 have E1:=Zc2 G hdx (.own x)
 have G1:=Ze7 G hdx (.own x)
 have hx1:upd H dx (.own x) x=none:=by rw [ZS (Ne.symm ne)]; exact hx
 have E2:=Zec G1 hx1 (.ins (X.cl.cl C) dx [])
 have G2:Good X.cl (B.push x) (θ++[.ins C []]) _:=Zfq G1 hx1 (o:=.ins (X.cl.cl C) dx []) (c:=.ins C []) ⟨dx,[],zd,.nil⟩
 have rx:RepV (B.push x) (upd (upd H dx (.own x)) x (.ins (X.cl.cl C) dx [])) (.ref θ.length) (.ref x):=⟨by rw [G.len]; exact YD _,by rw [G.len]; show V.ref x=V.ref (if B.n=B.n then x else B.m B.n); rw [if_pos rfl]⟩
 rw [YC]
 refine ZjQ (σ:=σ) G2 (show RepL _ _ (.ref θ.length::ds) (.ref x::vs) from ⟨_,_,rfl,rx,r.ext (E1.trans E2).toExtS⟩) ?_
 have w1:=wpR.trans w (E1.trans E2)
 refine (wpR.bind (Rel:=RepV) w1).mono ?_
 rintro v H3 ⟨B3,θ3,d,E3,G3,rd,w3⟩
 cases d with
 | non=>exact ⟨rd,ZR G3 (rx.ext E3.toExtS) w3⟩
 | _=>exact w3.elim
theorem Zjx {k j:Nat} {x:Str} {f:GM} {p pos:Pos} {e:Expr} {es:List Expr} {fs:AM} (M:MMk X.prog X.w X.K X.mg X.base k x f) (hr:Room j X.A) (hj:k+1≤j) (ha:MA X (e::es) fs) (hg:Gl X x:=by rfl) (hdb:(x == ("__debug__":Str))=false:=by decide)
  (he:starEach (e::es) X.env=(false,eval e X.env)::starEach es X.env:=by rfl) (hpl:(backTo pos (starEach es X.env)).any (·.1)=false:=by rfl):ME X (.Call (.Name x p) (e::es) [] pos) (mCB (mkG x f) fs):=by
 obtain ⟨fI,fd,ps,m,F0,b⟩:=M.ex
 refine PE.imp (Zrq m F0 (hr.mono hj) hg M.mg b .nil ZlT ha hdb he hpl) fun σ H Q h=>?_
 obtain ⟨B,θ,ρ,F,w⟩:=h
 refine Zbi (Zf3 F w) ?_
 rintro vs H1 ⟨B1,θ1,ds,E1,F1,rd,w1⟩
 exact wpR.made F1.good rd w1
theorem Zkz {k j:Nat} {x:Str} {f:GM} {p pos:Pos} (M:MMk X.prog X.w X.K X.mg X.base k x f) (hr:Room j X.A) (hj:k+1≤j) (hg:Gl X x:=by rfl) (hdb:(x == ("__debug__":Str))=false:=by decide):ME X (.Call (.Name x p) [] [] pos) (mCB (mkG x f) Zi):=by
 obtain ⟨fI,fd,ps,m,F0,b⟩:=M.ex
 refine PE.imp (Zom m F0 (hr.mono hj) hg M.mg b .nil ZlT hdb) fun σ H Q h=>?_
 obtain ⟨B,θ,ρ,F,w⟩:=h
 exact wpR.made (ds:=[]) (vs:=[]) F.good (show RepL B H [] [] from rfl) w
structure Zem (P:Program) (w:World) (K:PySem.W.Frag) (mg:Str→Option Value) (base:Heap) (k:Nat) (C m:Str) (f:GM):Prop where
 ex:∃(fa:Addr) (fd:FuncData) (ps:List Str),Znv K (zB mg C) m fa∧FnOk P w K mg base CX0 k fa fd ps (spM ⟨zB mg,K⟩ f)∧Binds K fd ps []
 cl:Cls K (zB mg C)
def zC (C m:Str) (f:GM) (fo:EM) (fs:AM):EM:=fun ρ θ=>(fo ρ θ).bind fun d θ=>match Zdk θ d with
 | some (_,C',gs)=>if C'=C∧gs.lookup m=none then (fs ρ θ).bind fun vs θ=>f (d::vs) θ else .bad
 | none=>.bad
instance {C C':Str} {gs:List (Str×D)} {m:Str}:Decidable (C'=C∧gs.lookup m=none):=by
 cases h:gs.lookup m with
 | none=>exact if e:C'=C then isTrue ⟨e,rfl⟩ else isFalse fun z=>e z.1
 | some _=>exact isFalse fun z=>nomatch z.2
theorem Zc0 {k j:Nat} {C m:Str} {f:GM} {apos pos:Pos} {o e:Expr} {es:List Expr} {fo:EM} {fs:AM} {pl:Sem Bool} (M:Zem X.prog X.w X.K X.mg X.base k C m f) (hr:Room j X.A) (hj:k≤j) (ho:ME X o fo) (ha:MA X (e::es) fs)
  (hst:starEach (e::es) X.env=(false,eval e X.env)::starEach es X.env:=by rfl) (hpl:(backTo pos (starEach es X.env)).any (·.1)=false:=by rfl)
  (ht:eval (.Call (.Attribute o m apos) (e::es) [] pos) X.env=(do
   let ov ←eval o X.env
   standAt apos.atName
   let (f,first) ←holding [ov] (getMethod ov m pl)
   callWith pos f first (backTo pos (starEach (e::es) X.env)) (backToKw pos (keywordEach [] X.env))):=by rfl) :
  ME X (.Call (.Attribute o m apos) (e::es) [] pos) (zC C m f fo fs):=by
 obtain ⟨fa,fd,ps,mt,F0,b⟩:=M.ex
 refine PE.imp (Zrp (pl:=pl) ho M.cl mt F0 (hr.mono hj) b .nil ZlT ha hst hpl ht) fun σ H Q h=>?_
 obtain ⟨B,θ,ρ,F,w⟩:=h
 refine ZJ (step F w) ?_
 rintro v H1 ⟨B1,θ1,d,E1,F1,rd,w1⟩
 split at w1
 ·rename_i l C' gs e1
  split at w1
  ·rename_i hC
   obtain ⟨hl,ev,dx,us,h1,h2⟩:=Zia F1.good rd e1
   rw [hC.1] at h1
   refine ⟨_,dx,us,ev,h1,h2.none hC.2,?_⟩
   refine Zbi (Zf3 F1 w1) ?_
   rintro vs H2 ⟨B2,θ2,ds,E2,F2,rds,w2⟩
   rw [YC]
   exact ZjQ F2.good (show RepL B2 H2 (d::ds) (v::vs) from ⟨v,vs,rfl,rd.ext E2.toExtS,rds⟩) w2
  ·exact w1.elim
 ·exact w1.elim
theorem ZwO {P:Program} {w:World} {K:PySem.W.Frag} {mg:Str→Option Value} {base:Heap} {x qual:Str} {st:Stmt} {N ps:List Str} {k:Nat} {fb:SM} {f:Addr} {fd:FuncData} {C:Str} (F:Fun K x qual st f fd) (S:Zo N ps (Zj st)) (np nn:Nat) (hp:ps.length=np) (hn:N.length=nn) (b:Binds K fd ps []) (c:Cls K (zB mg C)) (m:Znv K (zB mg C) x f)
  (hbody:∀(cdv:Value) (A:Around) (outer:List Env) (s:Shared) (H:Hp) (E:XK),Room k (A.deeper (envOfC qual (Zj st) s.heap.objs.size f cdv))→MSs (Zg0 CX0 P w K mg base N qual (Zj st) f cdv A outer s H E).nox (Zbd st) fb):Zem P w K mg base (k+1) C x (ZO np nn fb):=
 ⟨⟨f,fd,ps,m,mfn F S np nn hp hn hbody,b⟩,c⟩
theorem mmk {P:Program} {w:World} {K:PySem.W.Frag} {mg:Str→Option Value} {base:Heap} {x qual:Str} {st:Stmt} {N ps:List Str} {k:Nat} {fb:SM} {f:Addr} {fd:FuncData} {C:Str} (F:Fun K x qual st f fd) (S:Zo N ps (Zj st)) (np nn:Nat) (hp:ps.length=np) (hn:N.length=nn) (b:Binds K fd ps []) (M:Mk K (zB mg C) f) (hm:mg C=some (.ref (zB mg C)))
  (hbody:∀(cdv:Value) (A:Around) (outer:List Env) (s:Shared) (H:Hp) (E:XK),Room k (A.deeper (envOfC qual (Zj st) s.heap.objs.size f cdv))→MSs (Zg0 CX0 P w K mg base N qual (Zj st) f cdv A outer s H E).nox (Zbd st) fb):MMk P w K mg base (k+1) C (ZO np nn fb):=
 ⟨⟨f,fd,ps,M,mfn F S np nn hp hn hbody,b⟩,hm⟩
def Zjy:EM:=fun _ θ=>.ok (.ref θ.length) (θ++[.dK []])
def Zl9:EM:=fun _ θ=>.ok (.ref θ.length) (θ++[.dT []])
theorem ZkA {pos:Pos}:ME X (.Dict [] [] pos) Zjy:=by
 refine PE.imp Zor fun σ H Q h=>?_
 obtain ⟨B,θ,ρ,F,w⟩:=h
 intro p hp
 have G:=F.good
 exact w (B.push p) _ _ (Zec G hp _) (Zfq G hp ⟨[],zd,.nil⟩) ⟨by rw [G.len]; exact YD _,by rw [G.len]; show V.ref p=V.ref (if B.n=B.n then p else B.m B.n); rw [if_pos rfl]⟩
theorem Zna {pos:Pos}:ME X (.Dict [] [] pos) Zl9:=by
 refine PE.imp Zoq fun σ H Q h=>?_
 obtain ⟨B,θ,ρ,F,w⟩:=h
 intro p hp
 have G:=F.good
 exact w (B.push p) _ _ (Zec G hp _) (Zfq G hp ⟨[],zd,.nil⟩) ⟨by rw [G.len]; exact YD _,by rw [G.len]; show V.ref p=V.ref (if B.n=B.n then p else B.m B.n); rw [if_pos rfl]⟩
section
variable {ρ:List Sl} {θ:Sto} {fe fv fo:EM} {cs:List Str} {f:Str}
@[simp] theorem ZA5:Zz cs f fe ρ θ=(fe ρ θ).bind (fldK cs f):=nr rfl
@[simp] theorem ZzC:ZA cs f fe fv ρ θ=(fv ρ θ).bind fun y θ=>(fe ρ θ).bind fun d θ=>match setK cs f y d θ with
 | some θ'=>.ok (.nx,ρ) θ'
 | none=>.bad:=nr rfl
@[simp] theorem Zxv:Zjy ρ θ=.ok (.ref θ.length) (θ++[.dK []]):=nr rfl
end
end
end L2.MM
namespace L2.MM
open PySem PySem.Spec PyProof.Rows PySem.SeqAt
def Mk0 (K:PySem.W.Frag) (mg:Str→Option Value) (C qual:Str) (st:Stmt) (ps:List Str):Prop:=
 ∃(f:Addr) (fd:FuncData),Fun K "__init__" qual st f fd∧Binds K fd ps []∧Mk K (zB mg C) f∧mg C=some (.ref (zB mg C))
def Me0 (K:PySem.W.Frag) (mg:Str→Option Value) (C m qual:Str) (st:Stmt) (ps:List Str):Prop:=
 ∃(f:Addr) (fd:FuncData),Fun K m qual st f fd∧Binds K fd ps []∧Znv K (zB mg C) m f
theorem ZjP {mg:Str→Option Value} {x:Str} {a:Addr} (h:mg x=some (.ref a)):zB mg x=a:=by unfold zB; rw [h]
theorem mk0 {P:Program} {w:World} {K:PySem.W.Frag} {mg:Str→Option Value} {base:Heap} {qual:Str} {st:Stmt} {N ps:List Str} {k:Nat} {fb:SM} {C:Str} (D:Mk0 K mg C qual st ps) (S:Zo N ps (Zj st)) (np nn:Nat) (hp:ps.length=np) (hn:N.length=nn)
  (hbody:∀(f:Addr) (cdv:Value) (A:Around) (outer:List Env) (s:Shared) (H:Hp) (E:XK),Room k (A.deeper (envOfC qual (Zj st) s.heap.objs.size f cdv))→MSs (Zg0 CX0 P w K mg base N qual (Zj st) f cdv A outer s H E).nox (Zbd st) fb):MMk P w K mg base (k+1) C (ZO np nn fb):=by
 obtain ⟨f,fd,F,b,M,hm⟩:=D
 exact mmk F S np nn hp hn b M hm (hbody f)
theorem me0 {P:Program} {w:World} {K:PySem.W.Frag} {mg:Str→Option Value} {base:Heap} {m qual:Str} {st:Stmt} {N ps:List Str} {k:Nat} {fb:SM} {C:Str} (D:Me0 K mg C m qual st ps) (c:Cls K (zB mg C)) (S:Zo N ps (Zj st)) (np nn:Nat) (hp:ps.length=np) (hn:N.length=nn)
  (hbody:∀(f:Addr) (cdv:Value) (A:Around) (outer:List Env) (s:Shared) (H:Hp) (E:XK),Room k (A.deeper (envOfC qual (Zj st) s.heap.objs.size f cdv))→MSs (Zg0 CX0 P w K mg base N qual (Zj st) f cdv A outer s H E).nox (Zbd st) fb):Zem P w K mg base (k+1) C m (ZO np nn fb):=by
 obtain ⟨f,fd,F,b,mt⟩:=D
 exact ZwO F S np nn hp hn b c mt (hbody f)
end L2.MM
namespace My
open PySem L2 L2.MM
noncomputable section
def ZgA:SM:=(Zc9 (ZD (mOp gtM (Zd 1) (mC (.int 65535)))) (Z1 1 (mOp za (mOp Zbo (Zd 1) (mC (.int 65536))) (mOp ZjL (Zd 1) (mC (.int 65536))))) 200)
def Zis:SM:=(Zr (Z1 1 (mOp za (mOp ZcY (mC (.int 256)) (mCB ZmT (Zc (ZrF (Zd 0) ZcC ZcC (ZeQ (mC (.int 2)))) Zi))) (mCB ZmT (Zc (ZrF (Zd 0) (ZeQ (mC (.int 1))) ZcC (ZeQ (mC (.int 2)))) Zi))))
 (Zr ZgA
 (ZM (Zd 1))))
def Zdh:GM:=ZO 1 2 Zis
def Zik:SM:=(ZM (mOp Zdc (mC (.int 65535)) (mCB Zdh (Zc (Zd 0) Zi))))
def ZeZ:GM:=ZO 1 1 Zik
def Zmz:SM:=(ZM (ZfJ (ZD (mOp neM (mOp Zxn (Zd 0) (Zd 1)) (mC (.int 0)))) (mC (.int 1)) (mC (.int 0))))
def Zfz:GM:=ZO 2 2 Zmz
def Zip:SM:=(Zr (Z1 1 (mOp ixM (Zd 0) (mC (.int 4))))
 (ZM (mOp za (mOp za (mCB lenG (Zc (mOp ixM (Zd 0) (mC (.int 7))) Zi)) (mCB Zfz (Zc (Zd 1) (Zc (mC (.int 2)) Zi)))) (mCB Zfz (Zc (Zd 1) (Zc (mC (.int 1)) Zi))))))
def ZcG:GM:=ZO 1 2 Zip
def Zeh:SM:=(ZM (mOp ZcY (mC (.int 16)) (mOp ZjL (Zd 0) (mC (.int 4)))))
def zU:GM:=ZO 1 1 Zeh
def ZfD:SM:=(ZM (ZcO (Zc (mOp Zbo (mOp ZjL (Zd 0) (mC (.int 256))) (mC (.int 256))) (Zc (mOp Zbo (Zd 0) (mC (.int 256))) Zi))))
def zm:GM:=ZO 1 1 ZfD
def Zfk:SM:=(ZM (mOp za (mCB zm (Zc (mOp ZjL (Zd 0) (mC (.int 65536))) Zi)) (mCB zm (Zc (Zd 0) Zi))))
def Zbu:GM:=ZO 1 1 Zfk
def Zce:SM:=(Zr (Z1 1 (mOp za (mCB zm (Zc (mOp ixM (Zd 0) (mC (.int 0))) Zi)) (mCB zm (Zc (mOp ixM (Zd 0) (mC (.int 1))) Zi))))
 (Zr (Z1 2 (mOp za (mCB Zbu (Zc (mOp ixM (Zd 0) (mC (.int 2))) Zi)) (mCB Zbu (Zc (mOp ixM (Zd 0) (mC (.int 3))) Zi))))
 (Zr (Z1 3 (ZfJ (ZD (mOp eqM (mOp ixM (Zd 0) (mC (.int 6))) (mC (.int 0)))) (mC (.int 20)) (mC (.int 24))))
 (ZM (mOp za (mOp za (mOp za (Zd 1) (Zd 2)) (ZcO (Zc (mCB zU (Zc (Zd 3) Zi)) (Zc (mOp ixM (Zd 0) (mC (.int 4))) Zi)))) (mCB zm (Zc (mOp ixM (Zd 0) (mC (.int 5))) Zi)))))))
def zT:GM:=ZO 1 4 Zce
def ZdM:SM:=(ZM (ZfJ (ZD (mOp eqM (Zd 0) (mC (.int 0)))) (ZcO Zi) (mOp za (ZcO (Zc (mC (.int 2)) (Zc (mC (.int 4)) Zi))) (mCB zm (Zc (Zd 0) Zi)))))
def Za2:GM:=ZO 1 1 ZdM
def Zmy:SM:=(Zr (Z1 1 (mCB zT (Zc (Zd 0) Zi)))
 (Zr (Z1 2 (mOp za (mOp za (ZcO (Zc (mC (.int 0)) (Zc (mC (.int 0)) Zi))) (mCB Za2 (Zc (mOp ixM (Zd 0) (mC (.int 6))) Zi))) (mCB Zmd (Zc (mOp ixM (Zd 0) (mC (.int 7))) Zi))))
 (ZM (mOp za (mOp za (Zd 1) (mCB zm (Zc (mCB ZeZ (Zc (mOp za (mOp za (Zd 1) (ZcO (Zc (mC (.int 0)) (Zc (mC (.int 0)) Zi)))) (Zd 2)) Zi)) Zi))) (Zd 2)))))
def ZhS:GM:=ZO 1 3 Zmy
def Zhi:SM:=(ZM (mOp ZcY (mOp ZjL (mOp ixM (Zd 0) (mC (.int 12))) (mC (.int 16))) (mC (.int 4))))
def Zbt:GM:=ZO 1 1 Zhi
def Zij:SM:=(ZM (mOp za (mOp ZcY (mC (.int 256)) (mOp ixM (Zd 0) (Zd 1))) (mOp ixM (Zd 0) (mOp za (Zd 1) (mC (.int 1))))))
def Zad:GM:=ZO 2 2 Zij
def Zcb:SM:=(ZM (ZcI (mOp eqM (mCB Zfz (Zc (mOp ixM (Zd 0) (mC (.int 13))) (Zc (mC (.int 2)) Zi))) (mC (.int 1))) (ZcI (mOp eqM (mOp ixM (Zd 0) (mC (.int 20))) (mC (.int 2))) (ZcI (mOp eqM (mOp ixM (Zd 0) (mC (.int 21))) (mC (.int 4))) (mOp geM (mCB Zad (Zc (Zd 0) (Zc (mC (.int 22)) Zi))) (mC (.int 4)))))))
def zS:GM:=ZO 1 1 Zcb
def Zbw:SM:=(ZM (ZcI (mOp geM (mCB lenG (Zc (Zd 0) Zi)) (mC (.int 20))) (ZcI (mOp inM (mOp ixM (Zd 0) (mC (.int 12))) (ZbA (Zc (mCB zU (Zc (mC (.int 20)) Zi)) (Zc (mCB zU (Zc (mC (.int 24)) Zi)) Zi)))) (ZcI (mOp leM (mOp ixM (Zd 0) (mC (.int 13))) (mC (.int 31))) (ZcI (ZgU leM leM (mC (.int 0)) (mOp Zdc (mCB lenG (Zc (Zd 0) Zi)) (mCB Zbt (Zc (Zd 0) Zi))) (mC (.int 16))) (ZcI (mOp eqM (mCB Zad (Zc (Zd 0) (Zc (mC (.int 18)) Zi))) (mC (.int 0))) (ZcI (Znc (mOp eqM (mCB Zbt (Zc (Zd 0) Zi)) (mC (.int 20))) (mCB zS (Zc (Zd 0) Zi))) (mOp eqM (mCB Zdh (Zc (Zd 0) Zi)) (mC (.int 65535))))))))))
def zN:GM:=ZO 1 1 Zbw
def Zhj:SM:=(ZM (mOp za (mOp ZcY (mC (.int 65536)) (mCB Zad (Zc (Zd 0) (Zc (Zd 1) Zi)))) (mCB Zad (Zc (Zd 0) (Zc (mOp za (Zd 1) (mC (.int 2))) Zi)))))
def Zc6:GM:=ZO 2 2 Zhj
def Zg2:SM:=(mIf (Zeb (zR (mCB zN (Zc (Zd 0) Zi)))) Zll ZK)
def ZjU:SM:=(Zr Zg2
 (Zr (Z1 1 (mCB Zbt (Zc (Zd 0) Zi)))
 (Zr (Z1 2 (ZfJ (ZD (mOp eqM (Zd 1) (mC (.int 24)))) (mCB Zad (Zc (Zd 0) (Zc (mC (.int 22)) Zi))) (mC (.int 0))))
 (Zr (Z1 3 (ZbA (Zc (mCB Zad (Zc (Zd 0) (Zc (mC (.int 0)) Zi))) (Zc (mCB Zad (Zc (Zd 0) (Zc (mC (.int 2)) Zi))) Zi))))
 (Zr (Z1 4 (ZbA (Zc (mCB Zc6 (Zc (Zd 0) (Zc (mC (.int 4)) Zi))) (Zc (mCB Zc6 (Zc (Zd 0) (Zc (mC (.int 8)) Zi))) Zi))))
 (ZM (mOp za (mOp za (Zd 3) (Zd 4)) (ZbA (Zc (mOp ixM (Zd 0) (mC (.int 13))) (Zc (mCB Zad (Zc (Zd 0) (Zc (mC (.int 14)) Zi))) (Zc (Zd 2) (Zc (mCB ZhO (Zc (mSl (Zd 0) (ZeQ (Zd 1)) ZcC) Zi)) Zi))))))))))))
def Zg8:GM:=ZO 1 5 ZjU
def ZfY:SM:=(mIf (zR (Zd 0)) (ZM (mOp ixM (Zd 0) (mOp Zbo (Zd 1) (mCB lenG (Zc (Zd 0) Zi))))) ZK)
def Ziw:SM:=(Zr ZfY
 (ZM (mC (.int 0))))
def ZgW:GM:=ZO 2 2 Ziw
def ZmA:SM:=(Zr (Z1 2 (mOp Zbo (mOp za (mCB ZgW (Zc (Zd 0) (Zc (Zd 1) Zi))) (mOp ZcY (mC (.int 104729)) (mOp za (Zd 1) (mC (.int 1))))) (mC (.int 4294967291))))
 (Zr (Z1 2 (mOp Zbo (mOp ZcY (Zd 2) (mC (.int 48271))) (mC (.int 4294967279))))
 (ZM (mOp Zbo (mOp za (mOp ZcY (mOp ZjL (Zd 2) (mC (.int 64))) (mC (.int 69621))) (Zd 2)) (mC (.int 4294967231))))))
def ZaR:GM:=ZO 2 3 ZmA
def cell (ns:List Int) (k:Int):Int:=if ns.length=0 then 0 else ns.getD (k % (ns.length:Int)).toNat 0
def mix (ns:List Int) (k:Int):Int:=
 ((cell ns k+104729*(k+1)) % 4294967291*48271 % 4294967279/64*69621+(cell ns k+104729*(k+1)) % 4294967291*48271 % 4294967279) % 4294967231
theorem Zu3 (ns:List Int) (k:Int):0≤mix ns k∧mix ns k<4294967231:=by
 unfold mix; omega
theorem Zr5 {ns:List Int} {k:Int} (h:0<ns.length):atI (ns.map D.int) (k % (ns.length:Int))=some (.int (cell ns k)):=by
 have a:=Int.emod_nonneg k (show (ns.length:Int)≠0 by omega)
 have b:=Int.emod_lt_of_pos k (show (0:Int)<ns.length by omega)
 have c:(k % (ns.length:Int))=(((k % (ns.length:Int)).toNat:Nat):Int):=by omega
 rw [c]
 refine ZeN ?_
 have d:(k % (ns.length:Int)).toNat<ns.length:=by omega
 rw [Yn,List.getElem?_eq_getElem d]
 unfold cell
 rw [if_neg (by omega),List.getD_eq_getElem?_getD,List.getElem?_eq_getElem d]
 rfl
@[simp] theorem ZzV (ns:List Int) (k:Int) (θ:Sto):ZgW [.scr ns,.int k] θ=.ok (.int (cell ns k)) θ:=by
 by_cases h:ns.length=0
 ·have:ns=[]:=List.eq_nil_of_length_eq_zero h
  subst this
  simp [ZgW,Ziw,ZfY,cell]
 ·have h1:ns.isEmpty=false:=by cases ns with
   | nil=>exact absurd rfl h
   | cons _ _=>rfl
  have h2:0<ns.length:=by omega
  simp [ZgW,Ziw,ZfY,h1,h2,Zr5 (k:=k) h2]
@[simp] theorem ZBa (ns:List Int) (k:Int) (θ:Sto):ZaR [.scr ns,.int k] θ=.ok (.int (mix ns k)) θ:=by
 simp [ZaR,ZmA,ZgD,mix]
theorem Zhx {t:TMr} {body:SM} {n:Nat} {ρ:List Sl} {θ:Sto}:Zc9 t body (n+1) ρ θ=(t ρ θ).bind fun k θ=>if k=true then (body ρ θ).bind (Zgl (Zc9 t body n)) else .ok (.nx,ρ) θ:=rfl
abbrev ZsD:TMr:=ZD (mOp gtM (Zd 1) (mC (.int 65535)))
abbrev ZsE:SM:=Z1 1 (mOp za (mOp Zbo (Zd 1) (mC (.int 65536))) (mOp ZjL (Zd 1) (mC (.int 65536))))
theorem Zlr (t:Int) (x:Sl) (r:List Sl) (θ:Sto):ZsD (x::.val (.int t)::r) θ=.ok (decide (65535<t)) θ:=by simp
theorem Zo1 (t:Int) (x:Sl) (r:List Sl) (θ:Sto):ZsE (x::.val (.int t)::r) θ=.ok (.nx,x::.val (.int (t % 65536+t/65536))::r) θ:=by simp
theorem Zq2 {t:Int} (n:Nat) (h0:0≤t) (h1:t<4294967296) (x:Sl) (r:List Sl) (θ:Sto):Zc9 ZsD ZsE (n+3) (x::.val (.int t)::r) θ=.ok (.nx,x::.val (.int (ZbJ t))::r) θ:=by
 rw [Zhx,Zlr,R.bind_ok]
 by_cases c1:65535<t
 ·have s1:=Zi6 c1
  rw [if_pos (by simpa using c1),Zo1,R.bind_ok,Zbq]
  have hu:t % 65536+t/65536≤131070:=by omega
  generalize t % 65536+t/65536=u at s1 hu
  rw [Zhx,Zlr,R.bind_ok]
  by_cases c2:65535<u
  ·have s2:=Zi6 c2
   rw [if_pos (by simpa using c2),Zo1,R.bind_ok,Zbq]
   have hv:u % 65536+u/65536≤65535:=by omega
   generalize u % 65536+u/65536=v at s2 hv
   rw [Zhx,Zlr,R.bind_ok,if_neg (by simp; omega),←s1.1,←s2.1,ZfM s2.2.1 hv]
  ·rw [if_neg (by simpa using c2),←s1.1,ZfM s1.2.1 (by omega)]
 ·rw [if_neg (by simpa using c1),ZfM h0 (by omega)]
theorem ZmQ {t:Int} (h0:0≤t) (h1:t<4294967296) (x:Sl) (r:List Sl) (θ:Sto):Zc9 (ZD (mOp gtM (Zd 1) (mC (.int 65535)))) (Z1 1 (mOp za (mOp Zbo (Zd 1) (mC (.int 65536))) (mOp ZjL (Zd 1) (mC (.int 65536))))) 200 (x::.val (.int t)::r) θ=.ok (.nx,x::.val (.int (ZbJ t))::r) θ:=Zq2 197 h0 h1 x r θ
def Byt (ns:List Int):Prop:=(∀z∈ns,0≤z∧z≤255)∧ns.length≤1000
theorem Zlz:∀{ns:List Int} {m:Nat},(∀z∈ns,0≤z∧z≤255)→ns.length≤2*m→zY ns≤65535*m
 | [],m,_,_=>by simp [zY]; omega
 | [a],m,h,hl=>by
  have:=h a (by simp)
  simp [zY] at hl ⊢
  omega
 | a::b::r,m,h,hl=>by
  have h1:=h a (by simp)
  have h2:=h b (by simp)
  obtain ⟨m,rfl⟩:∃k,m=k+1:=⟨m-1,by simp at hl; omega⟩
  have:=Zlz (ns:=r) (m:=m) (fun z hz=>h z (by simp [hz])) (by simp at hl; omega)
  simp [zY]
  omega
theorem Byt.sum {ns:List Int} (h:Byt ns):0≤zY ns∧zY ns<4294967296:=by
 refine ⟨Zly fun z hz=>(h.1 z hz).1,?_⟩
 have:=Zlz (m:=500) h.1 (by have:=h.2; omega)
 omega
theorem Zj5 {ns:List Int} (h:Byt ns) (θ:Sto):Zdh [il ns] θ=.ok (.int (ZbJ (zY ns))) θ:=by
 have l1:=Zi9 ns
 have l2:=Zko ns
 have l3:=h.2
 have hs:=h.sum
 have e:=ZlA ns
 simp [Zdh,Zis,ZgA,ZgO,ZgD,show (ZeR ns).length≤100000 by omega,show (ZhT ns).length≤100000 by omega,e]
 rw [ZmQ hs.1 hs.2]
 simp
theorem ZnN {ns:List Int} (h:Byt ns) (θ:Sto):ZeZ [il ns] θ=.ok (.int (65535-ZbJ (zY ns))) θ:=by
 simp [ZeZ,Zik,Zj5 h]
structure Seg where
 src:Int
 goal:Int
 num:Int
 ans:Int
 flags:Int
 win:Int
 most:Int
 data:List Int
def Seg.d (s:Seg):D:=.tup [.int s.src,.int s.goal,.int s.num,.int s.ans,.int s.flags,.int s.win,.int s.most,itp s.data]
structure Seg.Ok (s:Seg):Prop where
 src:0≤s.src∧s.src≤65535
 goal:0≤s.goal∧s.goal≤65535
 num:0≤s.num∧s.num≤4294967295
 ans:0≤s.ans∧s.ans≤4294967295
 flags:0≤s.flags∧s.flags≤31
 win:0≤s.win∧s.win≤65535
 most:s.most=0∨(4≤s.most∧s.most≤65535∧s.flags/2 % 2=1)
 data:(∀z∈s.data,0≤z∧z≤255)∧s.data.length≤16
section
variable {s:Seg} {θ:Sto}
@[simp] theorem d0:ixM s.d (.int 0) θ=.ok (.int s.src) θ:=nr rfl
@[simp] theorem d1:ixM s.d (.int 1) θ=.ok (.int s.goal) θ:=nr rfl
@[simp] theorem d2:ixM s.d (.int 2) θ=.ok (.int s.num) θ:=nr rfl
@[simp] theorem d3:ixM s.d (.int 3) θ=.ok (.int s.ans) θ:=nr rfl
@[simp] theorem d4:ixM s.d (.int 4) θ=.ok (.int s.flags) θ:=nr rfl
@[simp] theorem d5:ixM s.d (.int 5) θ=.ok (.int s.win) θ:=nr rfl
@[simp] theorem d6:ixM s.d (.int 6) θ=.ok (.int s.most) θ:=nr rfl
@[simp] theorem d7:ixM s.d (.int 7) θ=.ok (itp s.data) θ:=nr rfl
end
def two (k:Int):List Int:=[k/256 % 256,k % 256]
def Znk (k:Int):List Int:=two (k/65536)++two k
def hd (s:Seg):Int:=if s.most=0 then 80 else 96
def Zb5 (s:Seg):List Int:=two s.src++two s.goal++(Znk s.num++Znk s.ans)++[hd s,s.flags]++two s.win
def Zdz (m:Int):List Int:=if m=0 then [] else [2,4]++two m
def behind (s:Seg):List Int:=[0,0]++Zdz s.most++s.data
def putL (s:Seg):List Int:=Zb5 s++two (65535-ZbJ (zY (Zb5 s++[0,0]++behind s)))++behind s
@[simp] theorem Zse (k:Int) (θ:Sto):zm [.int k] θ=.ok (il (two k)) θ:=by
 simp [zm,ZfD,two]
@[simp] theorem two_len (k:Int):(two k).length=2:=rfl
@[simp] theorem Zw5 (k:Int):(Znk k).length=4:=rfl
@[simp] theorem ZvQ (s:Seg):(Zb5 s).length=16:=rfl
@[simp] theorem Zq1 (k:Int) (θ:Sto):Zbu [.int k] θ=.ok (il (Znk k)) θ:=by
 simp [Zbu,Zfk,Znk]
@[simp] theorem ZnR (k:Int) (θ:Sto):zU [.int k] θ=.ok (.int (16*(k/4))) θ:=by
 simp [zU,Zeh,ZgD]
@[simp] theorem Znw (k:Int) (θ:Sto):Za2 [.int k] θ=.ok (il (Zdz k)) θ:=by
 by_cases h:k=0<;>simp [Za2,ZdM,Zdz,h,ZcR]
@[simp] theorem ZxC (s:Seg) (θ:Sto):zT [s.d] θ=.ok (il (Zb5 s)) θ:=by
 by_cases h:s.most=0<;>simp [zT,Zce,Zb5,hd,h]
theorem Zi0 (m:Int):(Zdz m).length≤4:=by unfold Zdz; split<;>simp
theorem ZeE (k:Int):∀z∈two k,0≤z∧z≤255:=by
 intro z hz
 simp [two] at hz
 rcases hz with rfl | rfl<;>omega
theorem ZkO (k:Int):∀z∈Znk k,0≤z∧z≤255:=by
 intro z hz
 rcases YK.mp hz with h | h
 ·exact ZeE _ z h
 ·exact ZeE _ z h
theorem ZbK {a b:List Int} (h1:∀z∈a,0≤z∧z≤255) (h2:∀z∈b,0≤z∧z≤255):∀z∈a++b,0≤z∧z≤255:=fun z hz=>(YK.mp hz).elim (h1 z) (h2 z)
theorem Zjb {s:Seg} (h:0≤s.flags∧s.flags≤255):∀z∈Zb5 s,0≤z∧z≤255:=by
 refine ZbK (ZbK (ZbK (ZbK (ZeE _) (ZeE _)) (ZbK (ZkO _) (ZkO _))) ?_) (ZeE _)
 intro z hz
 simp at hz
 rcases hz with rfl | rfl
 ·unfold hd; split<;>omega
 ·exact h
theorem Zpm (m:Int):∀z∈Zdz m,0≤z∧z≤255:=by
 unfold Zdz
 split
 ·intro z hz; simp at hz
 ·refine ZbK ?_ (ZeE _)
  intro z hz
  simp at hz
  omega
theorem Zih {s:Seg} (h:∀z∈s.data,0≤z∧z≤255):∀z∈behind s,0≤z∧z≤255:=by
 refine ZbK (ZbK ?_ (Zpm _)) h
 intro z hz
 simp at hz
 omega
theorem ZfP (s:Seg):(behind s).length≤6+s.data.length:=by
 have:=Zi0 s.most
 simp [behind]
 omega
structure Seg.Put (s:Seg):Prop where
 flags:0≤s.flags∧s.flags≤255
 data:(∀z∈s.data,0≤z∧z≤255)∧s.data.length≤100
theorem Seg.Ok.put {s:Seg} (h:s.Ok):s.Put:=⟨⟨h.flags.1,by have:=h.flags.2; omega⟩,h.data.1,by have:=h.data.2; omega⟩
theorem Seg.Put.byt {s:Seg} (h:s.Put):Byt (Zb5 s++[0,0]++behind s):=by
 refine ⟨ZbK (ZbK (Zjb h.flags) ?_) (Zih h.data.1),?_⟩
 ·intro z hz
  simp at hz
  omega
 ·have:=ZfP s
  have:=h.data.2
  simp
  omega
theorem Zv4 {s:Seg} (h:s.Put) (θ:Sto):ZhS [s.d] θ=.ok (il (putL s)) θ:=by
 have b:=h.byt
 have l1:=Zi0 s.most
 have l2:=h.data.2
 have l3:=ZfP s
 have e1:0::0::(Zdz s.most++s.data)=behind s:=rfl
 have e2:=ZnN b θ
 simp only [Yz,Jm,YU] at e2
 simp (disch:=first | done | (simp; done) | omega | (simp; omega)) [ZhS,Zmy,ZrK,-ZoT,e1,e2]
 simp [putL,show 18+(behind s).length≤100000 by omega]
theorem ZhG {a b c:List Int} (ha:a.length % 2=0) (hb:b.length % 2=0):zY (a++b++c)=zY a+zY b+zY c:=by
 rw [ZhH (by rw [Ym]; omega),ZhH ha]
theorem Zob {s:Seg} (h:s.Put):ZbJ (zY (putL s))=65535:=by
 have b:=h.byt
 have w0:=b.sum
 have e1:zY (putL s)=zY (Zb5 s)+zY (two (65535-ZbJ (zY (Zb5 s++[0,0]++behind s))))+zY (behind s):=ZhG (by simp) (by simp)
 have e2:zY (Zb5 s++[0,0]++behind s)=zY (Zb5 s)+zY [0,0]+zY (behind s):=ZhG (by simp) (by simp)
 have e3:zY [0,0]=0:=by simp [zY]
 have f:=ZrS w0.1
 have e4:zY (two (65535-ZbJ (zY (Zb5 s++[0,0]++behind s))))=256*((65535-ZbJ (zY (Zb5 s++[0,0]++behind s)))/256)+(65535-ZbJ (zY (Zb5 s++[0,0]++behind s))) % 256:=by
  have:=f.2.1
  have:=f.1
  simp only [zY,two]
  omega
 have c:=Zlq w0.1
 rw [e1,e4]
 rw [e3] at e2
 have:zY (Zb5 s)+(256*((65535-ZbJ (zY (Zb5 s++[0,0]++behind s)))/256)+(65535-ZbJ (zY (Zb5 s++[0,0]++behind s))) % 256)+zY (behind s)=zY (Zb5 s++[0,0]++behind s)+(256*((65535-ZbJ (zY (Zb5 s++[0,0]++behind s)))/256)+(65535-ZbJ (zY (Zb5 s++[0,0]++behind s))) % 256):=by omega
 rw [this]
 exact c
theorem Zjq {s:Seg} (h:s.Put):Byt (putL s):=by
 refine ⟨ZbK (ZbK (Zjb h.flags) (ZeE _)) (Zih h.data.1),?_⟩
 have:=ZfP s
 have:=h.data.2
 simp [putL]
 omega
theorem ZlO {s:Seg}:(putL s).length=(if s.most=0 then 20 else 24)+s.data.length:=by
 unfold putL behind Zdz
 by_cases h:s.most=0<;>simp [h]<;>omega
theorem Zk4 (s:Seg):∃x y,putL s=[s.src/256 % 256,s.src % 256,s.goal/256 % 256,s.goal % 256,s.num/65536/256 % 256,s.num/65536 % 256,s.num/256 % 256,s.num % 256,
  s.ans/65536/256 % 256,s.ans/65536 % 256,s.ans/256 % 256,s.ans % 256,hd s,s.flags,s.win/256 % 256,s.win % 256,x,y,0,0]++(Zdz s.most++s.data):=⟨_,_,rfl⟩
@[simp] theorem ZcF {a:List Int} {i:Int} (h0:0≤i) (h:i+1<a.length) (θ:Sto):Zad [il a,.int i] θ=.ok (.int (256*gt a i.toNat+gt a (i+1).toNat)) θ:=by
 simp [Zad,Zij,Ze6 (θ:=θ) h0 (show i<a.length by omega),Ze6 (θ:=θ) (show 0≤i+1 by omega) h,ZgD]
@[simp] theorem ZiP {a:List Int} {i:Int} (h0:0≤i) (h:i+3<a.length) (θ:Sto):Zc6 [il a,.int i] θ=.ok (.int (65536*(256*gt a i.toNat+gt a (i+1).toNat)+(256*gt a (i+2).toNat+gt a (i+2+1).toNat))) θ:=by
 simp [Zc6,Zhj,ZcF (θ:=θ) h0 (show i+1<a.length by omega),ZcF (θ:=θ) (show 0≤i+2 by omega) (show i+2+1<a.length by omega),ZgD]
@[simp] theorem ZiM {a:List Int} (h:12<a.length) (θ:Sto):Zbt [il a] θ=.ok (.int (gt a 12/16*4)) θ:=by
 have:=Ze6 (a:=a) (θ:=θ) (i:=12) (by decide) (by omega)
 simp [Zbt,Zhi,this,ZgD]
def bit (f k:Int):Int:=if Builtin.bitAnd f k=0 then 0 else 1
@[simp] theorem ZBb (f k:Int) (θ:Sto):Zfz [.int f,.int k] θ=.ok (.int (bit f k)) θ:=by
 by_cases h:Builtin.bitAnd f k=0<;>simp [Zfz,Zmz,bit,h]
theorem Zr3:∀n:Fin 32,bit (n.val:Int) 1=(n.val:Int) % 2∧bit (n.val:Int) 2=(n.val:Int)/2 % 2∧bit (n.val:Int) 4=(n.val:Int)/4 % 2∧bit (n.val:Int) 8=(n.val:Int)/8 % 2∧bit (n.val:Int) 16=(n.val:Int)/16 % 2:=by decide
theorem Zpn {f:Int} (h:0≤f∧f≤31):bit f 1=f % 2∧bit f 2=f/2 % 2∧bit f 4=f/4 % 2∧bit f 8=f/8 % 2∧bit f 16=f/16 % 2:=by
 have:=Zr3 ⟨f.toNat,by omega⟩
 simp only at this
 rw [show ((f.toNat:Nat):Int)=f by omega] at this
 exact this
theorem ZnP (s:Seg) (θ:Sto):ZcG [s.d] θ=.ok (.int (s.data.length+bit s.flags 2+bit s.flags 1)) θ:=by
 simp [ZcG,Zip]
def at2 (a:List Int) (i:Nat):Int:=256*gt a i+gt a (i+1)
def at4 (a:List Int) (i:Nat):Int:=65536*at2 a i+at2 a (i+2)
def longOk (a:List Int):Bool:=decide (bit (gt a 13) 2=1) && (decide (gt a 20=2) && (decide (gt a 21=4) && decide (4≤at2 a 22)))
def Zcj (a:List Int):Int:=gt a 12/16*4
def ZaW (a:List Int):Bool:=decide (20≤a.length) && (decide (gt a 12=80∨gt a 12=96) && (decide (gt a 13≤31) && (decide (0≤(a.length:Int)-Zcj a∧(a.length:Int)-Zcj a≤16) &&
 (decide (at2 a 18=0) && ((decide (Zcj a=20) || longOk a) && decide (ZbJ (zY a)=65535))))))
theorem Zt7 {a:List Int} (h:24≤a.length) (θ:Sto):zS [il a] θ=.ok (.bl (longOk a)) θ:=by
 have g:=fun (i:Int) (h0:0≤i) (h1:i<a.length)=>Ze6 (a:=a) (θ:=θ) (i:=i) h0 h1
 have g13:=g 13 (by decide) (by omega)
 have g20:=g 20 (by decide) (by omega)
 have g21:=g 21 (by decide) (by omega)
 have g22:=ZcF (a:=a) (i:=22) (by decide) (by omega) θ
 simp only [show (13:Int).toNat=13 from rfl,show (20:Int).toNat=20 from rfl,show (21:Int).toNat=21 from rfl,show (22:Int).toNat=22 from rfl,show (22+1:Int).toNat=23 from rfl] at g13 g20 g21 g22
 unfold longOk at2
 simp [zS,Zcb,g13,g20,g21,g22]
theorem ZrJ (x y z:Int) (θ:Sto):inM (.int x) (.tup [.int y,.int z]) θ=.ok (.bl (decide (x=y∨x=z))) θ:=by
 have e:inD θ (.int x) (.tup [.int y,.int z])=some (decide (y=x) || (decide (z=x) || false)):=rfl
 have e2:(decide (y=x) || (decide (z=x) || false))=decide (x=y∨x=z):=by
  rw [Jd]
  simp only [YW,decide_eq_true_eq,YY,or_false]
  constructor
  ·rintro (h | h)
   ·exact .inl h.symm
   ·exact .inr h.symm
  ·rintro (h | h)
   ·exact .inl h.symm
   ·exact .inr h.symm
 unfold inM
 rw [e,e2]
theorem ZbN {a:List Int} (h:Byt a) (θ:Sto):zN [il a] θ=.ok (.bl (ZaW a)) θ:=by
 by_cases c1:20≤a.length
 ·have g:=fun (i:Int) (h0:0≤i) (h1:i<a.length)=>Ze6 (a:=a) (θ:=θ) (i:=i) h0 h1
  have g12:=g 12 (by decide) (by omega)
  have g13:=g 13 (by decide) (by omega)
  have g18:=ZcF (a:=a) (i:=18) (by decide) (by omega) θ
  have gh:=ZiM (a:=a) (by omega) θ
  have gf:=Zj5 h θ
  have c1':(20:Int)≤a.length:=by omega
  simp only [show (12:Int).toNat=12 from rfl,show (13:Int).toNat=13 from rfl,show (18:Int).toNat=18 from rfl,show (18+1:Int).toNat=19 from rfl] at g12 g13 g18
  by_cases c2:gt a 12=80
  ·rw [c2] at g12 gh
   simp [zN,Zbw,ZaW,Zcj,at2,c1,c1',g12,g13,g18,gh,gf,ZrJ,c2]<;>rfl
  ·by_cases c3:gt a 12=96
   ·rw [c3] at g12 gh
    by_cases c4:24≤a.length
    ·have gl:=Zt7 c4 θ
     simp [zN,Zbw,ZaW,Zcj,at2,c1,c1',g12,g13,g18,gh,gf,ZrJ,c3,gl]<;>rfl
    ·have c5:¬(24:Int)≤(a.length:Int):=by omega
     simp [zN,Zbw,ZaW,Zcj,at2,c1,c1',g12,g13,g18,gh,gf,ZrJ,c3,c5]<;>rfl
   ·simp [zN,Zbw,ZaW,Zcj,at2,c1,c1',g12,g13,g18,gh,gf,ZrJ,c2,c3]
 ·have c1':¬(20:Int)≤a.length:=by omega
  simp [zN,Zbw,ZaW,c1,c1']
def Zb8 (a:List Int):Seg:=⟨at2 a 0,at2 a 2,at4 a 4,at4 a 8,gt a 13,at2 a 14,if Zcj a=24 then at2 a 22 else 0,a.drop (Zcj a).toNat⟩
theorem ZkB {a:List Int} (h:ZaW a=true):20≤a.length∧((Zcj a=20)∨(Zcj a=24∧24≤a.length∧longOk a=true))∧(a.length:Int)-Zcj a≤16∧gt a 13≤31:=by
 unfold ZaW at h
 simp only [Yl,decide_eq_true_eq,YW] at h
 obtain ⟨h1,h2,h3,h4,h5,h6,h7⟩:=h
 refine ⟨h1,?_,h4.2,h3⟩
 rcases h2 with h2 | h2
 ·left; unfold Zcj; rw [h2]; rfl
 ·right
  have e:Zcj a=24:=by unfold Zcj; rw [h2]; rfl
  refine ⟨e,by have:=h4.1; rw [e] at this; omega,?_⟩
  rcases h6 with h6 | h6
  ·rw [e] at h6; cases h6
  ·exact h6
theorem ZiO {a:List Int} (h:Byt a) (hr:ZaW a=true) (θ:Sto):Zg8 [il a] θ=.ok (Zb8 a).d θ:=by
 obtain ⟨l1,l2,l3,l4⟩:=ZkB hr
 have ir:=ZbN h θ
 rw [hr] at ir
 have gh:=ZiM (a:=a) (by omega) θ
 have g13:=Ze6 (a:=a) (θ:=θ) (i:=13) (by decide) (by omega)
 have q0:=ZcF (a:=a) (i:=0) (by decide) (by omega) θ
 have q2:=ZcF (a:=a) (i:=2) (by decide) (by omega) θ
 have q14:=ZcF (a:=a) (i:=14) (by decide) (by omega) θ
 have q4:=ZiP (a:=a) (i:=4) (by decide) (by omega) θ
 have q8:=ZiP (a:=a) (i:=8) (by decide) (by omega) θ
 simp only [show (13:Int).toNat=13 from rfl,show (0:Int).toNat=0 from rfl,show (0+1:Int).toNat=1 from rfl,show (2:Int).toNat=2 from rfl,show (2+1:Int).toNat=3 from rfl,show (14:Int).toNat=14 from rfl,show (14+1:Int).toNat=15 from rfl,
  show (4:Int).toNat=4 from rfl,show (4+1:Int).toNat=5 from rfl,show (4+2:Int).toNat=6 from rfl,show (4+2+1:Int).toNat=7 from rfl,show (8:Int).toNat=8 from rfl,show (8+1:Int).toNat=9 from rfl,show (8+2:Int).toNat=10 from rfl,show (8+2+1:Int).toNat=11 from rfl] at g13 q0 q2 q14 q4 q8
 have gh':Zbt [il a] θ=.ok (.int (Zcj a)) θ:=gh
 have ps:∀x:Int,0≤x→Zbh a (some x) none=a.drop x.toNat:=fun x hx=>Zdn a hx
 rcases l2 with e | ⟨e,l5,_⟩
 ·simp [Zg8,ZjU,Zg2,ir,gh',e,g13,q0,q2,q4,q8,q14,ps,Zb8,Seg.d,at2,at4]
 ·have q22:=ZcF (a:=a) (i:=22) (by decide) (by omega) θ
  simp only [show (22:Int).toNat=22 from rfl,show (22+1:Int).toNat=23 from rfl] at q22
  simp [Zg8,ZjU,Zg2,ir,gh',e,g13,q0,q2,q4,q8,q14,q22,ps,Zb8,Seg.d,at2,at4]
theorem Zoa (s:Seg):gt (putL s) 12=hd s∧gt (putL s) 13=s.flags∧at2 (putL s) 18=0∧at2 (putL s) 0=256*(s.src/256 % 256)+s.src % 256∧at2 (putL s) 2=256*(s.goal/256 % 256)+s.goal % 256∧
  at4 (putL s) 4=65536*(256*(s.num/65536/256 % 256)+s.num/65536 % 256)+(256*(s.num/256 % 256)+s.num % 256)∧at4 (putL s) 8=65536*(256*(s.ans/65536/256 % 256)+s.ans/65536 % 256)+(256*(s.ans/256 % 256)+s.ans % 256)∧
  at2 (putL s) 14=256*(s.win/256 % 256)+s.win % 256:=by
 obtain ⟨x,y,e⟩:=Zk4 s
 rw [e]
 unfold at4 at2
 refine ⟨rfl,rfl,?_,rfl,rfl,rfl,rfl,rfl⟩
 show 256*(0:Int)+0=0
 rfl
theorem Zkk (s:Seg) (h:s.most≠0):gt (putL s) 20=2∧gt (putL s) 21=4∧at2 (putL s) 22=256*(s.most/256 % 256)+s.most % 256:=by
 obtain ⟨x,y,e⟩:=Zk4 s
 have e2:Zdz s.most=[2,4,s.most/256 % 256,s.most % 256]:=by unfold Zdz; rw [if_neg h]; rfl
 rw [e,e2]
 unfold at2
 exact ⟨rfl,rfl,rfl⟩
theorem ZgN {s:Seg} (h:s.Ok):ZaW (putL s)=true:=by
 obtain ⟨g12,g13,g18,_⟩:=Zoa s
 have hl:=ZlO (s:=s)
 have hd':=h.data.2
 have hf:=Zob h.put
 have hw:=h.flags
 unfold ZaW longOk Zcj
 simp only [Yl,decide_eq_true_eq,YW]
 rw [g12,g13,g18,hf,hl]
 by_cases m:s.most=0
 ·have e:hd s=80:=if_pos m
  rw [e,if_pos m]
  simp
  omega
 ·have e:hd s=96:=if_neg m
  obtain ⟨p1,p2,p3⟩:=Zkk s m
  have hm:4≤s.most∧s.most≤65535∧s.flags/2 % 2=1:=h.most.resolve_left m
  have hb:=(Zpn h.flags).2.1
  rw [e,if_neg m,p1,p2,p3,hb]
  simp
  omega
theorem Zpa (s:Seg):(putL s).drop (if s.most=0 then 20 else 24)=s.data:=by
 obtain ⟨x,y,e⟩:=Zk4 s
 rw [e]
 by_cases m:s.most=0
 ·rw [if_pos m]
  simp [Zdz,m]
 ·rw [if_neg m]
  simp [Zdz,m,two]
theorem ZjH {s:Seg} (h:s.Ok):Zb8 (putL s)=s:=by
 obtain ⟨g12,g13,g18,g0,g2,g4,g8,g14⟩:=Zoa s
 have e0:=Zpa s
 obtain ⟨⟨a1,a2⟩,⟨b1,b2⟩,⟨c1,c2⟩,⟨d1,d2⟩,_,⟨f1,f2⟩,hm,_⟩:=h
 unfold Zb8 Zcj
 rw [g12,g13,g0,g2,g4,g8,g14]
 obtain ⟨src,goal,num,ans,flags,win,most,data⟩:=s
 simp only at *
 by_cases m:most=0
 ·subst m
  have e:hd ⟨src,goal,num,ans,flags,win,0,data⟩=80:=rfl
  rw [e]
  simp only [if_true] at e0
  simp [e0]
  omega
 ·have e:hd ⟨src,goal,num,ans,flags,win,most,data⟩=96:=if_neg m
  obtain ⟨_,_,p3⟩:=Zkk ⟨src,goal,num,ans,flags,win,most,data⟩ m
  simp only at p3
  rw [e,p3]
  rw [if_neg m] at e0
  simp [e0]
  have:=hm.resolve_left m
  omega
def ZfE:SM:=(ZA ["Pile"] "row" (Zd 0) (ZcO Zi))
def ZbZ:GM:=ZO 1 1 ZfE
def Zim:SM:=(ZM (mOp Zdc (mC (.int 64)) (mCB lenG (Zc (Zz ["Pile"] "row" (Zd 0)) Zi))))
def Zeu:GM:=ZO 1 1 Zim
def ZkP:SM:=(ZM (mOp Zbo (mOp za (Zd 0) (Zd 1)) (mC (.int 4294967296))))
def zk:GM:=ZO 2 2 ZkP
def Zio:SM:=(ZM (mOp Zdc (mOp Zbo (mOp za (mOp Zdc (Zd 0) (Zd 1)) (mC (.int 2147483648))) (mC (.int 4294967296))) (mC (.int 2147483648))))
def zF:GM:=ZO 2 2 Zio
def ZeL:SM:=(Zr (ZA ["End"] "ours" (Zd 0) (Zd 1))
 (Zr (ZA ["End"] "theirs" (Zd 0) (Zd 2))
 (Zr (ZA ["End"] "state" (Zd 0) (ZfJ (zR (Zd 4)) (mC (.str "syn sent")) (mC (.str "listen"))))
 (Zr (ZA ["End"] "error" (Zd 0) (mC (.str "")))
 (Zr (ZA ["End"] "first" (Zd 0) (Zd 3))
 (Zr (ZA ["End"] "una" (Zd 0) (Zd 3))
 (Zr (ZA ["End"] "nxt" (Zd 0) (Zd 3))
 (Zr (ZA ["End"] "rcv" (Zd 0) (mC (.int 0)))
 (Zr (ZA ["End"] "wnd" (Zd 0) (mC (.int 0)))
 (Zr (ZA ["End"] "told" (Zd 0) (mC (.int 0)))
 (Zr (ZA ["End"] "told_by" (Zd 0) (mC (.int 0)))
 (Zr (ZA ["End"] "most" (Zd 0) (mC (.int 12)))
 (Zr (ZA ["End"] "written" (Zd 0) (mCB (mkG "Pile" ZbZ) Zi))
 (Zr (ZA ["End"] "come" (Zd 0) (mCB (mkG "Pile" ZbZ) Zi))
 (Zr (ZA ["End"] "early" (Zd 0) Zjy)
 (Zr (ZA ["End"] "early_fin" (Zd 0) (mC .non))
 (Zr (ZA ["End"] "has_closed" (Zd 0) (mC (.bl false)))
 (Zr (ZA ["End"] "behind" (Zd 0) (mCB zk (Zc (Zd 3) (Zc (mC (.int 1)) Zi))))
 (Zr (ZA ["End"] "owed_reset" (Zd 0) (mC .non))
 (Zr (ZA ["End"] "owes_syn" (Zd 0) (mC (.bl false)))
 (Zr (ZA ["End"] "owes_answer" (Zd 0) (mC (.bl false)))
 (Zr (ZA ["End"] "probes" (Zd 0) (mC (.bl false)))
 (Zr (ZA ["End"] "since" (Zd 0) (mC (.int 0)))
 (Zr (ZA ["End"] "wait" (Zd 0) (mC (.int 1000)))
 (ZA ["End"] "tries" (Zd 0) (mC (.int 0)))))))))))))))))))))))))))
def Zcs:GM:=ZO 5 5 ZeL
def ZeT:SM:=(Zr (ZA ["End"] "since" (Zd 0) (Zd 1))
 (Zr (ZA ["End"] "wait" (Zd 0) (mC (.int 1000)))
 (ZA ["End"] "tries" (Zd 0) (mC (.int 0)))))
def Z7:GM:=ZO 2 2 ZeT
def Zjg:SM:=(ZM (Zz ["End"] "state" (Zd 0)))
def Zes:GM:=ZO 1 1 Zjg
def Zfe:SM:=(ZM (mCB Zeu (Zc (Zz ["End"] "come" (Zd 0)) Zi)))
def zP:GM:=ZO 1 1 Zfe
def Zed:SM:=(ZM (mCB Zky (Zc (Zz ["End"] "most" (Zd 0)) (Zc (mC (.int 16)) Zi))))
def Zae:GM:=ZO 1 1 Zed
def Zfc:SM:=(mIf (ZD (mOp eqM (Zz ["End"] "state" (Zd 0)) (mC (.str "syn sent")))) (ZM (ZbA (Zc (Zz ["End"] "ours" (Zd 0)) (Zc (Zz ["End"] "theirs" (Zd 0)) (Zc (Zz ["End"] "first" (Zd 0)) (Zc (mC (.int 0)) (Zc (mC (.int 2)) (Zc (mC (.int 64)) (Zc (mC (.int 16)) (Zc (ZbA Zi) Zi)))))))))) ZK)
def Zgw:SM:=(Zr (ZA ["End"] "owes_syn" (Zd 0) (mC (.bl false)))
 (Zr Zfc
 (ZM (ZbA (Zc (Zz ["End"] "ours" (Zd 0)) (Zc (Zz ["End"] "theirs" (Zd 0)) (Zc (Zz ["End"] "first" (Zd 0)) (Zc (Zz ["End"] "rcv" (Zd 0)) (Zc (mOp za (mC (.int 2)) (mC (.int 16))) (Zc (mC (.int 64)) (Zc (mC (.int 16)) (Zc (ZbA Zi) Zi))))))))))))
def ZbO:GM:=ZO 1 1 Zgw
def Zfa:SM:=(ZM (ZbA (Zc (Zz ["End"] "ours" (Zd 0)) (Zc (Zz ["End"] "theirs" (Zd 0)) (Zc (Zd 1) (Zc (Zz ["End"] "rcv" (Zd 0)) (Zc (mOp za (Zd 2) (mC (.int 16))) (Zc (mCB zP (Zc (Zd 0) Zi)) (Zc (mC (.int 0)) (Zc (mCB ZhO (Zc (Zd 3) Zi)) Zi))))))))))
def zE:GM:=ZO 4 4 Zfa
def ZcL:SM:=(mIf (ZD (mOp eqM (Zz ["End"] "tries" (Zd 0)) (mC (.int 6)))) (Zr (ZA ["End"] "state" (Zd 0) (mC (.str "closed")))
  (Zr (ZA ["End"] "error" (Zd 0) (mC (.str "time")))
  (ZM (mC .non)))) ZK)
def ZdN:SM:=(mIf (ZD (mOp inM (Zz ["End"] "state" (Zd 0)) (ZbA (Zc (mC (.str "syn sent")) (Zc (mC (.str "syn come")) Zi))))) (ZM (mCB ZbO (Zc (Zd 0) Zi))) ZK)
def Zei:SM:=(Zr ZcL
 (Zr (ZA ["End"] "tries" (Zd 0) (mOp za (Zz ["End"] "tries" (Zd 0)) (mC (.int 1))))
 (Zr (ZA ["End"] "wait" (Zd 0) (mCB Zky (Zc (mOp ZcY (mC (.int 2)) (Zz ["End"] "wait" (Zd 0))) (Zc (mC (.int 16000)) Zi))))
 (Zr (ZA ["End"] "since" (Zd 0) (Zd 1))
 (Zr ZdN
 (Zr (Z1 2 (mSl (Zz ["Pile"] "row" (Zz ["End"] "written" (Zd 0))) ZcC (ZeQ (mCB Zky (Zc (mCB zF (Zc (Zz ["End"] "nxt" (Zd 0)) (Zc (Zz ["End"] "una" (Zd 0)) Zi))) (Zc (mCB Zae (Zc (Zd 0) Zi)) Zi))))))
 (ZM (mCB zE (Zc (Zd 0) (Zc (Zz ["End"] "una" (Zd 0)) (Zc (ZfJ (ZD (mOp gtM (mCB lenG (Zc (Zd 2) Zi)) (mC (.int 0)))) (mC (.int 0)) (mC (.int 1))) (Zc (Zd 2) Zi))))))))))))
def Zdx:GM:=ZO 2 3 Zei
def Zba:SM:=(mIf (Zeb (zR (Zz ["End"] "owes_answer" (Zd 0)))) (ZM (mC .non)) ZK)
def ZbC:SM:=(Zr Zba
 (Zr (ZA ["End"] "owes_answer" (Zd 0) (mC (.bl false)))
 (ZM (mCB zE (Zc (Zd 0) (Zc (Zz ["End"] "nxt" (Zd 0)) (Zc (mC (.int 0)) (Zc (ZcO Zi) Zi))))))))
def zZ:GM:=ZO 1 1 ZbC
def Zii:SM:=(ZM (mCB zF (Zc (Zz ["End"] "behind" (Zd 0)) (Zc (Zz ["End"] "nxt" (Zd 0)) Zi))))
def ZbF:GM:=ZO 1 1 Zii
def Zeg:SM:=(ZM (ZcI (mOp inM (Zz ["End"] "state" (Zd 0)) (ZbA (Zc (mC (.str "open")) (Zc (mC (.str "wait one")) (Zc (mC (.str "close wait")) (Zc (mC (.str "closing")) (Zc (mC (.str "last ack")) Zi))))))) (mOp gtM (mCB ZbF (Zc (Zd 0) Zi)) (mC (.int 0)))))
def Zag:GM:=ZO 1 1 Zeg
def ZeU:SM:=(ZM (ZcI (mOp inM (Zz ["End"] "state" (Zd 0)) (ZbA (Zc (mC (.str "wait one")) (Zc (mC (.str "closing")) (Zc (mC (.str "last ack")) Zi))))) (mOp eqM (mCB ZbF (Zc (Zd 0) Zi)) (mC (.int 0)))))
def ZbG:GM:=ZO 1 1 ZeU
def Zgz:SM:=(ZM (Znc (mCB Zag (Zc (Zd 0) Zi)) (mCB ZbG (Zc (Zd 0) Zi))))
def ZbQ:GM:=ZO 1 1 Zgz
def ZeG:SM:=(Zr (Z1 2 (Zz ["End"] "nxt" (Zd 0)))
 (Zr (Z1 3 (mCB Zky (Zc (mCB Zae (Zc (Zd 0) Zi)) (Zc (mCB ZbF (Zc (Zd 0) Zi)) (Zc (Zd 1) Zi)))))
 (Zr (Z1 4 (mCB zF (Zc (Zd 2) (Zc (Zz ["End"] "una" (Zd 0)) Zi))))
 (Zr (ZA ["End"] "nxt" (Zd 0) (mCB zk (Zc (Zd 2) (Zc (Zd 3) Zi))))
 (ZM (mCB zE (Zc (Zd 0) (Zc (Zd 2) (Zc (ZfJ (ZD (mOp eqM (mCB ZbF (Zc (Zd 0) Zi)) (mC (.int 0)))) (mC (.int 8)) (mC (.int 0))) (Zc (mSl (Zz ["Pile"] "row" (Zz ["End"] "written" (Zd 0))) (ZeQ (Zd 4)) (ZeQ (mOp za (Zd 4) (Zd 3)))) Zi))))))))))
def Zcp:GM:=ZO 2 5 ZeG
def Zhg:SM:=(Zr (Z1 1 (Zz ["End"] "nxt" (Zd 0)))
 (Zr (ZA ["End"] "nxt" (Zd 0) (mCB zk (Zc (Zd 1) (Zc (mC (.int 1)) Zi))))
 (ZM (mCB zE (Zc (Zd 0) (Zc (Zd 1) (Zc (mC (.int 1)) (Zc (ZcO Zi) Zi))))))))
def Zd4:GM:=ZO 1 2 Zhg
def ZdW:SM:=(Zr (ZA ["End"] "probes" (Zd 0) (mC (.bl false)))
 (ZM (ZfJ (zR (mCB Zag (Zc (Zd 0) Zi))) (mCB Zcp (Zc (Zd 0) (Zc (Zd 1) Zi))) (mCB Zd4 (Zc (Zd 0) Zi)))))
def ZaP:GM:=ZO 2 2 ZdW
def ZdV:SM:=(mIf (ZD (mOp eqM (Zz ["End"] "nxt" (Zd 0)) (Zz ["End"] "una" (Zd 0)))) (zn (mCB Z7 (Zc (Zd 0) (Zc (Zd 1) Zi)))) ZK)
def Zff:SM:=(Zr ZdV
 (Zr (ZA ["End"] "nxt" (Zd 0) (mCB zk (Zc (Zz ["End"] "first" (Zd 0)) (Zc (mC (.int 1)) Zi))))
 (ZM (mCB ZbO (Zc (Zd 0) Zi)))))
def Zc5:GM:=ZO 2 2 Zff
def zv:SM:=(mIf (ZD (mOp inM (Zz ["End"] "state" (Zd 0)) (ZbA (Zc (mC (.str "syn sent")) (Zc (mC (.str "syn come")) Zi))))) (ZM (ZfJ (mOr (ZD (mOp eqM (Zz ["End"] "nxt" (Zd 0)) (Zz ["End"] "first" (Zd 0)))) (zR (Zz ["End"] "owes_syn" (Zd 0)))) (mCB Zc5 (Zc (Zd 0) (Zc (Zd 1) Zi))) (mC .non))) ZK)
def Zai:SM:=(mIf (mOr (ZD (mOp leM (Zd 2) (mC (.int 0)))) (Zeb (zR (mCB ZbQ (Zc (Zd 0) Zi))))) (ZM (mC .non)) ZK)
def ZbS:SM:=(mIf (ZD (mOp eqM (Zz ["End"] "nxt" (Zd 0)) (Zz ["End"] "una" (Zd 0)))) (zn (mCB Z7 (Zc (Zd 0) (Zc (Zd 1) Zi)))) ZK)
def zO:SM:=(Zr zv
 (Zr (Z1 2 (mOp Zdc (Zz ["End"] "wnd" (Zd 0)) (mCB zF (Zc (Zz ["End"] "nxt" (Zd 0)) (Zc (Zz ["End"] "una" (Zd 0)) Zi)))))
 (Zr Zai
 (Zr ZbS
 (Zr (ZA ["End"] "owes_answer" (Zd 0) (mC (.bl false)))
 (ZM (mCB ZaP (Zc (Zd 0) (Zc (Zd 2) Zi)))))))))
def Z6:GM:=ZO 2 3 zO
def Zir:SM:=(ZM (mOp geM (mOp Zdc (Zd 1) (Zz ["End"] "since" (Zd 0))) (Zz ["End"] "wait" (Zd 0))))
def Zdg:GM:=ZO 2 2 Zir
def zg:SM:=(mIf (mOr (ZD (mOp neM (Zz ["End"] "nxt" (Zd 0)) (Zz ["End"] "una" (Zd 0)))) (mOr (ZD (mOp neM (Zz ["End"] "wnd" (Zd 0)) (mC (.int 0)))) (Zeb (zR (mCB ZbQ (Zc (Zd 0) Zi)))))) (Zr (ZA ["End"] "probes" (Zd 0) (mC (.bl false)))
  (ZM (mC .non))) ZK)
def Zat:SM:=(mIf (Zeb (zR (Zz ["End"] "probes" (Zd 0)))) (Zr (ZA ["End"] "probes" (Zd 0) (mC (.bl true)))
  (zn (mCB Z7 (Zc (Zd 0) (Zc (Zd 1) Zi))))) ZK)
def Zas:SM:=(mIf (Zeb (zR (mCB Zdg (Zc (Zd 0) (Zc (Zd 1) Zi))))) (ZM (mC .non)) ZK)
def zu:SM:=(Zr zg
 (Zr Zat
 (Zr Zas
 (Zr (ZA ["End"] "since" (Zd 0) (Zd 1))
 (ZM (mCB ZaP (Zc (Zd 0) (Zc (mC (.int 1)) Zi))))))))
def Z8:GM:=ZO 2 2 zu
def Zfd:SM:=(Zr (Z1 1 (Zz ["End"] "owed_reset" (Zd 0)))
 (Zr (ZA ["End"] "owed_reset" (Zd 0) (mC .non))
 (ZM (Zd 1))))
def ZcX:GM:=ZO 1 2 Zfd
def ZdK:SM:=(mIf (ZD (mOp ZdS (Zz ["End"] "owed_reset" (Zd 0)) (mC .non))) (ZM (mCB ZcX (Zc (Zd 0) Zi))) ZK)
def Zfj:SM:=(mIf (ZfK (ZD (mOp eqM (Zz ["End"] "state" (Zd 0)) (mC (.str "time wait")))) (ZD (mOp geM (mOp Zdc (Zd 1) (Zz ["End"] "since" (Zd 0))) (mC (.int 120000))))) (ZA ["End"] "state" (Zd 0) (mC (.str "closed"))) ZK)
def Zb4:SM:=(mIf (ZD (mOp inM (Zz ["End"] "state" (Zd 0)) (ZbA (Zc (mC (.str "closed")) (Zc (mC (.str "listen")) Zi))))) (ZM (mC .non)) ZK)
def ZcK:SM:=(mIf (ZfK (ZD (mOp neM (Zz ["End"] "nxt" (Zd 0)) (Zz ["End"] "una" (Zd 0)))) (zR (mCB Zdg (Zc (Zd 0) (Zc (Zd 1) Zi))))) (ZM (mCB Zdx (Zc (Zd 0) (Zc (Zd 1) Zi)))) ZK)
def Zb3:SM:=(mIf (ZD (mOp isM (Zd 2) (mC .non))) (Z1 2 (mCB Z8 (Zc (Zd 0) (Zc (Zd 1) Zi)))) ZK)
def Zb2:SM:=(mIf (ZD (mOp isM (Zd 2) (mC .non))) (Z1 2 (mCB zZ (Zc (Zd 0) Zi))) ZK)
def Zfu:SM:=(Zr ZdK
 (Zr Zfj
 (Zr Zb4
 (Zr ZcK
 (Zr (Z1 2 (mCB Z6 (Zc (Zd 0) (Zc (Zd 1) Zi))))
 (Zr Zb3
 (Zr Zb2
 (ZM (Zd 2)))))))))
def Zev:GM:=ZO 2 3 Zfu
def Zil:SM:=(Zr (Z1 2 (mCB Zev (Zc (Zd 0) (Zc (Zd 1) Zi))))
 (ZM (ZfJ (ZD (mOp isM (Zd 2) (mC .non))) (ZcO Zi) (mCB ZhS (Zc (Zd 2) Zi)))))
def Zet:GM:=ZO 2 3 Zil
def Zin:SM:=(ZM (mCB (mkG "End" Zcs) (Zc (Zd 0) (Zc (Zd 1) (Zc (Zd 2) (Zc (Zd 3) Zi))))))
def Ze1:GM:=ZO 4 4 Zin
inductive State where
 | closed | listen | synSent | synCome | opn | waitOne | waitTwo | closeWait | closing | lastAck | timeWait
 deriving DecidableEq
def State.s:State→Str
 | .closed=>"closed" | .listen=>"listen" | .synSent=>"syn sent" | .synCome=>"syn come" | .opn=>"open" | .waitOne=>"wait one" | .waitTwo=>"wait two" | .closeWait=>"close wait" | .closing=>"closing" | .lastAck=>"last ack" | .timeWait=>"time wait"
inductive Err where
 | none | refused | reset | time
 deriving DecidableEq
def Err.s:Err→Str
 | .none=>"" | .refused=>"refused" | .reset=>"reset" | .time=>"time"
structure Zn where
 ours:Int
 theirs:Int
 state:State
 error:Err
 first:Int
 una:Int
 nxt:Int
 rcv:Int
 wnd:Int
 told:Int
 told_by:Int
 most:Int
 written:List Int
 come:List Int
 early:List (Int×Int)
 early_fin:Option Int
 has_closed:Bool
 behind:Int
 owed_reset:Option Seg
 owes_syn:Bool
 owes_answer:Bool
 probes:Bool
 since:Int
 wait:Int
 tries:Int
def Zhw:Option Int→D
 | none=>.non
 | some i=>.int i
def Zbz:Option Seg→D
 | none=>.non
 | some s=>s.d
def fields (l:Nat) (e:Zn):List (Str×D):=[("ours",.int e.ours),("theirs",.int e.theirs),("state",.str e.state.s),("error",.str e.error.s),("first",.int e.first),("una",.int e.una),("nxt",.int e.nxt),("rcv",.int e.rcv),("wnd",.int e.wnd),("told",.int e.told),("told_by",.int e.told_by),("most",.int e.most),("written",.ref (l+1)),("come",.ref (l+2)),("early",.ref (l+3)),("early_fin",Zhw e.early_fin),("has_closed",.bl e.has_closed),("behind",.int e.behind),("owed_reset",Zbz e.owed_reset),("owes_syn",.bl e.owes_syn),("owes_answer",.bl e.owes_answer),("probes",.bl e.probes),("since",.int e.since),("wait",.int e.wait),("tries",.int e.tries)]
def c0 (l:Nat) (e:Zn):Cell:=.ins "End" (fields l e)
def c1 (e:Zn):Cell:=.ins "Pile" [("row",il e.written)]
def c2 (e:Zn):Cell:=.ins "Pile" [("row",il e.come)]
def c3 (e:Zn):Cell:=.dK (e.early.map fun p=>(Sum.inl p.1,D.int p.2))
def upE (θ:Sto) (l:Nat) (e:Zn):Sto:=(((θ.set l (c0 l e)).set (l+1) (c1 e)).set (l+2) (c2 e)).set (l+3) (c3 e)
theorem at0 {θ:Sto} {l:Nat} (h:l+3 < θ.length) (e:Zn):(upE θ l e)[l]?=some (c0 l e):=by
 unfold upE
 rw [Yc (by omega),Yc (by omega),Yc (by omega),Yg (by omega)]
theorem at1 {θ:Sto} {l:Nat} (h:l+3 < θ.length) (e:Zn):(upE θ l e)[l+1]?=some (c1 e):=by
 unfold upE
 rw [Yc (by omega),Yc (by omega),Yg (by simp; omega)]
theorem Zxk {θ:Sto} {l:Nat} (h:l+3 < θ.length) (e:Zn):(upE θ l e)[l+2]?=some (c2 e):=by
 unfold upE
 rw [Yc (by omega),Yg (by simp; omega)]
theorem Zep {θ:Sto} {l:Nat} (h:l+3 < θ.length) (e e':Zn) (h1:e'.written=e.written) (h2:e'.come=e.come) (h3:e'.early=e.early):(upE θ l e).set l (c0 l e')=upE θ l e':=by
 unfold upE
 rw [show c1 e'=c1 e by unfold c1; rw [h1],show c2 e'=c2 e by unfold c2; rw [h2],show c3 e'=c3 e by unfold c3; rw [h3]]
 apply List.ext_getElem?
 intro i
 simp only [Ji,YL]
 by_cases h3:l=i
 ·subst h3; simp
 ·simp [h3]
theorem ZaB {θ:Sto} {l:Nat} (h:l+3 < θ.length) (e:Zn):Zdk (upE θ l e) (.ref l)=some (l,("End":Str),fields l e):=by
 show (match (upE θ l e)[l]? with | some (Cell.ins C fs)=>some (l,C,fs) | _=>none)=_
 rw [at0 h]
 rfl
theorem ce:(["End"]:List Str).contains "End"=true:=by decide +kernel
theorem cp:(["Pile"]:List Str).contains "Pile"=true:=by decide +kernel
@[simp] theorem ZAC {θ:Sto} {l:Nat} (h:l+3 < θ.length) (e:Zn):fldK ["End"] "ours" (.ref l) (upE θ l e)=.ok (.int e.ours) (upE θ l e):=by
 unfold fldK
 rw [ZaB h]
 simp only [ce,if_true]
 rw [show (fields l e).lookup ("ours":Str)=some (.int e.ours) by with_unfolding_all rfl]
@[simp] theorem Zw1 {θ:Sto} {l:Nat} (h:l+3 < θ.length) (e:Zn):fldK ["End"] "theirs" (.ref l) (upE θ l e)=.ok (.int e.theirs) (upE θ l e):=by
 unfold fldK
 rw [ZaB h]
 simp only [ce,if_true]
 rw [show (fields l e).lookup ("theirs":Str)=some (.int e.theirs) by with_unfolding_all rfl]
@[simp] theorem Zmo {θ:Sto} {l:Nat} (h:l+3 < θ.length) (e:Zn):fldK ["End"] "state" (.ref l) (upE θ l e)=.ok (.str e.state.s) (upE θ l e):=by
 unfold fldK
 rw [ZaB h]
 simp only [ce,if_true]
 rw [show (fields l e).lookup ("state":Str)=some (.str e.state.s) by with_unfolding_all rfl]
@[simp] theorem ZxO {θ:Sto} {l:Nat} (h:l+3 < θ.length) (e:Zn):fldK ["End"] "first" (.ref l) (upE θ l e)=.ok (.int e.first) (upE θ l e):=by
 unfold fldK
 rw [ZaB h]
 simp only [ce,if_true]
 rw [show (fields l e).lookup ("first":Str)=some (.int e.first) by with_unfolding_all rfl]
@[simp] theorem ZBl {θ:Sto} {l:Nat} (h:l+3 < θ.length) (e:Zn):fldK ["End"] "una" (.ref l) (upE θ l e)=.ok (.int e.una) (upE θ l e):=by
 unfold fldK
 rw [ZaB h]
 simp only [ce,if_true]
 rw [show (fields l e).lookup ("una":Str)=some (.int e.una) by with_unfolding_all rfl]
@[simp] theorem ZBn {θ:Sto} {l:Nat} (h:l+3 < θ.length) (e:Zn):fldK ["End"] "nxt" (.ref l) (upE θ l e)=.ok (.int e.nxt) (upE θ l e):=by
 unfold fldK
 rw [ZaB h]
 simp only [ce,if_true]
 rw [show (fields l e).lookup ("nxt":Str)=some (.int e.nxt) by with_unfolding_all rfl]
@[simp] theorem ZBm {θ:Sto} {l:Nat} (h:l+3 < θ.length) (e:Zn):fldK ["End"] "rcv" (.ref l) (upE θ l e)=.ok (.int e.rcv) (upE θ l e):=by
 unfold fldK
 rw [ZaB h]
 simp only [ce,if_true]
 rw [show (fields l e).lookup ("rcv":Str)=some (.int e.rcv) by with_unfolding_all rfl]
@[simp] theorem ZBk {θ:Sto} {l:Nat} (h:l+3 < θ.length) (e:Zn):fldK ["End"] "wnd" (.ref l) (upE θ l e)=.ok (.int e.wnd) (upE θ l e):=by
 unfold fldK
 rw [ZaB h]
 simp only [ce,if_true]
 rw [show (fields l e).lookup ("wnd":Str)=some (.int e.wnd) by with_unfolding_all rfl]
@[simp] theorem ZAz {θ:Sto} {l:Nat} (h:l+3 < θ.length) (e:Zn):fldK ["End"] "told" (.ref l) (upE θ l e)=.ok (.int e.told) (upE θ l e):=by
 unfold fldK
 rw [ZaB h]
 simp only [ce,if_true]
 rw [show (fields l e).lookup ("told":Str)=some (.int e.told) by with_unfolding_all rfl]
@[simp] theorem ZvO {θ:Sto} {l:Nat} (h:l+3 < θ.length) (e:Zn):fldK ["End"] "told_by" (.ref l) (upE θ l e)=.ok (.int e.told_by) (upE θ l e):=by
 unfold fldK
 rw [ZaB h]
 simp only [ce,if_true]
 rw [show (fields l e).lookup ("told_by":Str)=some (.int e.told_by) by with_unfolding_all rfl]
@[simp] theorem ZAD {θ:Sto} {l:Nat} (h:l+3 < θ.length) (e:Zn):fldK ["End"] "most" (.ref l) (upE θ l e)=.ok (.int e.most) (upE θ l e):=by
 unfold fldK
 rw [ZaB h]
 simp only [ce,if_true]
 rw [show (fields l e).lookup ("most":Str)=some (.int e.most) by with_unfolding_all rfl]
@[simp] theorem ZvN {θ:Sto} {l:Nat} (h:l+3 < θ.length) (e:Zn):fldK ["End"] "written" (.ref l) (upE θ l e)=.ok (.ref (l+1)) (upE θ l e):=by
 unfold fldK
 rw [ZaB h]
 simp only [ce,if_true]
 rw [show (fields l e).lookup ("written":Str)=some (.ref (l+1)) by with_unfolding_all rfl]
@[simp] theorem ZAE {θ:Sto} {l:Nat} (h:l+3 < θ.length) (e:Zn):fldK ["End"] "come" (.ref l) (upE θ l e)=.ok (.ref (l+2)) (upE θ l e):=by
 unfold fldK
 rw [ZaB h]
 simp only [ce,if_true]
 rw [show (fields l e).lookup ("come":Str)=some (.ref (l+2)) by with_unfolding_all rfl]
@[simp] theorem ZxP {θ:Sto} {l:Nat} (h:l+3 < θ.length) (e:Zn):fldK ["End"] "early" (.ref l) (upE θ l e)=.ok (.ref (l+3)) (upE θ l e):=by
 unfold fldK
 rw [ZaB h]
 simp only [ce,if_true]
 rw [show (fields l e).lookup ("early":Str)=some (.ref (l+3)) by with_unfolding_all rfl]
@[simp] theorem ZsC {θ:Sto} {l:Nat} (h:l+3 < θ.length) (e:Zn):fldK ["End"] "early_fin" (.ref l) (upE θ l e)=.ok (Zhw e.early_fin) (upE θ l e):=by
 unfold fldK
 rw [ZaB h]
 simp only [ce,if_true]
 rw [show (fields l e).lookup ("early_fin":Str)=some (Zhw e.early_fin) by with_unfolding_all rfl]
@[simp] theorem ZrR {θ:Sto} {l:Nat} (h:l+3 < θ.length) (e:Zn):fldK ["End"] "has_closed" (.ref l) (upE θ l e)=.ok (.bl e.has_closed) (upE θ l e):=by
 unfold fldK
 rw [ZaB h]
 simp only [ce,if_true]
 rw [show (fields l e).lookup ("has_closed":Str)=some (.bl e.has_closed) by with_unfolding_all rfl]
@[simp] theorem Zw3 {θ:Sto} {l:Nat} (h:l+3 < θ.length) (e:Zn):fldK ["End"] "behind" (.ref l) (upE θ l e)=.ok (.int e.behind) (upE θ l e):=by
 unfold fldK
 rw [ZaB h]
 simp only [ce,if_true]
 rw [show (fields l e).lookup ("behind":Str)=some (.int e.behind) by with_unfolding_all rfl]
@[simp] theorem ZrQ {θ:Sto} {l:Nat} (h:l+3 < θ.length) (e:Zn):fldK ["End"] "owed_reset" (.ref l) (upE θ l e)=.ok (Zbz e.owed_reset) (upE θ l e):=by
 unfold fldK
 rw [ZaB h]
 simp only [ce,if_true]
 rw [show (fields l e).lookup ("owed_reset":Str)=some (Zbz e.owed_reset) by with_unfolding_all rfl]
@[simp] theorem Zvf {θ:Sto} {l:Nat} (h:l+3 < θ.length) (e:Zn):fldK ["End"] "owes_syn" (.ref l) (upE θ l e)=.ok (.bl e.owes_syn) (upE θ l e):=by
 unfold fldK
 rw [ZaB h]
 simp only [ce,if_true]
 rw [show (fields l e).lookup ("owes_syn":Str)=some (.bl e.owes_syn) by with_unfolding_all rfl]
@[simp] theorem ZpD {θ:Sto} {l:Nat} (h:l+3 < θ.length) (e:Zn):fldK ["End"] "owes_answer" (.ref l) (upE θ l e)=.ok (.bl e.owes_answer) (upE θ l e):=by
 unfold fldK
 rw [ZaB h]
 simp only [ce,if_true]
 rw [show (fields l e).lookup ("owes_answer":Str)=some (.bl e.owes_answer) by with_unfolding_all rfl]
@[simp] theorem Zw2 {θ:Sto} {l:Nat} (h:l+3 < θ.length) (e:Zn):fldK ["End"] "probes" (.ref l) (upE θ l e)=.ok (.bl e.probes) (upE θ l e):=by
 unfold fldK
 rw [ZaB h]
 simp only [ce,if_true]
 rw [show (fields l e).lookup ("probes":Str)=some (.bl e.probes) by with_unfolding_all rfl]
@[simp] theorem ZxN {θ:Sto} {l:Nat} (h:l+3 < θ.length) (e:Zn):fldK ["End"] "since" (.ref l) (upE θ l e)=.ok (.int e.since) (upE θ l e):=by
 unfold fldK
 rw [ZaB h]
 simp only [ce,if_true]
 rw [show (fields l e).lookup ("since":Str)=some (.int e.since) by with_unfolding_all rfl]
@[simp] theorem ZAy {θ:Sto} {l:Nat} (h:l+3 < θ.length) (e:Zn):fldK ["End"] "wait" (.ref l) (upE θ l e)=.ok (.int e.wait) (upE θ l e):=by
 unfold fldK
 rw [ZaB h]
 simp only [ce,if_true]
 rw [show (fields l e).lookup ("wait":Str)=some (.int e.wait) by with_unfolding_all rfl]
@[simp] theorem ZxM {θ:Sto} {l:Nat} (h:l+3 < θ.length) (e:Zn):fldK ["End"] "tries" (.ref l) (upE θ l e)=.ok (.int e.tries) (upE θ l e):=by
 unfold fldK
 rw [ZaB h]
 simp only [ce,if_true]
 rw [show (fields l e).lookup ("tries":Str)=some (.int e.tries) by with_unfolding_all rfl]
@[simp] theorem Zwk {θ:Sto} {l:Nat} (h:l+3 < θ.length) (e:Zn) (v:Int):setK ["End"] "theirs" (.int v) (.ref l) (upE θ l e)=some (upE θ l { e with theirs:=v }):=by
 unfold setK
 rw [ZaB h]
 simp only [ce]
 rw [if_pos ⟨trivial,show 25<1000 by decide⟩,show ZaE ("theirs":Str) (.int v) (fields l e)=fields l { e with theirs:=v } by with_unfolding_all rfl]
 exact congrArg some (Zep h e { e with theirs:=v } rfl rfl rfl)
@[simp] theorem ZxE {θ:Sto} {l:Nat} (h:l+3 < θ.length) (e:Zn) (v:State):setK ["End"] "state" (.str v.s) (.ref l) (upE θ l e)=some (upE θ l { e with state:=v }):=by
 unfold setK
 rw [ZaB h]
 simp only [ce]
 rw [if_pos ⟨trivial,show 25<1000 by decide⟩,show ZaE ("state":Str) (.str v.s) (fields l e)=fields l { e with state:=v } by with_unfolding_all rfl]
 exact congrArg some (Zep h e { e with state:=v } rfl rfl rfl)
@[simp] theorem ZxG {θ:Sto} {l:Nat} (h:l+3 < θ.length) (e:Zn) (v:Err):setK ["End"] "error" (.str v.s) (.ref l) (upE θ l e)=some (upE θ l { e with error:=v }):=by
 unfold setK
 rw [ZaB h]
 simp only [ce]
 rw [if_pos ⟨trivial,show 25<1000 by decide⟩,show ZaE ("error":Str) (.str v.s) (fields l e)=fields l { e with error:=v } by with_unfolding_all rfl]
 exact congrArg some (Zep h e { e with error:=v } rfl rfl rfl)
@[simp] theorem ZBd {θ:Sto} {l:Nat} (h:l+3 < θ.length) (e:Zn) (v:Int):setK ["End"] "una" (.int v) (.ref l) (upE θ l e)=some (upE θ l { e with una:=v }):=by
 unfold setK
 rw [ZaB h]
 simp only [ce]
 rw [if_pos ⟨trivial,show 25<1000 by decide⟩,show ZaE ("una":Str) (.int v) (fields l e)=fields l { e with una:=v } by with_unfolding_all rfl]
 exact congrArg some (Zep h e { e with una:=v } rfl rfl rfl)
@[simp] theorem ZBf {θ:Sto} {l:Nat} (h:l+3 < θ.length) (e:Zn) (v:Int):setK ["End"] "nxt" (.int v) (.ref l) (upE θ l e)=some (upE θ l { e with nxt:=v }):=by
 unfold setK
 rw [ZaB h]
 simp only [ce]
 rw [if_pos ⟨trivial,show 25<1000 by decide⟩,show ZaE ("nxt":Str) (.int v) (fields l e)=fields l { e with nxt:=v } by with_unfolding_all rfl]
 exact congrArg some (Zep h e { e with nxt:=v } rfl rfl rfl)
@[simp] theorem ZBe {θ:Sto} {l:Nat} (h:l+3 < θ.length) (e:Zn) (v:Int):setK ["End"] "rcv" (.int v) (.ref l) (upE θ l e)=some (upE θ l { e with rcv:=v }):=by
 unfold setK
 rw [ZaB h]
 simp only [ce]
 rw [if_pos ⟨trivial,show 25<1000 by decide⟩,show ZaE ("rcv":Str) (.int v) (fields l e)=fields l { e with rcv:=v } by with_unfolding_all rfl]
 exact congrArg some (Zep h e { e with rcv:=v } rfl rfl rfl)
@[simp] theorem ZBc {θ:Sto} {l:Nat} (h:l+3 < θ.length) (e:Zn) (v:Int):setK ["End"] "wnd" (.int v) (.ref l) (upE θ l e)=some (upE θ l { e with wnd:=v }):=by
 unfold setK
 rw [ZaB h]
 simp only [ce]
 rw [if_pos ⟨trivial,show 25<1000 by decide⟩,show ZaE ("wnd":Str) (.int v) (fields l e)=fields l { e with wnd:=v } by with_unfolding_all rfl]
 exact congrArg some (Zep h e { e with wnd:=v } rfl rfl rfl)
@[simp] theorem Zz9 {θ:Sto} {l:Nat} (h:l+3 < θ.length) (e:Zn) (v:Int):setK ["End"] "told" (.int v) (.ref l) (upE θ l e)=some (upE θ l { e with told:=v }):=by
 unfold setK
 rw [ZaB h]
 simp only [ce]
 rw [if_pos ⟨trivial,show 25<1000 by decide⟩,show ZaE ("told":Str) (.int v) (fields l e)=fields l { e with told:=v } by with_unfolding_all rfl]
 exact congrArg some (Zep h e { e with told:=v } rfl rfl rfl)
@[simp] theorem ZvF {θ:Sto} {l:Nat} (h:l+3 < θ.length) (e:Zn) (v:Int):setK ["End"] "told_by" (.int v) (.ref l) (upE θ l e)=some (upE θ l { e with told_by:=v }):=by
 unfold setK
 rw [ZaB h]
 simp only [ce]
 rw [if_pos ⟨trivial,show 25<1000 by decide⟩,show ZaE ("told_by":Str) (.int v) (fields l e)=fields l { e with told_by:=v } by with_unfolding_all rfl]
 exact congrArg some (Zep h e { e with told_by:=v } rfl rfl rfl)
@[simp] theorem ZAc {θ:Sto} {l:Nat} (h:l+3 < θ.length) (e:Zn) (v:Int):setK ["End"] "most" (.int v) (.ref l) (upE θ l e)=some (upE θ l { e with most:=v }):=by
 unfold setK
 rw [ZaB h]
 simp only [ce]
 rw [if_pos ⟨trivial,show 25<1000 by decide⟩,show ZaE ("most":Str) (.int v) (fields l e)=fields l { e with most:=v } by with_unfolding_all rfl]
 exact congrArg some (Zep h e { e with most:=v } rfl rfl rfl)
@[simp] theorem Zkg {θ:Sto} {l:Nat} (h:l+3 < θ.length) (e:Zn) (v:Option Int):setK ["End"] "early_fin" (Zhw v) (.ref l) (upE θ l e)=some (upE θ l { e with early_fin:=v }):=by
 unfold setK
 rw [ZaB h]
 simp only [ce]
 rw [if_pos ⟨trivial,show 25<1000 by decide⟩,show ZaE ("early_fin":Str) (Zhw v) (fields l e)=fields l { e with early_fin:=v } by with_unfolding_all rfl]
 exact congrArg some (Zep h e { e with early_fin:=v } rfl rfl rfl)
@[simp] theorem Zwm {θ:Sto} {l:Nat} (h:l+3 < θ.length) (e:Zn) (v:Int):setK ["End"] "behind" (.int v) (.ref l) (upE θ l e)=some (upE θ l { e with behind:=v }):=by
 unfold setK
 rw [ZaB h]
 simp only [ce]
 rw [if_pos ⟨trivial,show 25<1000 by decide⟩,show ZaE ("behind":Str) (.int v) (fields l e)=fields l { e with behind:=v } by with_unfolding_all rfl]
 exact congrArg some (Zep h e { e with behind:=v } rfl rfl rfl)
@[simp] theorem Zf6 {θ:Sto} {l:Nat} (h:l+3 < θ.length) (e:Zn) (v:Option Seg):setK ["End"] "owed_reset" (Zbz v) (.ref l) (upE θ l e)=some (upE θ l { e with owed_reset:=v }):=by
 unfold setK
 rw [ZaB h]
 simp only [ce]
 rw [if_pos ⟨trivial,show 25<1000 by decide⟩,show ZaE ("owed_reset":Str) (Zbz v) (fields l e)=fields l { e with owed_reset:=v } by with_unfolding_all rfl]
 exact congrArg some (Zep h e { e with owed_reset:=v } rfl rfl rfl)
@[simp] theorem Zur {θ:Sto} {l:Nat} (h:l+3 < θ.length) (e:Zn) (v:Bool):setK ["End"] "owes_syn" (.bl v) (.ref l) (upE θ l e)=some (upE θ l { e with owes_syn:=v }):=by
 unfold setK
 rw [ZaB h]
 simp only [ce]
 rw [if_pos ⟨trivial,show 25<1000 by decide⟩,show ZaE ("owes_syn":Str) (.bl v) (fields l e)=fields l { e with owes_syn:=v } by with_unfolding_all rfl]
 exact congrArg some (Zep h e { e with owes_syn:=v } rfl rfl rfl)
@[simp] theorem ZpC {θ:Sto} {l:Nat} (h:l+3 < θ.length) (e:Zn) (v:Bool):setK ["End"] "owes_answer" (.bl v) (.ref l) (upE θ l e)=some (upE θ l { e with owes_answer:=v }):=by
 unfold setK
 rw [ZaB h]
 simp only [ce]
 rw [if_pos ⟨trivial,show 25<1000 by decide⟩,show ZaE ("owes_answer":Str) (.bl v) (fields l e)=fields l { e with owes_answer:=v } by with_unfolding_all rfl]
 exact congrArg some (Zep h e { e with owes_answer:=v } rfl rfl rfl)
@[simp] theorem Zwl {θ:Sto} {l:Nat} (h:l+3 < θ.length) (e:Zn) (v:Bool):setK ["End"] "probes" (.bl v) (.ref l) (upE θ l e)=some (upE θ l { e with probes:=v }):=by
 unfold setK
 rw [ZaB h]
 simp only [ce]
 rw [if_pos ⟨trivial,show 25<1000 by decide⟩,show ZaE ("probes":Str) (.bl v) (fields l e)=fields l { e with probes:=v } by with_unfolding_all rfl]
 exact congrArg some (Zep h e { e with probes:=v } rfl rfl rfl)
@[simp] theorem ZxF {θ:Sto} {l:Nat} (h:l+3 < θ.length) (e:Zn) (v:Int):setK ["End"] "since" (.int v) (.ref l) (upE θ l e)=some (upE θ l { e with since:=v }):=by
 unfold setK
 rw [ZaB h]
 simp only [ce]
 rw [if_pos ⟨trivial,show 25<1000 by decide⟩,show ZaE ("since":Str) (.int v) (fields l e)=fields l { e with since:=v } by with_unfolding_all rfl]
 exact congrArg some (Zep h e { e with since:=v } rfl rfl rfl)
@[simp] theorem Zz8 {θ:Sto} {l:Nat} (h:l+3 < θ.length) (e:Zn) (v:Int):setK ["End"] "wait" (.int v) (.ref l) (upE θ l e)=some (upE θ l { e with wait:=v }):=by
 unfold setK
 rw [ZaB h]
 simp only [ce]
 rw [if_pos ⟨trivial,show 25<1000 by decide⟩,show ZaE ("wait":Str) (.int v) (fields l e)=fields l { e with wait:=v } by with_unfolding_all rfl]
 exact congrArg some (Zep h e { e with wait:=v } rfl rfl rfl)
@[simp] theorem ZxD {θ:Sto} {l:Nat} (h:l+3 < θ.length) (e:Zn) (v:Int):setK ["End"] "tries" (.int v) (.ref l) (upE θ l e)=some (upE θ l { e with tries:=v }):=by
 unfold setK
 rw [ZaB h]
 simp only [ce]
 rw [if_pos ⟨trivial,show 25<1000 by decide⟩,show ZaE ("tries":Str) (.int v) (fields l e)=fields l { e with tries:=v } by with_unfolding_all rfl]
 exact congrArg some (Zep h e { e with tries:=v } rfl rfl rfl)
section
variable {θ:Sto} {l:Nat}
@[simp] theorem ZAA (h:l+3 < θ.length) (e:Zn):fldK ["Pile"] "row" (.ref (l+1)) (upE θ l e)=.ok (il e.written) (upE θ l e):=by
 have:Zdk (upE θ l e) (.ref (l+1))=some (l+1,("Pile":Str),[(("row":Str),il e.written)]):=by
  show (match (upE θ l e)[l+1]? with | some (Cell.ins C fs)=>some (l+1,C,fs) | _=>none)=_
  rw [at1 h]
  rfl
 unfold fldK
 rw [this]
 simp only [cp,if_true]
 rw [show ([("row",il e.written)]:List (Str×D)).lookup ("row":Str)=some (il e.written) by with_unfolding_all rfl]
@[simp] theorem ZAB (h:l+3 < θ.length) (e:Zn):fldK ["Pile"] "row" (.ref (l+2)) (upE θ l e)=.ok (il e.come) (upE θ l e):=by
 have:Zdk (upE θ l e) (.ref (l+2))=some (l+2,("Pile":Str),[(("row":Str),il e.come)]):=by
  show (match (upE θ l e)[l+2]? with | some (Cell.ins C fs)=>some (l+2,C,fs) | _=>none)=_
  rw [Zxk h]
  rfl
 unfold fldK
 rw [this]
 simp only [cp,if_true]
 rw [show ([("row",il e.come)]:List (Str×D)).lookup ("row":Str)=some (il e.come) by with_unfolding_all rfl]
@[simp] theorem ZAa (h:l+3 < θ.length) (e:Zn) (r:List Int):setK ["Pile"] "row" (il r) (.ref (l+1)) (upE θ l e)=some (upE θ l { e with written:=r }):=by
 have:Zdk (upE θ l e) (.ref (l+1))=some (l+1,("Pile":Str),[(("row":Str),il e.written)]):=by
  show (match (upE θ l e)[l+1]? with | some (Cell.ins C fs)=>some (l+1,C,fs) | _=>none)=_
  rw [at1 h]
  rfl
 unfold setK
 rw [this]
 simp only [cp]
 rw [if_pos ⟨trivial,show 1<1000 by decide⟩,show ZaE ("row":Str) (il r) [("row",il e.written)]=[(("row":Str),il r)] by with_unfolding_all rfl]
 congr 1
 unfold upE
 apply List.ext_getElem?
 intro i
 simp only [Ji,YL]
 by_cases q:l+1=i
 ·subst q; simp [c1]
 ·simp [q,c0,c2,c3,fields]
@[simp] theorem ZAb (h:l+3 < θ.length) (e:Zn) (r:List Int):setK ["Pile"] "row" (il r) (.ref (l+2)) (upE θ l e)=some (upE θ l { e with come:=r }):=by
 have:Zdk (upE θ l e) (.ref (l+2))=some (l+2,("Pile":Str),[(("row":Str),il e.come)]):=by
  show (match (upE θ l e)[l+2]? with | some (Cell.ins C fs)=>some (l+2,C,fs) | _=>none)=_
  rw [Zxk h]
  rfl
 unfold setK
 rw [this]
 simp only [cp]
 rw [if_pos ⟨trivial,show 1<1000 by decide⟩,show ZaE ("row":Str) (il r) [("row",il e.come)]=[(("row":Str),il r)] by with_unfolding_all rfl]
 congr 1
 unfold upE
 apply List.ext_getElem?
 intro i
 simp only [Ji,YL]
 by_cases q:l+2=i
 ·subst q; simp [c2]
 ·simp [q,c0,c1,c3,fields]
end
@[simp] theorem Zv1:("closed":Str)=State.closed.s:=nr rfl
@[simp] theorem Zv0:("listen":Str)=State.listen.s:=nr rfl
@[simp] theorem Zvx:("syn sent":Str)=State.synSent.s:=nr rfl
@[simp] theorem Zvy:("syn come":Str)=State.synCome.s:=nr rfl
@[simp] theorem ZzQ:("open":Str)=State.opn.s:=nr rfl
@[simp] theorem Zvw:("wait one":Str)=State.waitOne.s:=nr rfl
@[simp] theorem Zvv:("wait two":Str)=State.waitTwo.s:=nr rfl
@[simp] theorem Zsd:("close wait":Str)=State.closeWait.s:=nr rfl
@[simp] theorem ZvB:("closing":Str)=State.closing.s:=nr rfl
@[simp] theorem ZvA:("last ack":Str)=State.lastAck.s:=nr rfl
@[simp] theorem ZtZ:("time wait":Str)=State.timeWait.s:=nr rfl
@[simp] theorem ZzR:("":Str)=Err.none.s:=nr rfl
@[simp] theorem Zvz:("refused":Str)=Err.refused.s:=nr rfl
@[simp] theorem Zxy:("reset":Str)=Err.reset.s:=nr rfl
@[simp] theorem ZzP:("time":Str)=Err.time.s:=nr rfl
theorem State.inj:∀a b:State,a.s=b.s↔a=b:=by
 intro a b
 constructor
 ·intro h
  cases a<;>cases b<;>first | rfl | (exact absurd h (by decide +kernel))
 ·intro h; rw [h]
theorem ZuD (k:Nat) (x:Str):pl k (.str x)=PyData.strOk x:=by cases k<;>simp [pl]
theorem State.ok (a:State) (k:Nat):pl k (.str a.s)=true:=by
 rw [ZuD]
 cases a<;>decide +kernel
section
variable {θ:Sto}
@[simp] theorem Zxb (a b:State):eqM (.str a.s) (.str b.s) θ=.ok (.bl (decide (a=b))) θ:=by
 rw [Zls (x:=.str a.s) (y:=.str b.s) (ZfO (State.ok a 9) (State.ok b 9) rfl rfl)]
 simp [State.inj]
@[simp] theorem ZoF (a b:State):neM (.str a.s) (.str b.s) θ=.ok (.bl (!decide (a=b))) θ:=by
 rw [Zjw (x:=.str a.s) (y:=.str b.s) (ZfO (State.ok a 9) (State.ok b 9) rfl rfl)]
 simp [State.inj]
theorem ZfI (a:State):∀bs:List State,Zix (bs.map fun b=>D.str b.s)=true∧memS a.s (bs.map fun b=>D.str b.s)=decide (a∈bs)
 | []=>⟨rfl,by simp [memS]⟩
 | b::bs=>by
  obtain ⟨h1,h2⟩:=ZfI a bs
  refine ⟨h1,?_⟩
  rw [Yf]
  show (decide (b.s=a.s) || memS a.s (bs.map fun b=>D.str b.s))=_
  rw [h2,Jd]
  simp only [YW,decide_eq_true_eq,Yr,State.inj]
  constructor
  ·rintro (h | h)
   ·exact .inl h.symm
   ·exact .inr h
  ·rintro (h | h)
   ·exact .inl h.symm
   ·exact .inr h
theorem ZgZ (a:State) (bs:List State):inM (.str a.s) (.tup (bs.map fun b=>.str b.s)) θ=.ok (.bl (decide (a∈bs))) θ:=by
 obtain ⟨h1,h2⟩:=ZfI a bs
 have e:inD θ (.str a.s) (.tup (bs.map fun b=>D.str b.s))=some (decide (a∈bs)):=by
  unfold inD
  simp only [Zg6]
  rw [if_pos h1,h2]
 unfold inM
 rw [e]
theorem Zgg (a:State) (bs:List State):ZdQ (.str a.s) (.tup (bs.map fun b=>.str b.s)) θ=.ok (.bl (!decide (a∈bs))) θ:=by
 obtain ⟨h1,h2⟩:=ZfI a bs
 have e:inD θ (.str a.s) (.tup (bs.map fun b=>D.str b.s))=some (decide (a∈bs)):=by
  unfold inD
  simp only [Zg6]
  rw [if_pos h1,h2]
 unfold ZdQ
 rw [e]
@[simp] theorem ZBi (a b c:State):inM (.str a.s) (.tup [.str b.s,.str c.s]) θ=.ok (.bl (decide (a∈[b,c]))) θ:=ZgZ a [b,c]
@[simp] theorem ZBh (a b c d:State):inM (.str a.s) (.tup [.str b.s,.str c.s,.str d.s]) θ=.ok (.bl (decide (a∈[b,c,d]))) θ:=ZgZ a [b,c,d]
@[simp] theorem ZBg (a b c d e f:State):inM (.str a.s) (.tup [.str b.s,.str c.s,.str d.s,.str e.s,.str f.s]) θ=.ok (.bl (decide (a∈[b,c,d,e,f]))) θ:=ZgZ a [b,c,d,e,f]
@[simp] theorem ZwL (a b c d:State):ZdQ (.str a.s) (.tup [.str b.s,.str c.s,.str d.s]) θ=.ok (.bl (!decide (a∈[b,c,d]))) θ:=Zgg a [b,c,d]
@[simp] theorem ZwK (a b c d e:State):ZdQ (.str a.s) (.tup [.str b.s,.str c.s,.str d.s,.str e.s]) θ=.ok (.bl (!decide (a∈[b,c,d,e]))) θ:=Zgg a [b,c,d,e]
end
def Zs (n k:Int):Int:=(n+k) % 4294967296
def ZL (n b:Int):Int:=(n-b+2147483648) % 4294967296-2147483648
def zj (e:Zn) (now:Int):Zn:={ e with since:=now,wait:=1000,tries:=0 }
def ZN (e:Zn):Int:=64-(e.come.length:Int)
def zH (e:Zn):Int:=if 16<e.most then 16 else e.most
def Zdj (e:Zn) (now:Int):Bool:=decide (e.wait≤now-e.since)
def ZbW (e:Zn) (n f:Int) (data:List Int):Seg:=⟨e.ours,e.theirs,n,e.rcv,f+16,ZN e,0,data⟩
def Zbr (e:Zn):Seg:=if e.state=.synSent then ⟨e.ours,e.theirs,e.first,0,2,64,16,[]⟩ else ⟨e.ours,e.theirs,e.first,e.rcv,18,64,16,[]⟩
def mn (i j:Int):Int:=if j<i then j else i
def ZaN (e:Zn):List Int:=Zbh e.written none (some (mn (ZL e.nxt e.una) (zH e)))
def again (e:Zn) (now:Int):Option Seg×Zn:=
 if e.tries=6 then (none,{ e with state:=.closed,error:=.time })
 else
  let e1:={ e with tries:=e.tries+1,wait:=mn (2*e.wait) 16000,since:=now }
  if e.state=.synSent∨e.state=.synCome then (some (Zbr e1),{ e1 with owes_syn:=false })
  else (some (ZbW e1 e.una (if 0<(ZaN e).length then 0 else 1) (ZaN e)),e1)
def Zcl (e:Zn):Int:=ZL e.behind e.nxt
def ZaC (e:Zn):Bool:=decide (e.state∈[State.opn,.waitOne,.closeWait,.closing,.lastAck]) && decide (0<Zcl e)
def hasNewFin (e:Zn):Bool:=decide (e.state∈[State.waitOne,.closing,.lastAck]) && decide (Zcl e=0)
def ZdC (e:Zn):Bool:=ZaC e || hasNewFin e
section
variable {θ:Sto} {l:Nat} {e:Zn} {now n k:Int}
@[simp] theorem ZzS:zk [.int n,.int k] θ=.ok (.int (Zs n k)) θ:=by simp [zk,ZkP,Zs]
@[simp] theorem Zv5:zF [.int n,.int k] θ=.ok (.int (ZL n k)) θ:=by simp [zF,Zio,ZL]
@[simp] theorem Zpx (h:l+3 < θ.length):Z7 [.ref l,.int now] (upE θ l e)=.ok .non (upE θ l (zj e now)):=by
 simp [Z7,ZeT,h,zj]
@[simp] theorem ZqW (h:l+3 < θ.length):Zes [.ref l] (upE θ l e)=.ok (.str e.state.s) (upE θ l e):=by
 simp [Zes,Zjg,h]
@[simp] theorem ZxA (h:l+3 < θ.length):Zeu [.ref (l+2)] (upE θ l e)=.ok (.int (ZN e)) (upE θ l e):=by
 simp [Zeu,Zim,h,ZN]
@[simp] theorem ZqY (h:l+3 < θ.length):zP [.ref l] (upE θ l e)=.ok (.int (ZN e)) (upE θ l e):=by
 simp [zP,Zfe,h]
@[simp] theorem ZnO (h:l+3 < θ.length):Zae [.ref l] (upE θ l e)=.ok (.int (zH e)) (upE θ l e):=by
 simp [Zae,Zed,h,zH]
@[simp] theorem Zv7 (h:l+3 < θ.length):Zdg [.ref l,.int now] (upE θ l e)=.ok (.bl (Zdj e now)) (upE θ l e):=by
 simp [Zdg,Zir,h,Zdj]
theorem Zwj (a b c d f g i:Int) (x:List Int):D.tup [.int a,.int b,.int c,.int d,.int f,.int g,.int i,itp x]=(Seg.mk a b c d f g i x).d:=rfl
theorem Zk3 (a b c d f g i:Int):D.tup [.int a,.int b,.int c,.int d,.int f,.int g,.int i,.tup []]=(Seg.mk a b c d f g i []).d:=rfl
@[simp] theorem Zt5 (h:l+3 < θ.length):ZbO [.ref l] (upE θ l e)=.ok (Zbr e).d (upE θ l { e with owes_syn:=false }):=by
 by_cases c:e.state=.synSent<;>simp [ZbO,Zgw,Zfc,h,Zbr,c,Zk3]
@[simp] theorem ZqX {f:Int} {data:List Int} (h:l+3 < θ.length):zE [.ref l,.int n,.int f,il data] (upE θ l e)=.ok (ZbW e n f data).d (upE θ l e):=by
 simp [zE,Zfa,h,ZbW,Zwj]
theorem Zq5 (h:l+3 < θ.length):Zdx [.ref l,.int now] (upE θ l e)=.ok (Zbz (again e now).1) (upE θ l (again e now).2):=by
 by_cases c:e.tries=6
 ·simp [Zdx,Zei,ZcL,h,again,c,Zbz]
 ·by_cases c2:e.state=.synSent∨e.state=.synCome
  ·simp [Zdx,Zei,ZcL,ZdN,h,again,c,c2,Zbz,ZgD,mn]
  ·have am:∀e':Zn,e'.most=e.most→zH e'=zH e:=fun e' h=>by unfold zH; rw [h]
   have ad:ZaN e=Zbh e.written none (some (mn (ZL e.nxt e.una) (zH e))):=rfl
   have sl:∀e':Zn,e'.written=e.written→ZgJ (upE θ l e') (il e'.written) none (some (if zH e<ZL e.nxt e.una then zH e else ZL e.nxt e.una))=some (il (ZaN e)):=fun e' h'=>by
    rw [ZoR,h']; rfl
   unfold again
   rw [if_neg c,if_neg c2]
   have c2':¬(e.state=State.synSent∨e.state=State.synCome):=c2
   by_cases c3:0<(ZaN e).length
   ·rw [if_pos c3]
    have c3':(0:Int)<(ZaN e).length:=by omega
    simp [Zdx,Zei,ZcL,ZdN,h,c,c2',ZgD,mn,am,sl,c3,c3',Zbz,-ZoR,ZbW,ZN]
   ·rw [if_neg c3]
    have c3':¬(0:Int)<(ZaN e).length:=by omega
    simp [Zdx,Zei,ZcL,ZdN,h,c,c2',ZgD,mn,am,sl,c3,c3',Zbz,-ZoR,ZbW,ZN]
@[simp] theorem Zv3 (h:l+3 < θ.length):ZbF [.ref l] (upE θ l e)=.ok (.int (Zcl e)) (upE θ l e):=by
 simp [ZbF,Zii,h,Zcl]
@[simp] theorem ZnQ (h:l+3 < θ.length):Zag [.ref l] (upE θ l e)=.ok (.bl (ZaC e)) (upE θ l e):=by
 simp [Zag,Zeg,h,ZaC]
@[simp] theorem Zpz (h:l+3 < θ.length):ZbG [.ref l] (upE θ l e)=.ok (.bl (hasNewFin e)) (upE θ l e):=by
 simp [ZbG,ZeU,h,hasNewFin]
@[simp] theorem Zue (h:l+3 < θ.length):ZbQ [.ref l] (upE θ l e)=.ok (.bl (ZdC e)) (upE θ l e):=by
 simp [ZbQ,Zgz,h,ZdC]
end
def mn3 (i j k:Int):Int:=if j<i then (if k<j then k else j) else (if k<i then k else i)
def Zfo (e:Zn) (room:Int):Int:=mn3 (zH e) (Zcl e) room
def Zex (e:Zn) (room:Int):Seg×Zn:=
 let e1:={ e with nxt:=Zs e.nxt (Zfo e room) }
 (ZbW e1 e.nxt (if Zcl e1=0 then 8 else 0) (Zbh e.written (some (ZL e.nxt e.una)) (some (ZL e.nxt e.una+Zfo e room))),e1)
def Zjv (e:Zn):Seg×Zn:=(ZbW e e.nxt 1 [],{ e with nxt:=Zs e.nxt 1 })
def Zbn (e:Zn) (room:Int):Seg×Zn:=if ZaC e=true then Zex { e with probes:=false } room else Zjv { e with probes:=false }
def ZdR (e:Zn) (now:Int):Seg×Zn:=
 let e1:=if e.nxt=e.una then zj e now else e
 (Zbr { e1 with nxt:=Zs e.first 1 },{ e1 with nxt:=Zs e.first 1,owes_syn:=false })
def zc (e:Zn) (now:Int):Option Seg×Zn:=
 if e.state=.synSent∨e.state=.synCome then
  if e.nxt=e.first∨e.owes_syn=true then (some (ZdR e now).1,(ZdR e now).2) else (none,e)
 else
  if e.wnd-ZL e.nxt e.una≤0∨ZdC e=false then (none,e)
  else
   let e1:=if e.nxt=e.una then zj e now else e
   (some (Zbn { e1 with owes_answer:=false } (e.wnd-ZL e.nxt e.una)).1,(Zbn { e1 with owes_answer:=false } (e.wnd-ZL e.nxt e.una)).2)
def ze (e:Zn) (now:Int):Option Seg×Zn:=
 if ¬e.nxt=e.una∨¬e.wnd=0∨ZdC e=false then (none,{ e with probes:=false })
 else
  let e1:=if e.probes=true then e else zj { e with probes:=true } now
  if Zdj e1 now=true then (some (Zbn { e1 with since:=now } 1).1,(Zbn { e1 with since:=now } 1).2) else (none,e1)
def zD (e:Zn):Option Seg×Zn:=if e.owes_answer=true then (some (ZbW e e.nxt 0 []),{ e with owes_answer:=false }) else (none,e)
def Zao (e:Zn) (now:Int):Option Seg×Zn:=
 match zc e now with
 | (some s,e1)=>(some s,e1)
 | (none,e1)=>match ze e1 now with
  | (some s,e2)=>(some s,e2)
  | (none,e2)=>zD e2
def zV (e:Zn) (now:Int):Option Seg×Zn:=
 match e.owed_reset with
 | some s=>(some s,{ e with owed_reset:=none })
 | none=>
  let e1:=if e.state=.timeWait∧120000≤now-e.since then { e with state:=.closed } else e
  if e1.state=.closed∨e1.state=.listen then (none,e1)
  else if ¬e1.nxt=e1.una∧Zdj e1 now=true then again e1 now
  else Zao e1 now
section
variable {θ:Sto} {l:Nat} {e:Zn} {now n k:Int}
@[simp] theorem Zt6 {r:Int} (h:l+3 < θ.length):Zcp [.ref l,.int r] (upE θ l e)=.ok (Zex e r).1.d (upE θ l (Zex e r).2):=by
 have em:(if Zcl e<zH e then (if r<Zcl e then r else Zcl e) else (if r<zH e then r else zH e))=Zfo e r:=rfl
 by_cases c:Zcl { e with nxt:=Zs e.nxt (Zfo e r) }=0
 ·simp [Zcp,ZeG,h,em]
  simp [Zex,c,ZbW,ZN,h]
 ·simp [Zcp,ZeG,h,em]
  simp [Zex,c,ZbW,ZN,h]
@[simp] theorem ZvD (h:l+3 < θ.length):Zd4 [.ref l] (upE θ l e)=.ok (Zjv e).1.d (upE θ l (Zjv e).2):=by
 simp [Zd4,Zhg,h,Zjv,ZbW,ZN,ZcR]
@[simp] theorem Zsi {r:Int} (h:l+3 < θ.length):ZaP [.ref l,.int r] (upE θ l e)=.ok (Zbn e r).1.d (upE θ l (Zbn e r).2):=by
 have hp:ZaC { e with probes:=false }=ZaC e:=rfl
 by_cases c:ZaC e=true
 ·simp [ZaP,ZdW,h,Zbn,c,hp]
 ·simp [ZaP,ZdW,h,Zbn,c,hp]
@[simp] theorem ZvC (h:l+3 < θ.length):Zc5 [.ref l,.int now] (upE θ l e)=.ok (ZdR e now).1.d (upE θ l (ZdR e now).2):=by
 by_cases c:e.nxt=e.una
 ·simp [Zc5,Zff,ZdV,h,ZdR,c,zj]
 ·simp [Zc5,Zff,ZdV,h,ZdR,c]
theorem Zdb (h:l+3 < θ.length):Z6 [.ref l,.int now] (upE θ l e)=.ok (Zbz (zc e now).1) (upE θ l (zc e now).2):=by
 by_cases c1:e.state=.synSent∨e.state=.synCome
 ·by_cases c2:e.nxt=e.first∨e.owes_syn=true
  ·simp [Z6,zO,zv,h,zc,c1,c2,Zbz]
  ·simp [Z6,zO,zv,h,zc,c1,c2,Zbz]
 ·by_cases c3:e.wnd-ZL e.nxt e.una≤0
  ·simp [Z6,zO,zv,Zai,h,zc,c1,c3,Zbz]
  ·by_cases c4:ZdC e=true
   ·by_cases c5:e.nxt=e.una
    ·have c3':=c3
     rw [c5] at c3'
     simp [Z6,zO,zv,Zai,ZbS,h,zc,c1,c3',c4,c5,Zbz,zj]
    ·simp [Z6,zO,zv,Zai,ZbS,h,zc,c1,c3,c4,c5,Zbz]
   ·simp [Z6,zO,zv,Zai,h,zc,c1,c3,c4,Zbz]
theorem ZdZ (h:l+3 < θ.length):Z8 [.ref l,.int now] (upE θ l e)=.ok (Zbz (ze e now).1) (upE θ l (ze e now).2):=by
 by_cases c1:e.nxt=e.una
 ·by_cases c2:e.wnd=0
  ·by_cases c3:ZdC e=true
   ·by_cases c4:e.probes=true
    ·by_cases c5:Zdj e now=true
     ·simp [Z8,zu,zg,Zat,Zas,h,ze,c1,c2,c3,c4,c5,Zbz]
     ·simp [Z8,zu,zg,Zat,Zas,h,ze,c1,c2,c3,c4,c5,Zbz]
    ·have c5:Zdj (zj { e with probes:=true } now) now=false:=by simp [Zdj,zj]
     simp [Z8,zu,zg,Zat,Zas,h,ze,c1,c2,c3,c4,Zbz] at c5 ⊢
     simp [c5,Zdj,zj]
   ·simp [Z8,zu,zg,h,ze,c1,c2,c3,Zbz]
  ·simp [Z8,zu,zg,h,ze,c1,c2,Zbz]
 ·simp [Z8,zu,zg,h,ze,c1,Zbz]
theorem Zf1 (h:l+3 < θ.length):zZ [.ref l] (upE θ l e)=.ok (Zbz (zD e).1) (upE θ l (zD e).2):=by
 by_cases c:e.owes_answer=true
 ·simp [zZ,ZbC,Zba,h,zD,c,Zbz,ZcR,ZbW,ZN]
 ·simp [zZ,ZbC,Zba,h,zD,c,Zbz]
@[simp] theorem ZvH:Zbz none=.non:=rfl
@[simp] theorem ZvG (s:Seg):Zbz (some s)=s.d:=rfl
@[simp] theorem ZxL (s:Seg):Zak s.d=false:=rfl
@[simp] theorem ZvL:Zak .non=true:=nr rfl
@[simp] theorem Zsq (h:l+3 < θ.length) (e:Zn):setK ["End"] "owed_reset" .non (.ref l) (upE θ l e)=some (upE θ l { e with owed_reset:=none }):=Zf6 h e none
@[simp] theorem Zsp (h:l+3 < θ.length) (e:Zn) (s:Seg):setK ["End"] "owed_reset" s.d (.ref l) (upE θ l e)=some (upE θ l { e with owed_reset:=some s }):=Zf6 h e (some s)
theorem ZiN (h:l+3 < θ.length) (x:Sl):Zg7 (Z1 2 (mCB Z6 (Zc (Zd 0) (Zc (Zd 1) Zi))) [.val (.ref l),.val (.int now),x] (upE θ l e)) (Zr Zb3 (Zr Zb2 (ZM (Zd 2)))) =
  .ok (.rt (Zbz (Zao e now).1),[.val (.ref l),.val (.int now),.val (Zbz (Zao e now).1)]) (upE θ l (Zao e now).2):=by
 unfold Zao
 cases c1:zc e now with
 | mk r1 e1=>
  cases r1 with
  | some s=>simp [h,Zdb,c1,Zb3,Zb2]
  | none=>
   cases c2:ze e1 now with
   | mk r2 e2=>
    cases r2 with
    | some s=>simp [h,Zdb,c1,Zb3,Zb2,ZdZ,c2]
    | none=>simp [h,Zdb,c1,Zb3,Zb2,ZdZ,c2,Zf1]
theorem ZlF (h:l+3 < θ.length):Zev [.ref l,.int now] (upE θ l e)=.ok (Zbz (zV e now).1) (upE θ l (zV e now).2):=by
 cases c0:e.owed_reset with
 | some s=>simp [Zev,Zfu,ZdK,h,zV,c0,ZcX,Zfd]
 | none=>
  have key:∀e1:Zn,(Zg7 (Zb4 [.val (.ref l),.val (.int now),.no] (upE θ l e1)) (Zr ZcK (Zr (Z1 2 (mCB Z6 (Zc (Zd 0) (Zc (Zd 1) Zi)))) (Zr Zb3 (Zr Zb2 (ZM (Zd 2))))))).bind (fun p θ=>match p.1 with | .nx=>.ok .non θ | .rt d=>.ok d θ | _=>.bad) =
    .ok (Zbz (if e1.state=.closed∨e1.state=.listen then (none,e1) else if ¬e1.nxt=e1.una∧Zdj e1 now=true then again e1 now else Zao e1 now).1) (upE θ l (if e1.state=.closed∨e1.state=.listen then (none,e1) else if ¬e1.nxt=e1.una∧Zdj e1 now=true then again e1 now else Zao e1 now).2):=fun e1=>by
   by_cases c1:e1.state=.closed∨e1.state=.listen
   ·simp [Zb4,h,c1]
   ·by_cases c2:e1.nxt=e1.una
    ·have g:=ZiN (e:=e1) (now:=now) h .no
     simp at g
     simp [Zb4,ZcK,h,c1,c2]
     rw [g]
     simp
    ·by_cases c3:Zdj e1 now=true
     ·simp [Zb4,ZcK,h,c1,c2,c3,Zq5]
     ·have g:=ZiN (e:=e1) (now:=now) h .no
      simp at g
      simp [Zb4,ZcK,h,c1,c2,c3]
      rw [g]
      simp
  by_cases c1:e.state=.timeWait∧120000≤now-e.since
  ·have:=key { e with state:=.closed }
   simp [Zev,Zfu,ZdK,Zfj,h,zV,c0,c1] at this ⊢
   exact this
  ·have:=key e
   simp [Zev,Zfu,ZdK,Zfj,h,zV,c0,c1] at this ⊢
   exact this
def Zdw (e:Zn) (now:Int):List Int:=match (zV e now).1 with
 | none=>[]
 | some s=>putL s
theorem Zt3 (h:l+3 < θ.length) (hp:∀s,(zV e now).1=some s→s.Put):Zet [.ref l,.int now] (upE θ l e)=.ok (il (Zdw e now)) (upE θ l (zV e now).2):=by
 unfold Zdw
 cases c:(zV e now).1 with
 | none=>simp [Zet,Zil,ZlF,h,c,ZcR]
 | some s=>simp [Zet,Zil,ZlF,h,c,Zv4 (hp s c)]
def newEnd (ours theirs first:Int) (active:Bool):Zn:=⟨ours,theirs,if active then .synSent else .listen,.none,first,first,first,0,0,0,0,12,[],[],[],none,false,Zs first 1,none,false,false,false,0,1000,0⟩
def cells (l:Nat) (e:Zn):Sto:=[c0 l e,c1 e,c2 e,c3 e]
theorem Znh (θ r:Sto) (C:Str) (fs:List (Str×D)):Zdk (θ++.ins C fs::r) (.ref θ.length)=some (θ.length,C,fs):=by
 show (match (θ++.ins C fs::r)[θ.length]? with | some (Cell.ins C fs)=>some (θ.length,C,fs) | _=>none)=_
 rw [YA (Yd _),Jf]
 rfl
theorem ZiT {f:Str} {y:D}:∀{fs:List (Str×D)},(fs.map Prod.fst).contains f=false→ZaE f y fs=fs++[(f,y)]
 | [],_=>rfl
 | (g,x)::r,h=>by
  rw [Yf,List.contains_cons,Bool.or_eq_false_iff] at h
  have hn:¬g=f:=fun e=>by rw [e,beq_self_eq_true] at h; cases h.1
  unfold ZaE
  rw [if_neg hn,ZiT h.2]
  rfl
theorem Z3 {C f:Str} {y:D} (θ r:Sto) {fs:List (Str×D)} (h0:[C].contains C=true) (h1:(fs.map Prod.fst).contains f=false) (h2:fs.length<1000):setK [C] f y (.ref θ.length) (θ++.ins C fs::r)=some (θ++.ins C (fs++[(f,y)])::r):=by
 unfold setK
 rw [Znh]
 simp only [h0]
 rw [if_pos ⟨trivial,h2⟩,ZiT h1]
 congr 1
 rw [List.set_append,if_neg (YE _),Jf]
 rfl
theorem Zl3 (S:Sto):mkG "Pile" ZbZ [] S=.ok (.ref S.length) (S++[.ins "Pile" [("row",il [])]]):=by
 have:=Z3 (C:="Pile") (f:="row") (y:=il []) S [] (fs:=[]) (by decide +kernel) rfl (by decide)
 simp [mkG,ZbZ,ZfE,ZcR,this]
theorem ZoA (θ r:Sto) (y:D):setK ["End"] "ours" y (.ref θ.length) (θ++.ins "End" []::r)=some (θ++.ins "End" [("ours",y)]::r):=Z3 θ r ce (by simp only [Yf,Yo]; decide +kernel) (by simp only [Yb,Yk]; decide)
theorem Zkp (θ r:Sto) (x0 y:D):setK ["End"] "theirs" y (.ref θ.length) (θ++.ins "End" [("ours",x0)]::r)=some (θ++.ins "End" [("ours",x0),("theirs",y)]::r):=Z3 θ r ce (by simp only [Yf,Yo]; decide +kernel) (by simp only [Yb,Yk]; decide)
theorem ZlW (θ r:Sto) (x0 x1 y:D):setK ["End"] "state" y (.ref θ.length) (θ++.ins "End" [("ours",x0),("theirs",x1)]::r)=some (θ++.ins "End" [("ours",x0),("theirs",x1),("state",y)]::r):=Z3 θ r ce (by simp only [Yf,Yo]; decide +kernel) (by simp only [Yb,Yk]; decide)
theorem ZlZ (θ r:Sto) (x0 x1 x2 y:D):setK ["End"] "error" y (.ref θ.length) (θ++.ins "End" [("ours",x0),("theirs",x1),("state",x2)]::r)=some (θ++.ins "End" [("ours",x0),("theirs",x1),("state",x2),("error",y)]::r):=Z3 θ r ce (by simp only [Yf,Yo]; decide +kernel) (by simp only [Yb,Yk]; decide)
theorem ZlY (θ r:Sto) (x0 x1 x2 x3 y:D):setK ["End"] "first" y (.ref θ.length) (θ++.ins "End" [("ours",x0),("theirs",x1),("state",x2),("error",x3)]::r)=some (θ++.ins "End" [("ours",x0),("theirs",x1),("state",x2),("error",x3),("first",y)]::r):=Z3 θ r ce (by simp only [Yf,Yo]; decide +kernel) (by simp only [Yb,Yk]; decide)
theorem Zsv (θ r:Sto) (x0 x1 x2 x3 x4 y:D):setK ["End"] "una" y (.ref θ.length) (θ++.ins "End" [("ours",x0),("theirs",x1),("state",x2),("error",x3),("first",x4)]::r)=some (θ++.ins "End" [("ours",x0),("theirs",x1),("state",x2),("error",x3),("first",x4),("una",y)]::r):=Z3 θ r ce (by simp only [Yf,Yo]; decide +kernel) (by simp only [Yb,Yk]; decide)
theorem Zsx (θ r:Sto) (x0 x1 x2 x3 x4 x5 y:D):setK ["End"] "nxt" y (.ref θ.length) (θ++.ins "End" [("ours",x0),("theirs",x1),("state",x2),("error",x3),("first",x4),("una",x5)]::r)=some (θ++.ins "End" [("ours",x0),("theirs",x1),("state",x2),("error",x3),("first",x4),("una",x5),("nxt",y)]::r):=Z3 θ r ce (by simp only [Yf,Yo]; decide +kernel) (by simp only [Yb,Yk]; decide)
theorem Zsw (θ r:Sto) (x0 x1 x2 x3 x4 x5 x6 y:D):setK ["End"] "rcv" y (.ref θ.length) (θ++.ins "End" [("ours",x0),("theirs",x1),("state",x2),("error",x3),("first",x4),("una",x5),("nxt",x6)]::r)=some (θ++.ins "End" [("ours",x0),("theirs",x1),("state",x2),("error",x3),("first",x4),("una",x5),("nxt",x6),("rcv",y)]::r):=Z3 θ r ce (by simp only [Yf,Yo]; decide +kernel) (by simp only [Yb,Yk]; decide)
theorem Zsu (θ r:Sto) (x0 x1 x2 x3 x4 x5 x6 x7 y:D):setK ["End"] "wnd" y (.ref θ.length) (θ++.ins "End" [("ours",x0),("theirs",x1),("state",x2),("error",x3),("first",x4),("una",x5),("nxt",x6),("rcv",x7)]::r)=some (θ++.ins "End" [("ours",x0),("theirs",x1),("state",x2),("error",x3),("first",x4),("una",x5),("nxt",x6),("rcv",x7),("wnd",y)]::r):=Z3 θ r ce (by simp only [Yf,Yo]; decide +kernel) (by simp only [Yb,Yk]; decide)
theorem Zoz (θ r:Sto) (x0 x1 x2 x3 x4 x5 x6 x7 x8 y:D):setK ["End"] "told" y (.ref θ.length) (θ++.ins "End" [("ours",x0),("theirs",x1),("state",x2),("error",x3),("first",x4),("una",x5),("nxt",x6),("rcv",x7),("wnd",x8)]::r)=some (θ++.ins "End" [("ours",x0),("theirs",x1),("state",x2),("error",x3),("first",x4),("una",x5),("nxt",x6),("rcv",x7),("wnd",x8),("told",y)]::r):=Z3 θ r ce (by simp only [Yf,Yo]; decide +kernel) (by simp only [Yb,Yk]; decide)
theorem ZiY (θ r:Sto) (x0 x1 x2 x3 x4 x5 x6 x7 x8 x9 y:D):setK ["End"] "told_by" y (.ref θ.length) (θ++.ins "End" [("ours",x0),("theirs",x1),("state",x2),("error",x3),("first",x4),("una",x5),("nxt",x6),("rcv",x7),("wnd",x8),("told",x9)]::r)=some (θ++.ins "End" [("ours",x0),("theirs",x1),("state",x2),("error",x3),("first",x4),("una",x5),("nxt",x6),("rcv",x7),("wnd",x8),("told",x9),("told_by",y)]::r):=Z3 θ r ce (by simp only [Yf,Yo]; decide +kernel) (by simp only [Yb,Yk]; decide)
theorem ZoB (θ r:Sto) (x0 x1 x2 x3 x4 x5 x6 x7 x8 x9 x10 y:D):setK ["End"] "most" y (.ref θ.length) (θ++.ins "End" [("ours",x0),("theirs",x1),("state",x2),("error",x3),("first",x4),("una",x5),("nxt",x6),("rcv",x7),("wnd",x8),("told",x9),("told_by",x10)]::r)=some (θ++.ins "End" [("ours",x0),("theirs",x1),("state",x2),("error",x3),("first",x4),("una",x5),("nxt",x6),("rcv",x7),("wnd",x8),("told",x9),("told_by",x10),("most",y)]::r):=Z3 θ r ce (by simp only [Yf,Yo]; decide +kernel) (by simp only [Yb,Yk]; decide)
theorem ZiX (θ r:Sto) (x0 x1 x2 x3 x4 x5 x6 x7 x8 x9 x10 x11 y:D):setK ["End"] "written" y (.ref θ.length) (θ++.ins "End" [("ours",x0),("theirs",x1),("state",x2),("error",x3),("first",x4),("una",x5),("nxt",x6),("rcv",x7),("wnd",x8),("told",x9),("told_by",x10),("most",x11)]::r)=some (θ++.ins "End" [("ours",x0),("theirs",x1),("state",x2),("error",x3),("first",x4),("una",x5),("nxt",x6),("rcv",x7),("wnd",x8),("told",x9),("told_by",x10),("most",x11),("written",y)]::r):=Z3 θ r ce (by simp only [Yf,Yo]; decide +kernel) (by simp only [Yb,Yk]; decide)
theorem ZoC (θ r:Sto) (x0 x1 x2 x3 x4 x5 x6 x7 x8 x9 x10 x11 x12 y:D):setK ["End"] "come" y (.ref θ.length) (θ++.ins "End" [("ours",x0),("theirs",x1),("state",x2),("error",x3),("first",x4),("una",x5),("nxt",x6),("rcv",x7),("wnd",x8),("told",x9),("told_by",x10),("most",x11),("written",x12)]::r)=some (θ++.ins "End" [("ours",x0),("theirs",x1),("state",x2),("error",x3),("first",x4),("una",x5),("nxt",x6),("rcv",x7),("wnd",x8),("told",x9),("told_by",x10),("most",x11),("written",x12),("come",y)]::r):=Z3 θ r ce (by simp only [Yf,Yo]; decide +kernel) (by simp only [Yb,Yk]; decide)
theorem Zl0 (θ r:Sto) (x0 x1 x2 x3 x4 x5 x6 x7 x8 x9 x10 x11 x12 x13 y:D):setK ["End"] "early" y (.ref θ.length) (θ++.ins "End" [("ours",x0),("theirs",x1),("state",x2),("error",x3),("first",x4),("una",x5),("nxt",x6),("rcv",x7),("wnd",x8),("told",x9),("told_by",x10),("most",x11),("written",x12),("come",x13)]::r)=some (θ++.ins "End" [("ours",x0),("theirs",x1),("state",x2),("error",x3),("first",x4),("una",x5),("nxt",x6),("rcv",x7),("wnd",x8),("told",x9),("told_by",x10),("most",x11),("written",x12),("come",x13),("early",y)]::r):=Z3 θ r ce (by simp only [Yf,Yo]; decide +kernel) (by simp only [Yb,Yk]; decide)
theorem Zg9 (θ r:Sto) (x0 x1 x2 x3 x4 x5 x6 x7 x8 x9 x10 x11 x12 x13 x14 y:D):setK ["End"] "early_fin" y (.ref θ.length) (θ++.ins "End" [("ours",x0),("theirs",x1),("state",x2),("error",x3),("first",x4),("una",x5),("nxt",x6),("rcv",x7),("wnd",x8),("told",x9),("told_by",x10),("most",x11),("written",x12),("come",x13),("early",x14)]::r)=some (θ++.ins "End" [("ours",x0),("theirs",x1),("state",x2),("error",x3),("first",x4),("una",x5),("nxt",x6),("rcv",x7),("wnd",x8),("told",x9),("told_by",x10),("most",x11),("written",x12),("come",x13),("early",x14),("early_fin",y)]::r):=Z3 θ r ce (by simp only [Yf,Yo]; decide +kernel) (by simp only [Yb,Yk]; decide)
theorem Zge (θ r:Sto) (x0 x1 x2 x3 x4 x5 x6 x7 x8 x9 x10 x11 x12 x13 x14 x15 y:D):setK ["End"] "has_closed" y (.ref θ.length) (θ++.ins "End" [("ours",x0),("theirs",x1),("state",x2),("error",x3),("first",x4),("una",x5),("nxt",x6),("rcv",x7),("wnd",x8),("told",x9),("told_by",x10),("most",x11),("written",x12),("come",x13),("early",x14),("early_fin",x15)]::r)=some (θ++.ins "End" [("ours",x0),("theirs",x1),("state",x2),("error",x3),("first",x4),("una",x5),("nxt",x6),("rcv",x7),("wnd",x8),("told",x9),("told_by",x10),("most",x11),("written",x12),("come",x13),("early",x14),("early_fin",x15),("has_closed",y)]::r):=Z3 θ r ce (by simp only [Yf,Yo]; decide +kernel) (by simp only [Yb,Yk]; decide)
theorem Zks (θ r:Sto) (x0 x1 x2 x3 x4 x5 x6 x7 x8 x9 x10 x11 x12 x13 x14 x15 x16 y:D):setK ["End"] "behind" y (.ref θ.length) (θ++.ins "End" [("ours",x0),("theirs",x1),("state",x2),("error",x3),("first",x4),("una",x5),("nxt",x6),("rcv",x7),("wnd",x8),("told",x9),("told_by",x10),("most",x11),("written",x12),("come",x13),("early",x14),("early_fin",x15),("has_closed",x16)]::r)=some (θ++.ins "End" [("ours",x0),("theirs",x1),("state",x2),("error",x3),("first",x4),("una",x5),("nxt",x6),("rcv",x7),("wnd",x8),("told",x9),("told_by",x10),("most",x11),("written",x12),("come",x13),("early",x14),("early_fin",x15),("has_closed",x16),("behind",y)]::r):=Z3 θ r ce (by simp only [Yf,Yo]; decide +kernel) (by simp only [Yb,Yk]; decide)
theorem Zgd (θ r:Sto) (x0 x1 x2 x3 x4 x5 x6 x7 x8 x9 x10 x11 x12 x13 x14 x15 x16 x17 y:D):setK ["End"] "owed_reset" y (.ref θ.length) (θ++.ins "End" [("ours",x0),("theirs",x1),("state",x2),("error",x3),("first",x4),("una",x5),("nxt",x6),("rcv",x7),("wnd",x8),("told",x9),("told_by",x10),("most",x11),("written",x12),("come",x13),("early",x14),("early_fin",x15),("has_closed",x16),("behind",x17)]::r)=some (θ++.ins "End" [("ours",x0),("theirs",x1),("state",x2),("error",x3),("first",x4),("una",x5),("nxt",x6),("rcv",x7),("wnd",x8),("told",x9),("told_by",x10),("most",x11),("written",x12),("come",x13),("early",x14),("early_fin",x15),("has_closed",x16),("behind",x17),("owed_reset",y)]::r):=Z3 θ r ce (by simp only [Yf,Yo]; decide +kernel) (by simp only [Yb,Yk]; decide)
theorem ZhU (θ r:Sto) (x0 x1 x2 x3 x4 x5 x6 x7 x8 x9 x10 x11 x12 x13 x14 x15 x16 x17 x18 y:D):setK ["End"] "owes_syn" y (.ref θ.length) (θ++.ins "End" [("ours",x0),("theirs",x1),("state",x2),("error",x3),("first",x4),("una",x5),("nxt",x6),("rcv",x7),("wnd",x8),("told",x9),("told_by",x10),("most",x11),("written",x12),("come",x13),("early",x14),("early_fin",x15),("has_closed",x16),("behind",x17),("owed_reset",x18)]::r)=some (θ++.ins "End" [("ours",x0),("theirs",x1),("state",x2),("error",x3),("first",x4),("una",x5),("nxt",x6),("rcv",x7),("wnd",x8),("told",x9),("told_by",x10),("most",x11),("written",x12),("come",x13),("early",x14),("early_fin",x15),("has_closed",x16),("behind",x17),("owed_reset",x18),("owes_syn",y)]::r):=Z3 θ r ce (by simp only [Yf,Yo]; decide +kernel) (by simp only [Yb,Yk]; decide)
theorem ZfA (θ r:Sto) (x0 x1 x2 x3 x4 x5 x6 x7 x8 x9 x10 x11 x12 x13 x14 x15 x16 x17 x18 x19 y:D):setK ["End"] "owes_answer" y (.ref θ.length) (θ++.ins "End" [("ours",x0),("theirs",x1),("state",x2),("error",x3),("first",x4),("una",x5),("nxt",x6),("rcv",x7),("wnd",x8),("told",x9),("told_by",x10),("most",x11),("written",x12),("come",x13),("early",x14),("early_fin",x15),("has_closed",x16),("behind",x17),("owed_reset",x18),("owes_syn",x19)]::r)=some (θ++.ins "End" [("ours",x0),("theirs",x1),("state",x2),("error",x3),("first",x4),("una",x5),("nxt",x6),("rcv",x7),("wnd",x8),("told",x9),("told_by",x10),("most",x11),("written",x12),("come",x13),("early",x14),("early_fin",x15),("has_closed",x16),("behind",x17),("owed_reset",x18),("owes_syn",x19),("owes_answer",y)]::r):=Z3 θ r ce (by simp only [Yf,Yo]; decide +kernel) (by simp only [Yb,Yk]; decide)
theorem Zkq (θ r:Sto) (x0 x1 x2 x3 x4 x5 x6 x7 x8 x9 x10 x11 x12 x13 x14 x15 x16 x17 x18 x19 x20 y:D):setK ["End"] "probes" y (.ref θ.length) (θ++.ins "End" [("ours",x0),("theirs",x1),("state",x2),("error",x3),("first",x4),("una",x5),("nxt",x6),("rcv",x7),("wnd",x8),("told",x9),("told_by",x10),("most",x11),("written",x12),("come",x13),("early",x14),("early_fin",x15),("has_closed",x16),("behind",x17),("owed_reset",x18),("owes_syn",x19),("owes_answer",x20)]::r)=some (θ++.ins "End" [("ours",x0),("theirs",x1),("state",x2),("error",x3),("first",x4),("una",x5),("nxt",x6),("rcv",x7),("wnd",x8),("told",x9),("told_by",x10),("most",x11),("written",x12),("come",x13),("early",x14),("early_fin",x15),("has_closed",x16),("behind",x17),("owed_reset",x18),("owes_syn",x19),("owes_answer",x20),("probes",y)]::r):=Z3 θ r ce (by simp only [Yf,Yo]; decide +kernel) (by simp only [Yb,Yk]; decide)
theorem ZlX (θ r:Sto) (x0 x1 x2 x3 x4 x5 x6 x7 x8 x9 x10 x11 x12 x13 x14 x15 x16 x17 x18 x19 x20 x21 y:D):setK ["End"] "since" y (.ref θ.length) (θ++.ins "End" [("ours",x0),("theirs",x1),("state",x2),("error",x3),("first",x4),("una",x5),("nxt",x6),("rcv",x7),("wnd",x8),("told",x9),("told_by",x10),("most",x11),("written",x12),("come",x13),("early",x14),("early_fin",x15),("has_closed",x16),("behind",x17),("owed_reset",x18),("owes_syn",x19),("owes_answer",x20),("probes",x21)]::r)=some (θ++.ins "End" [("ours",x0),("theirs",x1),("state",x2),("error",x3),("first",x4),("una",x5),("nxt",x6),("rcv",x7),("wnd",x8),("told",x9),("told_by",x10),("most",x11),("written",x12),("come",x13),("early",x14),("early_fin",x15),("has_closed",x16),("behind",x17),("owed_reset",x18),("owes_syn",x19),("owes_answer",x20),("probes",x21),("since",y)]::r):=Z3 θ r ce (by simp only [Yf,Yo]; decide +kernel) (by simp only [Yb,Yk]; decide)
theorem Zoy (θ r:Sto) (x0 x1 x2 x3 x4 x5 x6 x7 x8 x9 x10 x11 x12 x13 x14 x15 x16 x17 x18 x19 x20 x21 x22 y:D):setK ["End"] "wait" y (.ref θ.length) (θ++.ins "End" [("ours",x0),("theirs",x1),("state",x2),("error",x3),("first",x4),("una",x5),("nxt",x6),("rcv",x7),("wnd",x8),("told",x9),("told_by",x10),("most",x11),("written",x12),("come",x13),("early",x14),("early_fin",x15),("has_closed",x16),("behind",x17),("owed_reset",x18),("owes_syn",x19),("owes_answer",x20),("probes",x21),("since",x22)]::r)=some (θ++.ins "End" [("ours",x0),("theirs",x1),("state",x2),("error",x3),("first",x4),("una",x5),("nxt",x6),("rcv",x7),("wnd",x8),("told",x9),("told_by",x10),("most",x11),("written",x12),("come",x13),("early",x14),("early_fin",x15),("has_closed",x16),("behind",x17),("owed_reset",x18),("owes_syn",x19),("owes_answer",x20),("probes",x21),("since",x22),("wait",y)]::r):=Z3 θ r ce (by simp only [Yf,Yo]; decide +kernel) (by simp only [Yb,Yk]; decide)
theorem ZlV (θ r:Sto) (x0 x1 x2 x3 x4 x5 x6 x7 x8 x9 x10 x11 x12 x13 x14 x15 x16 x17 x18 x19 x20 x21 x22 x23 y:D):setK ["End"] "tries" y (.ref θ.length) (θ++.ins "End" [("ours",x0),("theirs",x1),("state",x2),("error",x3),("first",x4),("una",x5),("nxt",x6),("rcv",x7),("wnd",x8),("told",x9),("told_by",x10),("most",x11),("written",x12),("come",x13),("early",x14),("early_fin",x15),("has_closed",x16),("behind",x17),("owed_reset",x18),("owes_syn",x19),("owes_answer",x20),("probes",x21),("since",x22),("wait",x23)]::r)=some (θ++.ins "End" [("ours",x0),("theirs",x1),("state",x2),("error",x3),("first",x4),("una",x5),("nxt",x6),("rcv",x7),("wnd",x8),("told",x9),("told_by",x10),("most",x11),("written",x12),("come",x13),("early",x14),("early_fin",x15),("has_closed",x16),("behind",x17),("owed_reset",x18),("owes_syn",x19),("owes_answer",x20),("probes",x21),("since",x22),("wait",x23),("tries",y)]::r):=Z3 θ r ce (by simp only [Yf,Yo]; decide +kernel) (by simp only [Yb,Yk]; decide)
theorem Zub {a b c:Int} {act:Bool} (θ:Sto):Zcs [.ref θ.length,.int a,.int b,.int c,.bl act] (θ++[.ins "End" []])=.ok .non (θ++cells θ.length (newEnd a b c act)):=by
 cases act with
 | true=>
  simp [Zcs,ZeL,Zl3,ZoA,Zkp,ZlW,ZlZ,ZlY,Zsv,Zsx,Zsw,Zsu,Zoz,ZiY,ZoB,ZiX,ZoC,Zl0,Zg9,Zge,Zks,Zgd,ZhU,ZfA,Zkq,ZlX,Zoy,ZlV]
  rfl
 | false=>
  simp [Zcs,ZeL,Zl3,ZoA,Zkp,ZlW,ZlZ,ZlY,Zsv,Zsx,Zsw,Zsu,Zoz,ZiY,ZoB,ZiX,ZoC,Zl0,Zg9,Zge,Zks,Zgd,ZhU,ZfA,Zkq,ZlX,Zoy,ZlV]
  rfl
theorem Zj2 {a b c:Int} {act:Bool} (θ:Sto):Ze1 [.int a,.int b,.int c,.bl act] θ=.ok (.ref θ.length) (θ++cells θ.length (newEnd a b c act)):=by
 simp [Ze1,Zin,mkG,Zub]
end
end
end My
namespace L2
open PySem PySem.Spec PyProof.Rows
open AutoSeq1 (wpAny_loadPart')
theorem ZrW (tp:Addr) (its:Array Value) (k:Nat) (dct:Option Addr) (sl:Array (Option Value)) :
  Meets (Builtin.«enumerate.__new__» ⟨[.type "enumerate",.ref tp],[]⟩) (fun _ R s=>s.heap.get? tp=some { cls:=.type "tuple",dict:=dct,data:=.seq its k,slots:=sl }∧
   R (.ok (.ret (.ref (s.heap.push { cls:=.type "tuple_iterator",data:=.fields #[.ref tp,.int 0 0] }).objs.size)))
    { s with heap:=(s.heap.push { cls:=.type "tuple_iterator",data:=.fields #[.ref tp,.int 0 0] }).push { cls:=.type "enumerate",data:=.fields #[.none,.bool false,.ref s.heap.objs.size,rawInt 0,.none,.none] } }):=by
 refine .of_wp fun prog w A R s h=>?_
 obtain ⟨hp,g,d,tk,os⟩:=s
 obtain ⟨ht,h⟩:=h
 have hsub:=sub_enumerate
 have hT:Heap.IsTuple (Shared.heap ⟨hp,g,d,tk,os⟩) tp its:=⟨_,ht,rfl,k,rfl⟩
 wp_walk using wpAny_loadPart' ht
 refine wpAny_stack_any fun st=>?_
 refine wpAny_pure ?_
 split
 ·rename_i c _ _ _ _ _
  cases (c == Value.type "enumerate")<;>(wp_walk using wpAny_loadPart' ht,wpAny_pyIter_tuple hT; exact ⟨_,rfl,h⟩)
 ·wp_walk using wpAny_loadPart' ht,wpAny_pyIter_tuple hT; exact ⟨_,rfl,h⟩
section
variable {prog:Program} {w:World} {A:Around} {E:Value→Shared→Prop} {s:Shared}
theorem Zpl {tp:Addr} {its:Array Value} {Q:Value→Shared→Prop} (hT:s.heap.IsTuple tp its)
  (h:∀h',IsEnum h' (s.heap.objs.size+1) s.heap.objs.size 0 .none→h'.IsTupleIter s.heap.objs.size tp 0→h'.objs.size=s.heap.objs.size+2→(∀b o,s.heap.get? b=some o→h'.get? b=some o)→Q (.ref (s.heap.objs.size+1)) { s with heap:=h' }) :
  wpAny (model prog w) A (call (.type "enumerate") [.ref tp]) Q E s:=by
 obtain ⟨⟨c,dct,dt,sl⟩,ht,hc,k,hd⟩:=hT
 cases (show c=.type "tuple" from hc)
 cases (show dt=.seq its k from hd)
 refine callType_new F.called_enumerate (by decide) (F.typeCall_enumerate_1 _) (F.newCall_enumerate_1 _) (fun obj=>F.args_object_init_2 obj _) F.entry_enumerate_new (ZrW tp its k dct sl) ⟨ht,?_⟩
 have hz:(s.heap.push { cls:=.type "tuple_iterator",data:=.fields #[.ref tp,.int 0 0] }).objs.size=s.heap.objs.size+1:=Heap.size_push ..
 show _∧_
 rw [hz]
 have he:IsEnum ((s.heap.push { cls:=.type "tuple_iterator",data:=.fields #[.ref tp,.int 0 0] }).push { cls:=.type "enumerate",data:=.fields #[.none,.bool false,.ref s.heap.objs.size,rawInt 0,.none,.none] }) (s.heap.objs.size+1) s.heap.objs.size 0 .none:=by
  have q:=Heap.get?_push_size (s.heap.push { cls:=.type "tuple_iterator",data:=.fields #[.ref tp,.int 0 0] }) (o:={ cls:=.type "enumerate",data:=.fields #[.none,.bool false,.ref s.heap.objs.size,rawInt 0,.none,.none] }) rfl
  rw [hz] at q
  exact q
 exact ⟨⟨_,he,rfl⟩,h _ he ⟨_,Heap.get?_push_of_some _ (Heap.get?_push_size _ rfl),rfl,rfl⟩ (by rw [Heap.size_push,hz]) fun b o x=>Heap.get?_push_of_some _ (Heap.get?_push_of_some _ x)⟩
theorem Zlc {it tp:Addr} {i:Nat} {its} {x:Value} {Q:Value→Shared→Prop} (hit:s.heap.IsTupleIter it tp i) (ht:s.heap.IsTuple tp its) (hx:its[i]?=some x)
  (hQ:∀h',h'.IsTupleIter it tp (i+1)→Heap.SameBut it s.heap h'→Q x { s with heap:=h' }):wpAny (model prog w) A (Builtin.SmallTypes.nextOf (.ref it)) Q E s:=by
 obtain ⟨o,ho,hc,hd⟩:=id hit
 obtain ⟨ol,hol,_,nl,hdl⟩:=ht
 unfold Builtin.SmallTypes.nextOf
 refine wpAny_bind (wpAny_callSpecial?_slot (name:=Str.ofString "__next__") hit.typeIs F.slot_tuple_iterator_next (wpAny_call_entry F.slot_tuple_iterator_next hit.typeIs F.entry_tuple_iterator_next ?_ (F.args_tuple_iterator_next_1 _)))
 show wpAny _ _ (field (.ref it) 0 >>= _) _ _ s
 refine wpAny_bind (wpAny_field ho hd (x:=.ref tp) rfl ?_)
 rw [if_neg (show ¬((Value.ref tp == Value.none)=true) from Yi)]
 refine wpAny_bind (wpAny_field ho hd (x:=.int i 0) rfl (wpAny_bind (wpAny_seqItems hol hdl ?_)))
 simp only [Int.toNat_natCast,hx]
 refine wpAny_bind (wpAny_setField ho hd (by simp) (wpAny_pure ⟨x,rfl,wpAny_pure (hQ _ ⟨_,Heap.get?_update_self _ ho (Obj.isFreed_of_fields (Obj.data_mapFields hd _)),(Obj.cls_mapFields ..).trans hc,?_⟩ (Heap.SameBut.update ..))⟩))
 rw [Obj.data_mapFields hd]
 simp [rawInt]
theorem Zm6 {it tp:Addr} {i:Nat} {its} {Q:Value→Shared→Prop} (hh:A.handled=none) (hit:s.heap.IsTupleIter it tp i) (ht:s.heap.IsTuple tp its) (hx:its[i]?=none)
  (hE:∀h' e,Heap.ExtBut it s.heap h'→(∃o,h'.get? e=some o∧o.cls=.type "StopIteration")→E (.ref e) { s with heap:=h' }):wpAny (model prog w) A (Builtin.SmallTypes.nextOf (.ref it)) Q E s:=by
 obtain ⟨o,ho,hc,hd⟩:=id hit
 obtain ⟨ol,hol,_,nl,hdl⟩:=ht
 unfold Builtin.SmallTypes.nextOf
 refine wpAny_bind (wpAny_callSpecial?_slot (name:=Str.ofString "__next__") hit.typeIs F.slot_tuple_iterator_next (wpAny_call_entry F.slot_tuple_iterator_next hit.typeIs F.entry_tuple_iterator_next ?_ (F.args_tuple_iterator_next_1 _)))
 show wpAny _ _ (field (.ref it) 0 >>= _) _ _ s
 refine wpAny_bind (wpAny_field ho hd (x:=.ref tp) rfl ?_)
 rw [if_neg (show ¬((Value.ref tp == Value.none)=true) from Yi)]
 refine wpAny_bind (wpAny_field ho hd (x:=.int i 0) rfl (wpAny_bind (wpAny_seqItems hol hdl ?_)))
 simp only [Int.toNat_natCast,hx]
 refine wpAny_bind (wpAny_rule (wpAny_bind (wpAny_setField ho hd (by simp) ?_)))
 refine wpAny_bind (m:=newExc (.type "StopIteration") []) ?_
 simp only [newExc,newTuple]
 refine wpAny_bind (wpAny_newObj_type (wpAny_bind (m:=firstArgMember _ _) (wpAny_of_eq (a:=Value.none) (by first | rfl | (simp only [firstArgMember]; rfl)) (wpAny_newObj_type ?_ (by size_fits)))) (by size_fits))
 simp only [raiseNew]
 refine wpAny_bind (wpAny_handled ?_)
 rw [show A.in1.handled=none from hh]
 exact wpAny_bind (wpAny_pure (wpAny_throw (hE _ _ (((Heap.SameBut.update ..).extBut.push _).push _) ⟨_,Heap.get?_push_size _ rfl,rfl⟩)))
theorem Zo7 {e it tp:Addr} {i:Nat} {its:Array Value} {x old:Value} {Q:Value→Shared→Prop} (he:IsEnum s.heap e it i old) (hit:s.heap.IsTupleIter it tp i) (ht:s.heap.IsTuple tp its) (hx:its[i]?=some x) (hne:e≠it)
  (hQ:∀h',IsEnumOut h' e it ((i:Int)+1) x s.heap.objs.size→h'.IsTupleIter it tp (i+1)→h'.get? s.heap.objs.size=some { cls:=.type "tuple",data:=.seq #[.int i s.toks,x] }→h'.objs.size=s.heap.objs.size+1→(∀b o,b≠e→b≠it→s.heap.get? b=some o→h'.get? b=some o)→Q (.ref s.heap.objs.size) { s with heap:=h',toks:=s.toks+1 }) :
  wpAny (model prog w) A (Builtin.«enumerate.__next__» ⟨[.ref e],[]⟩) (fun fin s'=>∃v,fin=.done (.ret v)∧Q v s') E s:=by
 obtain ⟨hp,g,d,tk,os⟩:=s
 show wpAny _ _ (field (.ref e) 2 >>= _) _ _ _
 refine wpAny_bind (wpAny_field he rfl (x:=.ref it) rfl (wpAny_bind (Zlc hit ht hx fun h1 hit1 hs1=>?_)))
 replace hs1:Heap.SameBut it hp h1:=hs1
 have he1:IsEnum h1 e it i old:=(hs1.2 e hne).trans he
 refine wpAny_bind (wpAny_field (s:=⟨h1,g,d,tk,os⟩) he1 rfl (x:=rawInt i) rfl ?_)
 refine wpAny_bind (wpAny_field (s:=⟨h1,g,d,tk,os⟩) he1 rfl (x:=.none) rfl ?_)
 show wpAny _ _ (mkInt i >>= _) _ _ ⟨h1,g,d,tk,os⟩
 refine wpAny_bind (wpAny_mkInt ?_)
 show wpAny _ _ (setField (.ref e) 3 (rawInt ((i:Int)+1)) >>= _) _ _ ⟨h1,g,d,tk+1,os⟩
 refine wpAny_bind (wpAny_setField_rec he1 (by simp) fun h2 he2 hs2=>?_)
 replace hs2:Heap.SameBut e h1 h2:=hs2
 replace he2:IsEnum h2 e it ((i:Int)+1) old:=he2
 show wpAny _ _ (setField (.ref e) 4 .none >>= _) _ _ ⟨h2,g,d,tk+1,os⟩
 refine wpAny_bind (wpAny_setField_rec he2 (by simp) fun h3 he3 hs3=>?_)
 replace hs3:Heap.SameBut e h2 h3:=hs3
 replace he3:IsEnum h3 e it ((i:Int)+1) old:=he3
 show wpAny _ _ (newTuple [.int i tk,x] >>= _) _ _ ⟨h3,g,d,tk+1,os⟩
 refine wpAny_bind (wpAny_newTuple ?_)
 have he4:IsEnum (h3.push { cls:=.type "tuple",data:=.seq #[.int i tk,x] }) e it ((i:Int)+1) old:=Heap.get?_push_of_some _ he3
 obtain ⟨h4,hh4⟩:∃z,z=h3.push { cls:=.type "tuple",data:=.seq #[.int i tk,x] }:=⟨_,rfl⟩
 rw [←hh4] at he4
 have hsz:h3.objs.size=hp.objs.size:=by rw [hs3.1,hs2.1,hs1.1]
 have hel:hp.objs.size≠e:=Jo (Heap.lt_size he)
 have ht4:h4.get? hp.objs.size=some { cls:=.type "tuple",data:=.seq #[.int i tk,x] }:=by rw [hh4,←hsz]; exact Heap.get?_push_size _ rfl
 have hz4:h4.objs.size=hp.objs.size+1:=by rw [hh4,Heap.size_push,hsz]
 have hk4:∀b o,b≠e→b≠it→hp.get? b=some o→h4.get? b=some o:=fun b o q1 q2 q3=>by
  rw [hh4]
  exact Heap.get?_push_of_some _ (hs3.extBut b o q1 (hs2.extBut b o q1 (hs1.extBut b o q2 q3)))
 have hit4:h4.IsTupleIter it tp (i+1):=by
  obtain ⟨o,ho,r⟩:=(hit1.extBut hs2.extBut (Ne.symm hne)).extBut hs3.extBut (Ne.symm hne)
  exact ⟨o,by rw [hh4]; exact Heap.get?_push_of_some _ ho,r⟩
 show wpAny _ _ (Builtin.SmallTypes.ownedTupleIsFree (.ref e) >>= _) _ _ ⟨h3.push { cls:=.type "tuple",data:=.seq #[.int i tk,x] },g,d,tk+1,os⟩
 rw [←hh4,hsz]
 refine wpAny_bind ?_
 unfold Builtin.SmallTypes.ownedTupleIsFree
 refine wpAny_bind (wpAny_field he4 rfl (x:=.none) rfl (wpAny_pure ?_))
 simp only [if_true]
 refine wpAny_bind (wpAny_rule (wpAny_bind (wpAny_field he4 rfl (x:=old) rfl (wpAny_bind (wpAny_setField_rec he4 (by simp) fun h5 he5 hs5=>?_)))))
 replace hs5:Heap.SameBut e h4 h5:=hs5
 replace he5:IsEnum h5 e it ((i:Int)+1) x:=he5
 refine wpAny_bind (m:=Builtin.SmallTypes.ownedTupleHandOut (.ref e) (.ref hp.objs.size)) ?_
 unfold Builtin.SmallTypes.ownedTupleHandOut
 refine wpAny_bind (wpAny_setField_rec he5 (by simp) fun h6 he6 hs6=>?_)
 replace hs6:Heap.SameBut e h5 h6:=hs6
 replace he6:IsEnumOut h6 e it ((i:Int)+1) x hp.objs.size:=he6
 refine wpAny_setField_rec he6 (by simp) fun h7 he7 hs7=>?_
 replace hs7:Heap.SameBut e h6 h7:=hs7
 replace he7:IsEnumOut h7 e it ((i:Int)+1) x hp.objs.size:=he7
 have up:∀b o,b≠e→h4.get? b=some o→h7.get? b=some o:=fun b o q1 q2=>hs7.extBut b o q1 (hs6.extBut b o q1 (hs5.extBut b o q1 q2))
 refine wpAny_bind (wpAny_letGo (wpAny_pure ⟨_,rfl,hQ h7 he7 ?_ (up _ _ hel ht4) (by rw [hs7.1,hs6.1,hs5.1,hz4]) fun b o q1 q2 q3=>up b o q1 (hk4 b o q1 q2 q3)⟩))
 obtain ⟨o,ho,r⟩:=hit4
 exact ⟨o,up _ _ (Ne.symm hne) ho,r⟩
theorem Zo8 {e it tp:Addr} {i:Nat} {its:Array Value} {x old:Value} {Q:Option Value→Shared→Prop} (he:IsEnum s.heap e it i old) (hit:s.heap.IsTupleIter it tp i) (ht:s.heap.IsTuple tp its) (hx:its[i]?=some x) (hne:e≠it)
  (hQ:∀h',IsEnumOut h' e it ((i:Int)+1) x s.heap.objs.size→h'.IsTupleIter it tp (i+1)→h'.get? s.heap.objs.size=some { cls:=.type "tuple",data:=.seq #[.int i s.toks,x] }→h'.objs.size=s.heap.objs.size+1→(∀b o,b≠e→b≠it→s.heap.get? b=some o→h'.get? b=some o)→Q (some (.ref s.heap.objs.size)) { s with heap:=h',toks:=s.toks+1 }) :
  wpAny (model prog w) A (pyNext (.ref e)) Q E s:=by
 have hT:s.TypeIs (.ref e) "enumerate":=⟨_,he,rfl⟩
 unfold pyNext
 exact wpAny_bind (wpAny_attempt (wpAny_callSpecial?_slot (name:=Str.ofString "__next__") hT F.slot_enumerate_next (wpAny_call_entry F.slot_enumerate_next hT F.entry_enumerate_next (Zo7 he hit ht hx hne fun h' a b c d k=>wpAny_pure (hQ h' a b c d k)) (F.args_enumerate_next_1 _))))
theorem ZrX {e it tp:Addr} {i:Nat} {its:Array Value} {old:Value} {Q:Option Value→Shared→Prop} (hh:A.handled=none) (he:IsEnum s.heap e it i old) (hit:s.heap.IsTupleIter it tp i) (ht:s.heap.IsTuple tp its) (hx:its[i]?=none)
  (hQ:∀h',Heap.ExtBut it s.heap h'→Q none { s with heap:=h' }):wpAny (model prog w) A (pyNext (.ref e)) Q E s:=by
 have hT:s.TypeIs (.ref e) "enumerate":=⟨_,he,rfl⟩
 unfold pyNext
 refine wpAny_bind (wpAny_attempt (wpAny_callSpecial?_slot (name:=Str.ofString "__next__") hT F.slot_enumerate_next (wpAny_call_entry F.slot_enumerate_next hT F.entry_enumerate_next ?_ (F.args_enumerate_next_1 _))))
 show wpAny _ _ (field (.ref e) 2 >>= _) _ _ _
 refine wpAny_bind (wpAny_field he rfl (x:=.ref it) rfl (wpAny_bind (Zm6 hh hit ht hx fun h' x he' hx'=>?_)))
 obtain ⟨o,ho,hc⟩:=hx'
 exact wpAny_bind (wpAny_isInstance (T:="StopIteration") (b:=true) ⟨o,ho,hc⟩ isSubtype_stop (wpAny_pure (hQ _ he')))
def Ite (K:PySem.W.Frag) (a:Addr):It:=
 ⟨fun i H=>∃xs x,SqT K H a xs∧xs[i]?=some x,fun i H x H'=>∃p v,x=.ref p∧H p=none∧H'=upd H p (.tup [.int i,v])∧∀xs,SqT K H a xs→xs[i]?=some v,fun i H=>∃xs,SqT K H a xs∧xs.length≤i⟩
theorem ZnI {P:Program} {w:World} {K:PySem.W.Frag} {es:List Expr} {x1} {pos:Pos} (a e it:Addr) (hne:e≠it) (ha:a≠e) (hb:a≠it):Znu P w K (.Tuple es x1 pos) (Ite K a) [e,it] e (fun i h=>(∃old,IsEnum h e it i old)∧h.IsTupleIter it a i) where
 mem:=by simp
 obj:=fun i h st b hb=>by
  obtain ⟨⟨old,st1⟩,o,e1,c,d⟩:=st
  have q:b=e∨b=it:=by simpa using hb
  rcases q with rfl | rfl
  ·exact ⟨_,st1,fun v z=>by
    have z':Data.fields _=Data.cell v:=z
    cases z'⟩
  ·exact ⟨o,e1,fun v z=>by rw [d] at z; cases z⟩
 keep:=fun i h h' st k=>by
  obtain ⟨⟨old,st1⟩,o,e1,r⟩:=st
  exact ⟨⟨old,k e (by simp) _ st1⟩,o,k it (by simp) o e1,r⟩
 item:=by
  intro X hP hw hK hc i pins s σ H E I hf st hg
  subst hP hw hK
  obtain ⟨⟨old,st1⟩,st2⟩:=st
  obtain ⟨xs,x,hq,hx⟩:=hg
  obtain ⟨its,rv,p,hz⟩:=I.tuple hq
  obtain ⟨u,hu,ru⟩:=rv.get hx
  obtain ⟨f0,f1,f2,f3,f4,f5⟩:=hf e (by simp)
  obtain ⟨g0,g1,g2,g3,g4,g5⟩:=hf it (by simp)
  refine Zo8 st1 st2 (show s.heap.IsTuple a its.toArray from p) (x:=u) (by simpa using hu) hne fun h' out it' tp' sz' kk=>?_
  have hes:e<s.heap.objs.size:=Heap.lt_size st1
  have his:it<s.heap.objs.size:=by obtain ⟨o,q,_⟩:=st2; exact Heap.lt_size q
  refine ⟨_,rfl,wpAny_letOwnedTupleGo_enum out fun h2 e2 s2=>?_⟩
  replace s2:Heap.SameBut e h' h2:=s2
  have tp2:h2.get? s.heap.objs.size=some { cls:=.type "tuple",data:=.seq #[.int i s.toks,u] }:=s2.extBut _ _ (Jo hes) tp'
  have k2:∀b o,b≠e→b≠it→s.heap.get? b=some o→h2.get? b=some o:=fun b o q1 q2 q3=>s2.extBut b o q1 (kk b o q1 q2 q3)
  have hn:H s.heap.objs.size=none:=I.hok.fresh (Yd _)
  have nn:∀{b:Addr} {o:HO},H b=some o→b≠s.heap.objs.size:=fun q=>zl q hn
  have nch:∀{b:Addr},b∉[e,it]→b≠e∧b≠it:=fun hb=>⟨fun z=>hb (by simp [z]),fun z=>hb (by simp [z])⟩
  have new:ObjOk X.prog X.w (upd H s.heap.objs.size (.tup [.int i,x])) h2 s.heap.objs.size (.tup [.int i,x]):=⟨by show 2≤sizeLine; decide,[.int i s.toks,u],.cons ⟨_,rfl⟩ (.cons ru .nil),⟨_,tp2,rfl,_,rfl⟩⟩
  have I1:Inv X pins σ (upd H s.heap.objs.size (.tup [.int i,x])) { s with heap:=h2,toks:=s.toks+1 }:=by
   refine I.step (g':=s.gens) (d':=s.drawn) (ch:=[e,it]) (fun b hb=>?_) (fun b o _ _ hc e' _=>k2 b o (nch hc).1 (nch hc).2 e') (fun b o _ _ hc e' _=>⟨o.slots,k2 b o (nch hc).1 (nch hc).2 e'⟩) (fun b o _ e' n=>by rw [ZS (Yp (Heap.lt_size e'))]; exact n)
    (fun b o hc e'=>⟨o,k2 b o (nch hc).1 (nch hc).2 e'⟩) (fun b _ q=>by rw [ZS (nn q)]; exact q) (fun b _ _ q=>by rw [ZS (nn q)]; exact q) (fun b ps q=>⟨#[],by rw [ZS (nn q),q]; simp⟩) (fun m hm=>?_) (fun b v q=>?_) I.bare
   ·have z:b=e∨b=it:=by simpa using hb
    rcases z with rfl | rfl
    ·exact ⟨f3,f1,f4,f5⟩
    ·exact ⟨g3,g1,g4,g5⟩
   ·obtain ⟨o,es,ep,ho,r⟩:=hm
    exact ⟨o,es,ep,k2 _ o (Ne.symm f1) (Ne.symm g1) ho,r⟩
   ·by_cases hb:b=s.heap.objs.size
    ·subst hb; rw [zd] at q; cases q; exact new
    ·rw [ZS hb] at q
     refine (I.hok b v q).stay (fun c o hc z=>k2 c o ?_ ?_ z) (fun c z=>by rw [ZS (nn z)]; exact z) fun c _ z=>by rw [ZS (nn z)]; exact z
     ·rcases hc with z | z
      ·rw [z]; exact fun y=>by rw [y,f0] at q; cases q
      ·exact fun y=>by rw [y,f0] at z; cases z
     ·rcases hc with z | z
      ·rw [z]; exact fun y=>by rw [y,g0] at q; cases q
      ·exact fun y=>by rw [y,g0] at z; cases z
  refine ⟨.ref s.heap.objs.size,_,I1,rfl,⟨_,x,rfl,hn,rfl,fun ys hy=>by rw [I.tuple_inj hy hq]; exact hx⟩,⟨⟨_,by simpa using e2⟩,?_⟩,fun b hb=>?_⟩
  ·obtain ⟨o,q,r⟩:=it'
   exact ⟨o,s2.extBut _ _ (Ne.symm hne) q,r⟩
  ·have z:b=e∨b=it:=by simpa using hb
   rcases z with rfl | rfl
   ·rw [ZS (Yp hes)]; exact f0
   ·rw [ZS (Yp his)]; exact g0
 done:=by
  intro X hP hw hK hc i pins s σ H E I hf st hg
  subst hP hw hK
  obtain ⟨⟨old,st1⟩,st2⟩:=st
  obtain ⟨xs,hq,hx⟩:=hg
  obtain ⟨its,rv,p,hz⟩:=I.tuple hq
  obtain ⟨f0,f1,f2,f3,f4,f5⟩:=hf it (by simp)
  have hl:=rv.length
  exact ZrX (I.ok.hd hc) st1 st2 (show s.heap.IsTuple a its.toArray from p) (by simp; omega) fun h' eb=>⟨rfl,I.turned (t':=s.toks) (fun b o hb e=>eb b o hb e) f0 f1 f3 f4 f5⟩
 self:=fun _ _ _ _ _ st h=>by
  obtain ⟨⟨old,st1⟩,_⟩:=st
  exact wpAny_pyIter_enum st1 h
end
end L2
namespace L2
open PySem PySem.Spec PyProof.Rows
section
variable {X:Cx}
def ZAx (K:PySem.W.Frag) (ta:TA):TI:=fun σ H R=>ta σ H fun vs H1=>∃a,vs=[.ref a]∧(∃xs,SqT K H1 a xs)∧R (Ite K a) H1
theorem ZuG {l:Expr} {ta:TA} {es:List Expr} {x1} {p pos tp:Pos} (hg:Gl X "enumerate") (hm:X.mg "enumerate"=none) (ha:PA X [l] ta) (hs:starEach [l] X.env=[(false,eval l X.env)]:=by rfl):PI X (.Tuple es x1 tp) (.Call (.Name "enumerate" p) [l] [] pos) (ZAx X.K ta):=by
 intro pins s σ H R I h
 refine Call_ (ZjA I hg hm boot_enumerate (PyProof.Rows.callWith_type1 (thn (ha pos pins s σ H _ I h) fun us s1 ⟨vs,H1,I1,r1,q1⟩=>?_) hs rfl))
 obtain ⟨a,e,⟨xs,hq⟩,q⟩:=q1
 subst e
 obtain ⟨u,rfl,ru⟩:=ZiL r1
 cases ru
 obtain ⟨its,rv,t1,hz⟩:=I1.tuple hq
 have T1:s1.heap.IsTuple a its.toArray:=t1
 have al:a<s1.heap.objs.size:=by obtain ⟨o,z,_⟩:=T1; exact Heap.lt_size z
 refine Zpl T1 fun h' e' i' z' k'=>wpAny_pyIter_enum (s:={ s1 with heap:=h' }) e' ?_
 have I2:Inv X pins σ H1 { s1 with heap:=h' }:=I1.kept (t':=s1.toks) k'
 refine ⟨s1.heap.objs.size+1,[s1.heap.objs.size+1,s1.heap.objs.size],_,_,H1,rfl,I2,ZnI a _ _ (Nat.succ_ne_self _) (Yp (Jh al)) (Yp al),⟨⟨_,e'⟩,i'⟩,fun b hb=>?_,q⟩
 have z:b=s1.heap.objs.size+1∨b=s1.heap.objs.size:=by simpa using hb
 have hb':s1.heap.objs.size≤b:=z.elim (fun y=>by rw [y]; exact Jq _) fun y=>by rw [y]; exact Yd _
 exact I1.fpOk hb' (I1.hok.fresh hb')
end
end L2
namespace L2.MM
open PySem PySem.Spec PyProof.Rows
section
variable {X:Cx}
def forE (i j:Nat) (body:SM):Nat→List D→SM
 | _,[]=>fun ρ θ=>.ok (.nx,ρ) θ
 | k,x::r=>fun ρ θ=>(body ((ρ.set i (.val (.int (k:Nat)))).set j (.val x)) θ).bind (Zgl (forE i j body (k+1) r))
def ZoN (fa:AM) (i j:Nat) (body:SM):SM:=fun ρ θ=>(fa ρ θ).bind fun ds θ=>match ds with
 | [.tup xs]=>forE i j body 0 xs ρ θ
 | _=>.bad
theorem ZrB {l:Expr} {body:List Stmt} {fa:AM} {fb:SM} {x y:Str} {x1} {p p1 p2 tp cp pos:Pos} (i j:Nat) (hN:X.N.Nodup) (hp:PassesOwn (model X.prog X.w) X.A X.env X.xe) (hm:X.mg "enumerate"=none) (ha:MA X [l] fa) (hb:MSs X body fb) (hc:X.calm=true:=by rfl)
  (hg:Gl X "enumerate":=by rfl) (hs:starEach [l] X.env=[(false,eval l X.env)]:=by rfl)
  (hi:X.N[i]?=some x:=by rfl) (hx:Loc X.env.scope x:=by first | exact Or.inl rfl | exact Or.inr rfl) (hf:X.fn x=true∨X.env.scope.names.lookup x=some .local:=by first | exact .inl rfl | exact .inr rfl)
  (hj:X.N[j]?=some y:=by rfl) (hy:Loc X.env.scope y:=by first | exact Or.inl rfl | exact Or.inr rfl) (hf':X.fn y=true∨X.env.scope.names.lookup y=some .local:=by first | exact .inl rfl | exact .inr rfl)
  (hse:∀z,foldedSetIterable (.Call (.Name "enumerate" p) [l] [] cp) X.env z=pure z:=by intro _; rfl)
  (ha1:(assignEach [.Name x p1,.Name y p2] X.env).map (·.2)=assign (.Name x p1) X.env::(assignEach [.Name y p2] X.env).map (·.2):=by rfl) (ha2:(assignEach [.Name y p2] X.env).map (·.2)=assign (.Name y p2) X.env::(assignEach [] X.env).map (·.2):=by rfl)
  (hn:(assignEach [.Name x p1,.Name y p2] X.env).length=2:=by rfl) (hst:(assignEach [.Name x p1,.Name y p2] X.env).findIdx? (·.1)=none:=by rfl) :
  MS X (.For (.Tuple [.Name x p1,.Name y p2] x1 tp) (.Call (.Name "enumerate" p) [l] [] cp) body [] pos) (ZoN fa i j fb):=
 PS.imp (Zoh hp hc (ZuG hg hm ha hs) (ZuH hc (Zkm (Zgb hN hi hx hf) (Zkm (Zgb hN hj hy hf') Zro ha2) ha1) hn hst) hb hse) fun Dn σ H h=>by
 obtain ⟨B,θ,ρ,F,w⟩:=h
 refine Zbi (ZnX F w) ?_
 rintro vs H1 ⟨B1,θ1,ds,E1,F1,rd,w1⟩
 split at w1
 ·rename_i xs
  obtain ⟨v,rfl,rv⟩:=rd.one
  obtain ⟨a,us,rfl,g1,okA,ru⟩:=rv
  refine ⟨a,rfl,⟨us,SqT.of g1⟩,fun k m σ H=>∃B θ ρ,Frm X.cl B θ ρ σ H∧RepV B H (.tup xs) (.ref a)∧m=xs.length-k∧k≤xs.length∧wpS X σ B H (forE i j fb k (xs.drop k) ρ θ) Dn,⟨xs.length,B1,θ1,ρ,F1,⟨a,us,rfl,g1,okA,ru⟩,rfl,YB _,w1⟩,?_⟩
  rintro k m σ2 H2 ⟨B2,θ2,ρ2,F2,rv2,rfl,hk,w2⟩
  obtain ⟨a',us2,e2,g2,ok2,ru2⟩:=id rv2
  cases e2
  by_cases hlt:k<xs.length
  ·rw [Yv hlt] at w2
   unfold forE at w2
   obtain ⟨v,q1,q2⟩:=ru2.get (List.getElem?_eq_getElem hlt)
   refine .inr ⟨⟨us2,v,SqT.of g2,q1⟩,fun σ' H'=>∃B' θ' ρ',ExtS B2 B' H2 H'∧Frm X.cl B' θ' ρ' σ' H'∧wpS X σ' B' H' (forE i j fb (k+1) (xs.drop (k+1)) ρ' θ') Dn,?_,fun z H' hz=>?_⟩
   ·rintro σ' H' ⟨B',θ',ρ',E',F',w'⟩
    exact ⟨xs.length-(k+1),by omega,B',θ',ρ',F',rv2.ext E',rfl,hlt,w'⟩
   ·obtain ⟨t,v',rfl,ht,rfl,hv⟩:=hz
    have:=hv us2 (SqT.of g2)
    rw [q1] at this
    cases this
    have E3:=Zc2 F2.good ht (.tup [.int k,v])
    have F3:=F2.ext E3 (Ze7 F2.good ht (.tup [.int k,v]))
    refine ⟨t,[.int k,v],rfl,SqT.of zd,rfl,.int k,[v],rfl,v,[],rfl,rfl,?_⟩
    have F4:=(F3.set i (d:=.int (k:Nat)) (v:=.int k) rfl).set j (q2.ext E3.toExtS)
    refine ⟨B2,θ2,_,F4,?_⟩
    exact wpS.trans (wpS.loop w2) E3.toExtS
  ·have e:k=xs.length:=by omega
   subst e
   rw [Ja] at w2
   unfold forE at w2
   exact .inl ⟨⟨us2,SqT.of g2,by rw [ru2.len]; exact Yd _⟩,Zen F2 w2⟩
 ·exact w1.elim
end
end L2.MM
namespace L2
open PySem PySem.Spec PyProof.Rows
section
variable {X:Cx} {pins:List (Addr×Obj)} {σ:St} {H:Hp} {s:Shared} {a:Addr} {kvs:List (Key×V)} {k:Key} {z:V} {u r:Value} {A:Around} {E:Value→Shared→Prop}
theorem Zvi {Q:Value→Shared→Prop} (I:Inv X pins σ H s) (e:H a=some (.dK kvs)) (ry:RelV (kV k) u) (rz:RelV z r) (hl:kvs.length<sizeLine)
  (h1:∀v w' s',valV kvs k=some v→Inv X pins σ H s'→RelV v w'→Q w' s') (h2:valV kvs k=none→∀s',Inv X pins σ (upd H a (.dK (ZcM kvs k z))) s'→Q r s'):wpAny (model X.prog X.w) A (call (.builtin "dict.setdefault") [.ref a,u,r]) Q E s:=by
 obtain ⟨z1,hd,vs,rel,dd⟩:=Zms I.hok e
 have hv:vs.length≤sizeLine:=by rw [←rel.length]; exact z1
 refine call_meetsIn PySem.F.slot_dict_setdefault dd.typeIs PySem.F.entry_dict_setdefault (PySem.F.args_dict_setdefault_3 _ _ _) (kt_meets_setdefault (z9 X.prog X.w) a (Zgp ry) hd r) ⟨vs,dd,hv,fun v q=>?_,fun q h' dd' hs=>?_⟩
 ·cases l:valV kvs k with
  | none=>
   have:valueAt vs k=none:=RelO.none_of (by rw [←l]; exact rel.val k)
   rw [this] at q
   cases q
  | some v0=>
   obtain ⟨w1,hw,r1⟩:=RelO.some_of (v:=v0) (o:=valueAt vs k) (by rw [←l]; exact rel.val k)
   have z2:w1=v:=by rw [hw] at q; injection q
   subst z2
   exact h1 v0 w1 _ l (I.tok _) r1
 ·have l:valV kvs k=none:=by
   cases l:valV kvs k with
   | none=>rfl
   | some v0=>
    obtain ⟨w',hw,rw'⟩:=RelO.some_of (v:=v0) (o:=valueAt vs k) (by rw [←l]; exact rel.val k)
    rw [hw] at q
    cases q
  have hl2:(ZcM kvs k z).length≤sizeLine:=by have:=Ze5 kvs k z; omega
  have he:∃q,h'.get? a=some q:=let ⟨q,_,_,hq,_⟩:=dd'; ⟨q,hq⟩
  exact h2 l _ (Zgt I (by rw [e]; exact True.intro) hs he (ZjK hl2 hd (rel.put k rz) dd'))
end
def Zuh (td ty tx:TE):TE:=fun σ H Q=>td σ H fun x H1=>∃a,x=.ref a∧IsD H1 a∧ty σ H1 fun y H2=>tx σ H2 fun z H3=>∃kvs k,H3 a=some (.dK kvs)∧y=kV k∧kvs.length<sizeLine∧
 (∀v,valV kvs k=some v→Q v H3)∧(valV kvs k=none→Q z (upd H3 a (.dK (ZcM kvs k z))))
theorem Zoo {X:Cx} {o e f:Expr} {apos cpos:Pos} {td ty tx:TE} (ho:PE X o td) (he:PE X e ty) (hf:PE X f tx) (m:M2 X o "setdefault" apos e f cpos):PE X (.Call (.Attribute o "setdefault" apos) [e,f] [] cpos) (Zuh td ty tx):=by
 intro pins s σ H Q I h
 refine wpAny_Call_method m.base m.few m.line PySem.F.plainAttrs_dict PySem.F.slot_dict_setdefault PySem.F.type_dict_setdefault (thn (ho pins s σ H _ I h) fun u s1 ⟨x,H1,I1,rx,a,ex,d,q1⟩=>?_)
 subst ex
 cases (show u=Value.ref a from rx)
 obtain ⟨t1,t2,_⟩:=Zlo I1 d
 refine ⟨t1,t2,?_⟩
 rw [m.trees]
 refine Calls.callWith_builtin rfl (Calls.evalArgs_plain (Calls.spliced_cons (thn (he pins s1 σ H1 _ I1 q1) fun iv s2 ⟨y,H2,I2,ry,q2⟩=>Calls.spliced_cons (thn (hf pins s2 σ H2 _ I2 q2) fun fv s3 ⟨z,H3,I3,rz,kvs,k,ea,ey,hl,q3,q4⟩=>Calls.spliced_nil ?_))))
 subst ey
 exact Zvi I3 ea ry rz hl (fun v w' s4 l I4 rw'=>⟨v,H3,I4,rw',q3 v l⟩) fun l s4 I4=>⟨z,_,I4,rz,q4 l⟩
end L2
namespace L2.MM
open PySem PySem.Spec PyProof.Rows
def valD (kvs:List (Key×D)) (k:Key):Option D:=(kvs.find? fun kv=>decide (kv.1=k)).map (·.2)
def putD (kvs:List (Key×D)) (k:Key) (v:D):List (Key×D):=
 if (kvs.any fun kv=>decide (kv.1=k))=true then kvs.map (fun kv=>if kv.1=k then (kv.1,v) else kv) else kvs++[(k,v)]
def dropD (kvs:List (Key×D)) (k:Key):List (Key×D):=kvs.filter fun kv=>decide (kv.1≠k)
def keyD:D→Option Key
 | .int n=>some (.inl n)
 | .str x=>some (.inr x)
 | _=>none
def dkOf (θ:Sto):D→Option (Nat×List (Key×D))
 | .ref l=>match θ[l]? with
  | some (.dK kvs)=>some (l,kvs)
  | _=>none
 | _=>none
section
variable {B:Bx} {H:Hp}
theorem RepKV.valD (k:Key):∀{ks:List (Key×D)} {vs:List (Key×V)},RepKV B H ks vs→(L2.MM.valD ks k=Option.none∧valV vs k=Option.none)∨∃d v,L2.MM.valD ks k=some d∧valV vs k=some v∧RepV B H d v
 | _,_,.nil=>.inl ⟨rfl,rfl⟩
 | (k1,d1)::ks,(k2,v2)::vs,.cons ⟨h1,h2⟩ t=>by
  cases (show k1=k2 from h1)
  by_cases e:k1=k
  ·refine .inr ⟨d1,v2,?_,?_,h2⟩<;>simp [L2.MM.valD,valV,List.find?_cons,e]
  ·have:=RepKV.valD k t
   simpa [L2.MM.valD,valV,List.find?_cons,e] using this
theorem RepKV.any (k:Key):∀{ks:List (Key×D)} {vs:List (Key×V)},RepKV B H ks vs→(ks.any fun kv=>decide (kv.1=k))=(vs.any fun kv=>decide (kv.1=k))
 | _,_,.nil=>rfl
 | (k1,d1)::ks,(k2,v2)::vs,.cons ⟨h1,h2⟩ t=>by
  cases (show k1=k2 from h1)
  rw [YF,YF,RepKV.any k t]
theorem RepKV.snoc {k:Key} {d:D} {v:V} (r:RepV B H d v):∀{ks:List (Key×D)} {vs:List (Key×V)},RepKV B H ks vs→RepKV B H (ks++[(k,d)]) (vs++[(k,v)])
 | _,_,.nil=>.cons ⟨rfl,r⟩ .nil
 | _,_,.cons h t=>.cons h (RepKV.snoc r t)
theorem RepKV.over {k:Key} {d:D} {v:V} (r:RepV B H d v):∀{ks:List (Key×D)} {vs:List (Key×V)},RepKV B H ks vs→RepKV B H (ks.map fun kv=>if kv.1=k then (kv.1,d) else kv) (vs.map fun kv=>if kv.1=k then (kv.1,v) else kv)
 | _,_,.nil=>.nil
 | (k1,d1)::ks,(k2,v2)::vs,.cons ⟨h1,h2⟩ t=>by
  cases (show k1=k2 from h1)
  rw [Yf,Yf]
  refine .cons ?_ (RepKV.over r t)
  by_cases e:k1=k
  ·rw [if_pos (show (k1,d1).1=k from e),if_pos (show (k1,v2).1=k from e)]; exact ⟨rfl,r⟩
  ·rw [if_neg (show ¬(k1,d1).1=k from e),if_neg (show ¬(k1,v2).1=k from e)]; exact ⟨rfl,h2⟩
theorem RepKV.putD {k:Key} {d:D} {v:V} (r:RepV B H d v) {ks:List (Key×D)} {vs:List (Key×V)} (h:RepKV B H ks vs):RepKV B H (L2.MM.putD ks k d) (ZcM vs k v):=by
 unfold L2.MM.putD ZcM
 rw [h.any k]
 split
 ·exact h.over r
 ·exact h.snoc r
theorem RepKV.dropD (k:Key):∀{ks:List (Key×D)} {vs:List (Key×V)},RepKV B H ks vs→RepKV B H (L2.MM.dropD ks k) (ZfC vs k)
 | _,_,.nil=>.nil
 | (k1,d1)::ks,(k2,v2)::vs,.cons ⟨h1,h2⟩ t=>by
  cases (show k1=k2 from h1)
  have ih:=RepKV.dropD k t
  unfold L2.MM.dropD ZfC at ih ⊢
  by_cases e:k1=k
  ·rw [YM (by simpa using e),YM (by simpa using e)]; exact ih
  ·rw [YN (by simpa using e),YN (by simpa using e)]; exact .cons ⟨rfl,h2⟩ ih
theorem keyD_rep {d:D} {v:V} {k:Key} (r:RepV B H d v) (h:keyD d=some k):v=kV k:=by
 cases d with
 | int n=>cases h; exact r
 | str x=>cases h; exact r
 | _=>cases h
theorem ZdH {cl:Mo} {θ:Sto} (G:Good cl B θ H) {d:D} {v:V} {l:Nat} {kvs:List (Key×D)} (r:RepV B H d v) (h:dkOf θ d=some (l,kvs)):l<B.n∧v=.ref (B.m l)∧∃vs,H (B.m l)=some (.dK vs)∧RepKV B H kvs vs:=by
 cases d with
 | ref k=>
  simp only [dkOf] at h
  split at h
  ·rename_i kvs' e
   cases h
   obtain ⟨hl,rfl⟩:=r
   obtain ⟨vs,h1,h2⟩:=G.cel _ _ e
   exact ⟨hl,rfl,vs,h1,h2⟩
  ·cases h
 | _=>cases h
end
section
variable {X:Cx}
theorem ZgE {k:Nat} {A:Around} (hr:Room k A):A.units+1<cLine:=by have:=hr.un; omega
def Zht (fi fo:EM):EM:=fun ρ θ=>(fi ρ θ).bind fun y θ=>(fo ρ θ).bind fun d θ=>match keyD y,dkOf θ d with
 | some k,some (_,kvs)=>.ok (.bl (valD kvs k).isSome) θ
 | _,_=>.bad
theorem ZrZ {fi fo:EM} (σ:St) (H:Hp) (Q:VK) (h:tM X (Zht fi fo) σ H Q):Zwe (tM X fi) (tM X fo) σ H Q:=by
 obtain ⟨B,θ,ρ,F,w⟩:=h
 refine ZJ (step F w) ?_
 rintro y H1 ⟨B1,θ1,dy,E1,F1,ry,w1⟩
 refine ZJ (step F1 w1) ?_
 rintro v H2 ⟨B2,θ2,d,E2,F2,rd,w2⟩
 split at w2
 ·rename_i k l kvs ek ed
  obtain ⟨hl,rfl,vs,h1,h2⟩:=ZdH F2.good rd ed
  cases keyD_rep ry ek
  refine ⟨_,valV vs k,rfl,DGet.k h1,?_⟩
  have e:(valD kvs k).isSome=(valV vs k).isSome:=by
   rcases h2.valD k with ⟨q1,q2⟩ | ⟨d,v,q1,q2,_⟩<;>(rw [q1,q2]; rfl)
  rw [←e]
  exact ZR (Rel:=RepV) F2.good (show RepV B2 H2 (.bl (valD kvs k).isSome) (.bl (valD kvs k).isSome) from rfl) w2
 ·exact w2.elim
theorem Zld {i o:Expr} {fi fo:EM} {pos:Pos} {k:Nat} (hr:Room k X.A) (hi:ME X i fi) (ho:ME X o fo) (hm:behindInMarks .In o=false:=by rfl):MT X (.Compare i [.In] [o] pos) (ZD (Zht fi fo)):=by
 refine PT.imp (Zod (ZuQ (ZgE hr) hi ho) hm) fun σ H Q h=>?_
 exact ZrZ σ H _ (ZhP σ H Q h)
def Zmb (fo fe:EM):EM:=fun ρ θ=>(fo ρ θ).bind fun d θ=>match dkOf θ d with
 | none=>.bad
 | some _=>(fe ρ θ).bind fun y θ=>match keyD y,dkOf θ d with
  | some k,some (l,kvs)=>match valD kvs k with
   | some v=>.ok v (θ.set l (.dK (dropD kvs k)))
   | none=>.bad
  | _,_=>.bad
theorem Zl6 {o e:Expr} {fo fe:EM} {apos cpos:Pos} (ho:ME X o fo) (he:ME X e fe) (m:M1 X o "pop" apos e cpos):ME X (.Call (.Attribute o "pop" apos) [e] [] cpos) (Zmb fo fe):=by
 refine PE.imp (Zop ho he m) fun σ H Q h=>?_
 obtain ⟨B,θ,ρ,F,w⟩:=h
 refine ZJ (step F w) ?_
 rintro v H1 ⟨B1,θ1,d,E1,F1,rd,w1⟩
 split at w1
 ·exact w1.elim
 ·rename_i q ed
  obtain ⟨l,kvs⟩:=q
  obtain ⟨hl,rfl,vs,h1,h2⟩:=ZdH F1.good rd ed
  refine ⟨_,rfl,.inl ⟨vs,.inl h1⟩,?_⟩
  refine ZJ (step F1 w1) ?_
  rintro y H2 ⟨B2,θ2,dy,E2,F2,ry,w2⟩
  split at w2
  ·rename_i k l2 kvs2 ek ed2
   obtain ⟨hl2,e2,vs2,h3,h4⟩:=ZdH F2.good (rd.ext E2.toExtS) ed2
   cases keyD_rep ry ek
   have e3:B1.m l=B2.m l2:=by injection e2
   rw [e3]
   rcases h4.valD k with ⟨q1,q2⟩ | ⟨dv,v,q1,q2,rv⟩
   ·rw [q1] at w2; exact w2.elim
   ·rw [q1] at w2
    refine ⟨vs2,k,v,h3,rfl,q2,?_⟩
    have E3:=ZdF F2.good hl2 (.dK (ZfC vs2 k))
    have G3:=Zdl F2.good hl2 (o:=.dK (ZfC vs2 k)) (c:=.dK (dropD kvs2 k)) ⟨_,zd,(h4.dropD k).ext E3.toExtS⟩
    exact w2 _ _ _ E3 G3 (rv.ext E3.toExtS)
  ·exact w2.elim
def Zli (fo fe ff:EM):EM:=fun ρ θ=>(fo ρ θ).bind fun d θ=>match dkOf θ d with
 | none=>.bad
 | some _=>(fe ρ θ).bind fun y θ=>(ff ρ θ).bind fun z θ=>match keyD y,dkOf θ d with
  | some k,some (l,kvs)=>if kvs.length<BIG then (match valD kvs k with
   | some v=>.ok v θ
   | none=>.ok z (θ.set l (.dK (putD kvs k z)))) else .bad
  | _,_=>.bad
theorem ZoJ {o e f:Expr} {fo fe ff:EM} {apos cpos:Pos} (ho:ME X o fo) (he:ME X e fe) (hf:ME X f ff) (m:M2 X o "setdefault" apos e f cpos):ME X (.Call (.Attribute o "setdefault" apos) [e,f] [] cpos) (Zli fo fe ff):=by
 refine PE.imp (Zoo ho he hf m) fun σ H Q h=>?_
 obtain ⟨B,θ,ρ,F,w⟩:=h
 refine ZJ (step F w) ?_
 rintro v H1 ⟨B1,θ1,d,E1,F1,rd,w1⟩
 split at w1
 ·exact w1.elim
 ·rename_i q ed
  obtain ⟨l,kvs⟩:=q
  obtain ⟨hl,rfl,vs,h1,h2⟩:=ZdH F1.good rd ed
  refine ⟨_,rfl,.inl ⟨vs,.inl h1⟩,?_⟩
  refine ZJ (step F1 w1) ?_
  rintro y H2 ⟨B2,θ2,dy,E2,F2,ry,w2⟩
  refine ZJ (step F2 w2) ?_
  rintro z H3 ⟨B3,θ3,dz,E3,F3,rz,w3⟩
  split at w3
  ·rename_i k l2 kvs2 ek ed2
   obtain ⟨hl2,e2,vs2,h3,h4⟩:=ZdH F3.good ((rd.ext E2.toExtS).ext E3.toExtS) ed2
   cases keyD_rep ry ek
   have e3:B1.m l=B3.m l2:=by injection e2
   rw [e3]
   split at w3
   ·rename_i hb
    refine ⟨vs2,k,h3,rfl,?_,fun v hv=>?_,fun hn=>?_⟩
    ·have:=zM (n:=kvs2.length+1) hb
     rw [RepKV.len h4]; omega
    ·rcases h4.valD k with ⟨q1,q2⟩ | ⟨dv,v',q1,q2,rv⟩
     ·rw [q2] at hv; cases hv
     ·rw [q2] at hv; cases hv
      rw [q1] at w3
      exact ZR (Rel:=RepV) F3.good rv w3
    ·rcases h4.valD k with ⟨q1,q2⟩ | ⟨dv,v',q1,q2,rv⟩
     ·rw [q1] at w3
      have E4:=ZdF F3.good hl2 (.dK (ZcM vs2 k z))
      have G4:=Zdl F3.good hl2 (o:=.dK (ZcM vs2 k z)) (c:=.dK (putD kvs2 k dz)) ⟨_,zd,(h4.putD rz).ext E4.toExtS⟩
      exact w3 _ _ _ E4 G4 (rz.ext E4.toExtS)
     ·rw [q2] at hn; cases hn
   ·exact w3.elim
  ·exact w3.elim
end
end L2.MM
namespace My
open PySem L2 L2.MM
noncomputable section
def ZjT:SM:=(Zr (Z1 2 (mSl (Zd 1) ZcC (ZeQ (mCB Zeu (Zc (Zd 0) Zi)))))
 (Zr (ZA ["Pile"] "row" (Zd 0) (mOp za (Zz ["Pile"] "row" (Zd 0)) (Zd 2)))
 (ZM (mCB lenG (Zc (Zd 2) Zi)))))
def Zgc:GM:=ZO 2 3 ZjT
def Zdo:SM:=(Zr (Z1 2 (mCB ZrE (Zc (Zd 1) (Zc (mC (.int 0)) Zi))))
 (Zr (Z1 3 (mSl (Zz ["Pile"] "row" (Zd 0)) ZcC (ZeQ (Zd 2))))
 (Zr (ZA ["Pile"] "row" (Zd 0) (mSl (Zz ["Pile"] "row" (Zd 0)) (ZeQ (Zd 2)) ZcC))
 (ZM (Zd 3)))))
def Zcn:GM:=ZO 2 4 Zdo
def ZkQ:SM:=(ZM (mOp gtM (mCB zF (Zc (Zd 0) (Zc (Zd 1) Zi))) (mC (.int 0))))
def Zco:GM:=ZO 2 2 ZkQ
def Zef:SM:=(ZM (mCB Zco (Zc (Zz ["End"] "nxt" (Zd 0)) (Zc (Zz ["End"] "behind" (Zd 0)) Zi))))
def Zbl:GM:=ZO 1 1 Zef
def Zjh:SM:=(ZM (mOp eqM (mCB Zfz (Zc (mOp ixM (Zd 0) (mC (.int 4))) (Zc (Zd 1) Zi))) (mC (.int 1))))
def ZV:GM:=ZO 2 2 Zjh
def ZcU:SM:=(mIf (zR (mCB ZV (Zc (Zd 0) (Zc (mC (.int 16)) Zi)))) (ZM (mOp za (Zd 1) (ZbA (Zc (mOp ixM (Zd 0) (mC (.int 3))) (Zc (mC (.int 0)) (Zc (mC (.int 4)) (Zc (mC (.int 0)) (Zc (mC (.int 0)) (Zc (ZbA Zi) Zi))))))))) ZK)
def ZdU:SM:=(Zr (Z1 1 (ZbA (Zc (mOp ixM (Zd 0) (mC (.int 1))) (Zc (mOp ixM (Zd 0) (mC (.int 0))) Zi))))
 (Zr ZcU
 (ZM (mOp za (Zd 1) (ZbA (Zc (mC (.int 0)) (Zc (mCB zk (Zc (mOp ixM (Zd 0) (mC (.int 2))) (Zc (mCB ZcG (Zc (Zd 0) Zi)) Zi))) (Zc (mOp za (mC (.int 4)) (mC (.int 16))) (Zc (mC (.int 0)) (Zc (mC (.int 0)) (Zc (ZbA Zi) Zi)))))))))))
def ZaO:GM:=ZO 1 2 ZdU
def ZbB:SM:=(mIf (Zeb (zR (mCB ZV (Zc (Zd 1) (Zc (mC (.int 4)) Zi))))) (ZA ["End"] "owed_reset" (Zd 0) (mCB ZaO (Zc (Zd 1) Zi))) ZK)
def Zca:SM:=ZbB
def ZY:GM:=ZO 2 2 Zca
def Zdt:SM:=(zn (mCB ZY (Zc (Zd 0) (Zc (Zd 1) Zi))))
def ZaF:GM:=ZO 2 2 Zdt
def Zfh:SM:=(mIf (ZD (mOp neM (mOp ixM (Zd 1) (mC (.int 6))) (mC (.int 0)))) (ZA ["End"] "most" (Zd 0) (mOp ixM (Zd 1) (mC (.int 6)))) ZK)
def Zgy:SM:=(Zr (ZA ["End"] "rcv" (Zd 0) (mCB zk (Zc (mOp ixM (Zd 1) (mC (.int 2))) (Zc (mC (.int 1)) Zi))))
 (Zr (ZA ["End"] "wnd" (Zd 0) (mOp ixM (Zd 1) (mC (.int 5))))
 (Zr (ZA ["End"] "told" (Zd 0) (mOp ixM (Zd 1) (mC (.int 2))))
 (Zr (ZA ["End"] "told_by" (Zd 0) (ZfJ (zR (mCB ZV (Zc (Zd 1) (Zc (mC (.int 16)) Zi)))) (mOp ixM (Zd 1) (mC (.int 3))) (mC (.int 0))))
 Zfh))))
def ZbP:GM:=ZO 2 2 Zgy
def zX:SM:=(mIf (zR (mCB ZV (Zc (Zd 1) (Zc (mC (.int 4)) Zi)))) Zgk ZK)
def Zaw:SM:=(mIf (zR (mCB ZV (Zc (Zd 1) (Zc (mC (.int 2)) Zi)))) (Zr (ZA ["End"] "theirs" (Zd 0) (mOp ixM (Zd 1) (mC (.int 0))))
   (Zr (zn (mCB ZbP (Zc (Zd 0) (Zc (Zd 1) Zi))))
   (ZA ["End"] "state" (Zd 0) (mC (.str "syn come"))))) ZK)
def Zav:SM:=(mIf (zR (mCB ZV (Zc (Zd 1) (Zc (mC (.int 16)) Zi)))) (zn (mCB ZY (Zc (Zd 0) (Zc (Zd 1) Zi)))) Zaw)
def Zaj:SM:=(Zr zX
 Zav)
def zx:GM:=ZO 2 2 Zaj
def ZeV:SM:=(ZM (ZcI (mOp neM (Zz ["End"] "nxt" (Zd 0)) (Zz ["End"] "first" (Zd 0))) (mOp eqM (mOp ixM (Zd 1) (mC (.int 3))) (mCB zk (Zc (Zz ["End"] "first" (Zd 0)) (Zc (mC (.int 1)) Zi))))))
def ZbH:GM:=ZO 2 2 ZeV
def Zam:SM:=(mIf (zR (mCB ZV (Zc (Zd 1) (Zc (mC (.int 16)) Zi)))) (Zr (ZA ["End"] "una" (Zd 0) (mOp ixM (Zd 1) (mC (.int 3))))
  (Zr (ZA ["End"] "state" (Zd 0) (mC (.str "open")))
  (ZA ["End"] "owes_answer" (Zd 0) (mC (.bl true))))) (Zr (ZA ["End"] "state" (Zd 0) (mC (.str "syn come")))
  (Zr (zn (mCB Z7 (Zc (Zd 0) (Zc (Zd 2) Zi))))
  (ZA ["End"] "owes_syn" (Zd 0) (mC (.bl true))))))
def ZaJ:SM:=Zam
def zL:GM:=ZO 3 3 ZaJ
def ZeF:SM:=(mIf (zR (mCB ZV (Zc (Zd 1) (Zc (mC (.int 16)) Zi)))) (Zr (ZA ["End"] "state" (Zd 0) (mC (.str "closed")))
  (ZA ["End"] "error" (Zd 0) (mC (.str "refused")))) ZK)
def ZfQ:SM:=ZeF
def Ze0:GM:=ZO 2 2 ZfQ
def zI:SM:=(mIf (zR (mCB ZV (Zc (Zd 1) (Zc (mC (.int 2)) Zi)))) (Zr (zn (mCB ZbP (Zc (Zd 0) (Zc (Zd 1) Zi))))
    (zn (mCB zL (Zc (Zd 0) (Zc (Zd 1) (Zc (Zd 2) Zi)))))) ZK)
def Z5:SM:=(mIf (zR (mCB ZV (Zc (Zd 1) (Zc (mC (.int 4)) Zi)))) (zn (mCB Ze0 (Zc (Zd 0) (Zc (Zd 1) Zi)))) zI)
def ZX:SM:=(mIf (ZfK (zR (mCB ZV (Zc (Zd 1) (Zc (mC (.int 16)) Zi)))) (Zeb (zR (mCB ZbH (Zc (Zd 0) (Zc (Zd 1) Zi)))))) (zn (mCB ZY (Zc (Zd 0) (Zc (Zd 1) Zi)))) Z5)
def Z4:SM:=ZX
def ZU:GM:=ZO 3 3 Z4
def Zee:SM:=(ZM (ZgU leM ltM (mC (.int 0)) (mCB zF (Zc (Zd 1) (Zc (Zz ["End"] "rcv" (Zd 0)) Zi))) (mCB zP (Zc (Zd 0) Zi))))
def zo:GM:=ZO 2 2 Zee
def ZfR:SM:=(mIf (ZD (mOp eqM (Zd 2) (mC (.int 0)))) (ZM (ZgU leM leM (mC (.int 0)) (mCB zF (Zc (mOp ixM (Zd 1) (mC (.int 2))) (Zc (Zz ["End"] "rcv" (Zd 0)) Zi))) (mC (.int 64)))) ZK)
def Zit:SM:=(Zr (Z1 2 (mCB ZcG (Zc (Zd 1) Zi)))
 (Zr ZfR
 (Zr (Z1 3 (mCB zk (Zc (mOp ixM (Zd 1) (mC (.int 2))) (Zc (mOp Zdc (Zd 2) (mC (.int 1))) Zi))))
 (ZM (Znc (mCB zo (Zc (Zd 0) (Zc (mOp ixM (Zd 1) (mC (.int 2))) Zi))) (mCB zo (Zc (Zd 0) (Zc (Zd 3) Zi))))))))
def ZgP:GM:=ZO 2 4 Zit
def zi:SM:=(mIf (mOr (Zeb (zR (mCB Zbl (Zc (Zd 0) Zi)))) (ZD (mOp neM (Zz ["End"] "una" (Zd 0)) (Zz ["End"] "nxt" (Zd 0))))) Zgk ZK)
def ZaM:SM:=(mIf (ZD (mOp eqM (Zz ["End"] "state" (Zd 0)) (mC (.str "last ack")))) (ZA ["End"] "state" (Zd 0) (mC (.str "closed"))) ZK)
def ZaL:SM:=(mIf (ZD (mOp eqM (Zz ["End"] "state" (Zd 0)) (mC (.str "closing")))) (Zr (ZA ["End"] "state" (Zd 0) (mC (.str "time wait")))
   (ZA ["End"] "since" (Zd 0) (Zd 1))) ZaM)
def ZaK:SM:=(mIf (ZD (mOp eqM (Zz ["End"] "state" (Zd 0)) (mC (.str "wait one")))) (ZA ["End"] "state" (Zd 0) (mC (.str "wait two"))) ZaL)
def zq:SM:=(Zr zi
 ZaK)
def ZT:GM:=ZO 2 2 zq
def ZeS:SM:=(Zr (ZA ["End"] "wnd" (Zd 0) (mOp ixM (Zd 1) (mC (.int 5))))
 (Zr (ZA ["End"] "told" (Zd 0) (mOp ixM (Zd 1) (mC (.int 2))))
 (ZA ["End"] "told_by" (Zd 0) (mOp ixM (Zd 1) (mC (.int 3))))))
def Zaz:GM:=ZO 2 2 ZeS
def Zab:SM:=(mIf (mOr (ZD (mOp eqM (Zz ["End"] "nxt" (Zd 0)) (Zz ["End"] "first" (Zd 0)))) (ZD (mOp neM (mOp ixM (Zd 1) (mC (.int 3))) (Zz ["End"] "nxt" (Zd 0))))) (Zr (zn (mCB ZY (Zc (Zd 0) (Zc (Zd 1) Zi))))
  (ZM (mC (.bl false)))) ZK)
def Zar:SM:=(Zr Zab
 (Zr (ZA ["End"] "una" (Zd 0) (mOp ixM (Zd 1) (mC (.int 3))))
 (Zr (ZA ["End"] "state" (Zd 0) (ZfJ (zR (Zz ["End"] "has_closed" (Zd 0))) (mC (.str "wait one")) (mC (.str "open"))))
 (Zr (zn (mCB Zaz (Zc (Zd 0) (Zc (Zd 1) Zi))))
 (ZM (mC (.bl true)))))))
def zt:GM:=ZO 2 2 Zar
def Zfg:SM:=(mIf (ZD (mOp eqM (mOp ixM (Zd 1) (mC (.int 2))) (Zz ["End"] "told" (Zd 0)))) (ZM (ZfB (mCB Zco (Zc (Zz ["End"] "told_by" (Zd 0)) (Zc (mOp ixM (Zd 1) (mC (.int 3))) Zi))))) ZK)
def Zgx:SM:=(Zr Zfg
 (ZM (mCB Zco (Zc (mOp ixM (Zd 1) (mC (.int 2))) (Zc (Zz ["End"] "told" (Zd 0)) Zi)))))
def Zdf:GM:=ZO 2 2 Zgx
def Zcd:SM:=(mIf (ZD (mOp neM (Zz ["End"] "una" (Zd 0)) (Zz ["End"] "nxt" (Zd 0)))) (zn (mCB Z7 (Zc (Zd 0) (Zc (Zd 2) Zi)))) ZK)
def Zaq:SM:=(mIf (zR (Zd 4)) (Zr (zn (mCB Zcn (Zc (Zz ["End"] "written" (Zd 0)) (Zc (mCB zF (Zc (Zd 3) (Zc (Zz ["End"] "una" (Zd 0)) Zi))) Zi))))
  (Zr (ZA ["End"] "una" (Zd 0) (Zd 3))
  Zcd)) ZK)
def Zap:SM:=(mIf (zR (mCB Zco (Zc (Zz ["End"] "una" (Zd 0)) (Zc (Zd 3) Zi)))) Zgk ZK)
def Zbg:SM:=(mIf (mOr (zR (Zd 4)) (zR (mCB Zdf (Zc (Zd 0) (Zc (Zd 1) Zi))))) (zn (mCB Zaz (Zc (Zd 0) (Zc (Zd 1) Zi)))) ZK)
def Zbf:SM:=(mIf (mOr (zR (Zd 5)) (ZD (mOp eqM (Zz ["End"] "wnd" (Zd 0)) (mC (.int 0))))) (ZA ["End"] "tries" (Zd 0) (mC (.int 0))) ZK)
def Za6:SM:=(Zr (Z1 3 (mOp ixM (Zd 1) (mC (.int 3))))
 (Zr (Z1 4 (mCB Zco (Zc (Zd 3) (Zc (Zz ["End"] "una" (Zd 0)) Zi))))
 (Zr Zaq
 (Zr Zap
 (Zr (Z1 5 (mOp eqM (Zz ["End"] "wnd" (Zd 0)) (mC (.int 0))))
 (Zr Zbg
 Zbf))))))
def zQ:GM:=ZO 3 6 Za6
def zz:SM:=(mIf (ZD (mOp eqM (Zz ["End"] "state" (Zd 0)) (mC (.str "syn come")))) (ZM (mCB zt (Zc (Zd 0) (Zc (Zd 1) Zi)))) ZK)
def Zac:SM:=(mIf (zR (mCB Zco (Zc (mOp ixM (Zd 1) (mC (.int 3))) (Zc (Zz ["End"] "nxt" (Zd 0)) Zi)))) (Zr (ZA ["End"] "owes_answer" (Zd 0) (mC (.bl true)))
  (ZM (mC (.bl false)))) ZK)
def zK:SM:=(Zr zz
 (Zr Zac
 (Zr (zn (mCB zQ (Zc (Zd 0) (Zc (Zd 1) (Zc (Zd 2) Zi)))))
 (Zr (zn (mCB ZT (Zc (Zd 0) (Zc (Zd 2) Zi))))
 (ZM (mOp neM (Zz ["End"] "state" (Zd 0)) (mC (.str "closed"))))))))
def ZZ:GM:=ZO 3 3 zK
def Zcw:SM:=(mIf (ZD (mOp eqM (Zz ["End"] "state" (Zd 0)) (mC (.str "time wait")))) Zgk ZK)
def Zcv:SM:=(mIf (ZD (mOp eqM (mOp ixM (Zd 1) (mC (.int 2))) (Zz ["End"] "rcv" (Zd 0)))) (Zr (ZA ["End"] "state" (Zd 0) (mC (.str "closed")))
  (ZA ["End"] "error" (Zd 0) (mC (.str "reset")))) (ZA ["End"] "owes_answer" (Zd 0) (mC (.bl true))))
def Zdr:SM:=(Zr Zcw
 Zcv)
def Zbs:GM:=ZO 2 2 Zdr
def ZbD:SM:=(Zc9 (ZfK (ZD (mOp neM (Zz ["End"] "rcv" (Zd 0)) (Zz ["End"] "early_fin" (Zd 0)))) (ZD (Zht (Zz ["End"] "rcv" (Zd 0)) (Zz ["End"] "early" (Zd 0))))) (Zr (Zc1 1 (Zmb (Zz ["End"] "early" (Zd 0)) (Zz ["End"] "rcv" (Zd 0))))
  (ZA ["End"] "rcv" (Zd 0) (mCB zk (Zc (Zz ["End"] "rcv" (Zd 0)) (Zc (mC (.int 1)) Zi))))) 200)
def ZdL:SM:=(Zr (ZeA 1 Zi)
 (Zr ZbD
 (mFreeze 1 (zn (mCB Zgc (Zc (Zz ["End"] "come" (Zd 0)) (Zc (Zd 1) Zi)))))))
def Za1:GM:=ZO 1 2 ZdL
def Zfi:SM:=(mIf (ZD (mOp eqM (Zz ["End"] "state" (Zd 0)) (mC (.str "wait one")))) (ZA ["End"] "state" (Zd 0) (mC (.str "closing"))) (Zr (ZA ["End"] "state" (Zd 0) (mC (.str "time wait")))
   (ZA ["End"] "since" (Zd 0) (Zd 1))))
def Zds:SM:=(mIf (ZD (mOp eqM (Zz ["End"] "state" (Zd 0)) (mC (.str "open")))) (ZA ["End"] "state" (Zd 0) (mC (.str "close wait"))) Zfi)
def ZeJ:SM:=(Zr (ZA ["End"] "rcv" (Zd 0) (mCB zk (Zc (Zz ["End"] "rcv" (Zd 0)) (Zc (mC (.int 1)) Zi))))
 Zds)
def Zcr:GM:=ZO 2 2 ZeJ
def Za5:SM:=(mIf (zR (mCB zo (Zc (Zd 0) (Zc (Zd 4) Zi)))) (zn (Zli (Zz ["End"] "early" (Zd 0)) (Zd 4) (Zd 3))) ZK)
def ZcW:SM:=(ZoN (Zc (mOp ixM (Zd 1) (mC (.int 7))) Zi) 2 3 (Zr (Z1 4 (mCB zk (Zc (mOp ixM (Zd 1) (mC (.int 2))) (Zc (Zd 2) Zi))))
  Za5))
def ZcV:SM:=(mIf (ZD (mOp gtM (mCB lenG (Zc (mOp ixM (Zd 1) (mC (.int 7))) Zi)) (mC (.int 0)))) (ZA ["End"] "owes_answer" (Zd 0) (mC (.bl true))) ZK)
def ZdX:SM:=(Zr ZcW
 ZcV)
def ZbY:GM:=ZO 2 5 ZdX
def Zdq:SM:=(mIf (Zeb (zR (mCB ZV (Zc (Zd 1) (Zc (mC (.int 1)) Zi))))) Zgk ZK)
def ZaI:SM:=(mIf (ZfK (ZD (mOp isM (Zz ["End"] "early_fin" (Zd 0)) (mC .non))) (zR (mCB zo (Zc (Zd 0) (Zc (Zd 2) Zi))))) (ZA ["End"] "early_fin" (Zd 0) (Zd 2)) ZK)
def ZeI:SM:=(Zr Zdq
 (Zr (ZA ["End"] "owes_answer" (Zd 0) (mC (.bl true)))
 (Zr (Z1 2 (mCB zk (Zc (mOp ixM (Zd 1) (mC (.int 2))) (Zc (mCB lenG (Zc (mOp ixM (Zd 1) (mC (.int 7))) Zi)) Zi))))
 ZaI)))
def Zcq:GM:=ZO 2 3 ZeI
def Zbe:SM:=(mIf (ZD (mOp ZdQ (Zz ["End"] "state" (Zd 0)) (ZbA (Zc (mC (.str "open")) (Zc (mC (.str "wait one")) (Zc (mC (.str "wait two")) Zi)))))) Zgk ZK)
def Zcc:SM:=(mIf (ZD (mOp eqM (Zz ["End"] "rcv" (Zd 0)) (Zz ["End"] "early_fin" (Zd 0)))) (zn (mCB Zcr (Zc (Zd 0) (Zc (Zd 2) Zi)))) ZK)
def ZbM:SM:=(Zr Zbe
 (Zr (zn (mCB ZbY (Zc (Zd 0) (Zc (Zd 1) Zi))))
 (Zr (zn (mCB Zcq (Zc (Zd 0) (Zc (Zd 1) Zi))))
 (Zr (zn (mCB Za1 (Zc (Zd 0) Zi)))
 Zcc))))
def ZaA:GM:=ZO 3 3 ZbM
def ZbL:SM:=(mIf (zR (mCB ZV (Zc (Zd 1) (Zc (mC (.int 4)) Zi)))) Zgk ZK)
def ZcT:SM:=(mIf (ZfK (ZD (mOp eqM (Zz ["End"] "state" (Zd 0)) (mC (.str "syn come")))) (ZfK (zR (mCB ZV (Zc (Zd 1) (Zc (mC (.int 2)) Zi)))) (Zeb (zR (mCB ZV (Zc (Zd 1) (Zc (mC (.int 16)) Zi))))))) (ZA ["End"] "owes_syn" (Zd 0) (mC (.bl true))) (ZA ["End"] "owes_answer" (Zd 0) (mC (.bl true))))
def ZcS:SM:=(mIf (ZD (mOp eqM (Zz ["End"] "state" (Zd 0)) (mC (.str "time wait")))) (ZA ["End"] "since" (Zd 0) (Zd 2)) ZK)
def ZcE:SM:=(Zr ZbL
 (Zr ZcT
 ZcS))
def Zbk:GM:=ZO 3 3 ZcE
def Zau:SM:=(mIf (ZfK (zR (mCB ZV (Zc (Zd 1) (Zc (mC (.int 16)) Zi)))) (zR (mCB ZZ (Zc (Zd 0) (Zc (Zd 1) (Zc (Zd 2) Zi)))))) (zn (mCB ZaA (Zc (Zd 0) (Zc (Zd 1) (Zc (Zd 2) Zi))))) ZK)
def zW:SM:=(mIf (zR (mCB ZV (Zc (Zd 1) (Zc (mC (.int 2)) Zi)))) (ZA ["End"] "owes_answer" (Zd 0) (mC (.bl true))) Zau)
def zy:SM:=(mIf (zR (mCB ZV (Zc (Zd 1) (Zc (mC (.int 4)) Zi)))) (zn (mCB Zbs (Zc (Zd 0) (Zc (Zd 1) Zi)))) zW)
def zh:SM:=(mIf (Zeb (zR (mCB ZgP (Zc (Zd 0) (Zc (Zd 1) Zi))))) (zn (mCB Zbk (Zc (Zd 0) (Zc (Zd 1) (Zc (Zd 2) Zi))))) zy)
def zw:SM:=zh
def Z9:GM:=ZO 3 3 zw
def Ziq:SM:=(ZM (ZcI (mOp eqM (mOp ixM (Zd 1) (mC (.int 1))) (Zz ["End"] "ours" (Zd 0))) (Znc (mOp inM (Zz ["End"] "state" (Zd 0)) (ZbA (Zc (mC (.str "closed")) (Zc (mC (.str "listen")) Zi)))) (mOp eqM (mOp ixM (Zd 1) (mC (.int 0))) (Zz ["End"] "theirs" (Zd 0))))))
def Ze2:GM:=ZO 2 2 Ziq
def Zch:SM:=(mIf (Zeb (zR (mCB zN (Zc (Zd 1) Zi)))) (ZM (mC (.bl false))) ZK)
def Zcg:SM:=(mIf (Zeb (zR (mCB Ze2 (Zc (Zd 0) (Zc (Zd 3) Zi))))) (ZM (mC (.bl false))) ZK)
def ZeK:SM:=(mIf (ZD (mOp eqM (Zz ["End"] "state" (Zd 0)) (mC (.str "syn sent")))) (zn (mCB ZU (Zc (Zd 0) (Zc (Zd 3) (Zc (Zd 2) Zi))))) (zn (mCB Z9 (Zc (Zd 0) (Zc (Zd 3) (Zc (Zd 2) Zi))))))
def Zc4:SM:=(mIf (ZD (mOp eqM (Zz ["End"] "state" (Zd 0)) (mC (.str "listen")))) (zn (mCB zx (Zc (Zd 0) (Zc (Zd 3) Zi)))) ZeK)
def Zcf:SM:=(mIf (ZD (mOp eqM (Zz ["End"] "state" (Zd 0)) (mC (.str "closed")))) (zn (mCB ZaF (Zc (Zd 0) (Zc (Zd 3) Zi)))) Zc4)
def Zdu:SM:=(Zr Zch
 (Zr (Z1 3 (mCB Zg8 (Zc (Zd 1) Zi)))
 (Zr Zcg
 (Zr Zcf
 (ZM (mC (.bl true)))))))
def Za3:GM:=ZO 3 4 Zdu
def ZdJ:SM:=(mIf (mOr (zR (Zz ["End"] "has_closed" (Zd 0))) (ZD (mOp ZdQ (Zz ["End"] "state" (Zd 0)) (ZbA (Zc (mC (.str "syn sent")) (Zc (mC (.str "syn come")) (Zc (mC (.str "open")) (Zc (mC (.str "close wait")) Zi)))))))) (ZM (mC (.int 0))) ZK)
def Zft:SM:=(Zr ZdJ
 (Zr (Z1 2 (mCB Zgc (Zc (Zz ["End"] "written" (Zd 0)) (Zc (Zd 1) Zi))))
 (Zr (ZA ["End"] "behind" (Zd 0) (mCB zk (Zc (Zz ["End"] "behind" (Zd 0)) (Zc (Zd 2) Zi))))
 (ZM (Zd 2)))))
def p_write:GM:=ZO 2 3 Zft
def Zdp:SM:=(mIf (ZfK (zR (Zd 2)) (ZfK (ZD (mOp gtM (mCB zP (Zc (Zd 0) Zi)) (mC (.int 0)))) (ZD (mOp inM (Zz ["End"] "state" (Zd 0)) (ZbA (Zc (mC (.str "open")) (Zc (mC (.str "wait one")) (Zc (mC (.str "wait two")) Zi)))))))) (ZA ["End"] "owes_answer" (Zd 0) (mC (.bl true))) ZK)
def Zfb:SM:=(Zr (Z1 2 (mOp eqM (mCB zP (Zc (Zd 0) Zi)) (mC (.int 0))))
 (Zr (Z1 3 (mCB Zcn (Zc (Zz ["End"] "come" (Zd 0)) (Zc (Zd 1) Zi))))
 (Zr Zdp
 (ZM (Zd 3)))))
def ZdP:GM:=ZO 2 4 Zfb
def bears (s:Seg) (f:Int):Bool:=decide (bit s.flags f=1)
def Zhu (s:Seg):Int:=s.data.length+bit s.flags 2+bit s.flags 1
def Zf7 (s:Seg):Seg:=if bears s 16=true then ⟨s.goal,s.src,s.ans,0,4,0,0,[]⟩ else ⟨s.goal,s.src,0,Zs s.num (Zhu s),20,0,0,[]⟩
def Zbm (e:Zn) (s:Seg):Zn:=if bears s 4=true then e else { e with owed_reset:=some (Zf7 s) }
def hearSyn (e:Zn) (s:Seg):Zn:={ e with rcv:=Zs s.num 1,wnd:=s.win,told:=s.num,told_by:=if bears s 16=true then s.ans else 0,most:=if s.most=0 then e.most else s.most }
def ZaX (e:Zn) (s:Seg):Zn:=
 if bears s 4=true then e
 else if bears s 16=true then Zbm e s
 else if bears s 2=true then { hearSyn { e with theirs:=s.src } s with state:=.synCome }
 else e
def ZcA (e:Zn) (s:Seg):Bool:=!decide (e.nxt=e.first) && decide (s.ans=Zs e.first 1)
def zb (e:Zn) (s:Seg) (now:Int):Zn:=
 if bears s 16=true∧ZcA e s=false then Zbm e s
 else if bears s 4=true then (if bears s 16=true then { e with state:=.closed,error:=.refused } else e)
 else if bears s 2=true then
  (if bears s 16=true then { hearSyn e s with una:=s.ans,state:=.opn,owes_answer:=true }
    else { zj { hearSyn e s with state:=.synCome } now with owes_syn:=true })
 else e
def Zgq (e:Zn) (s:Seg):Bool:=decide (s.goal=e.ours) && (decide (e.state∈[State.closed,.listen]) || decide (s.src=e.theirs))
section
variable {θ:Sto} {l:Nat} {e:Zn} {s:Seg} {now f:Int}
@[simp] theorem ZxB:ZV [s.d,.int f] θ=.ok (.bl (bears s f)) θ:=by
 simp [ZV,Zjh,bears]
theorem ZgG:ZcG [s.d] θ=.ok (.int (Zhu s)) θ:=ZnP s θ
@[simp] theorem Zsg:ZaO [s.d] θ=.ok (Zf7 s).d θ:=by
 by_cases c:bears s 16=true
 ·simp [ZaO,ZdU,ZcU,c,Zf7,Zk3]
 ·simp [ZaO,ZdU,ZcU,c,Zf7,Zk3,ZgG]
@[simp] theorem Zsh (h:l+3 < θ.length):ZY [.ref l,s.d] (upE θ l e)=.ok .non (upE θ l (Zbm e s)):=by
 by_cases c:bears s 4=true
 ·simp [ZY,Zca,ZbB,h,c,Zbm]
 ·simp [ZY,Zca,ZbB,h,c,Zbm]
@[simp] theorem ZmS (h:l+3 < θ.length):ZaF [.ref l,s.d] (upE θ l e)=.ok .non (upE θ l (Zbm e s)):=by
 simp [ZaF,Zdt,h]
@[simp] theorem Zuc (h:l+3 < θ.length):ZbP [.ref l,s.d] (upE θ l e)=.ok .non (upE θ l (hearSyn e s)):=by
 by_cases c:bears s 16=true<;>by_cases c2:s.most=0<;>simp [ZbP,Zgy,Zfh,h,c,c2,hearSyn]
@[simp] theorem ZmR (h:l+3 < θ.length):zx [.ref l,s.d] (upE θ l e)=.ok .non (upE θ l (ZaX e s)):=by
 by_cases c:bears s 4=true
 ·simp [zx,Zaj,zX,h,c,ZaX]
 ·by_cases c1:bears s 16=true
  ·simp [zx,Zaj,zX,Zaw,Zav,h,c,c1,ZaX]
  ·by_cases c2:bears s 2=true
   ·simp [zx,Zaj,zX,Zaw,Zav,h,c,c1,c2,ZaX]
   ·simp [zx,Zaj,zX,Zaw,Zav,h,c,c1,c2,ZaX]
@[simp] theorem ZpA (h:l+3 < θ.length):ZbH [.ref l,s.d] (upE θ l e)=.ok (.bl (ZcA e s)) (upE θ l e):=by
 by_cases c:e.nxt=e.first<;>simp [ZbH,ZeV,h,ZcA,c]
@[simp] theorem ZkZ (h:l+3 < θ.length):ZU [.ref l,s.d,.int now] (upE θ l e)=.ok .non (upE θ l (zb e s now)):=by
 by_cases c:bears s 16=true
 ·by_cases c1:ZcA e s=true
  ·by_cases c2:bears s 4=true
   ·simp [ZU,Z4,ZX,Z5,Ze0,ZfQ,ZeF,h,c,c1,c2,zb]
   ·by_cases c3:bears s 2=true
    ·simp [ZU,Z4,ZX,Z5,zI,zL,ZaJ,Zam,h,c,c1,c2,c3,zb]
    ·simp [ZU,Z4,ZX,Z5,zI,h,c,c1,c2,c3,zb]
  ·simp [ZU,Z4,ZX,h,c,c1,zb]
 ·by_cases c2:bears s 4=true
  ·simp [ZU,Z4,ZX,Z5,Ze0,ZfQ,ZeF,h,c,c2,zb]
  ·by_cases c3:bears s 2=true
   ·simp [ZU,Z4,ZX,Z5,zI,zL,ZaJ,Zam,h,c,c2,c3,zb]
   ·simp [ZU,Z4,ZX,Z5,zI,h,c,c2,c3,zb]
@[simp] theorem Zv6 (h:l+3 < θ.length):Ze2 [.ref l,s.d] (upE θ l e)=.ok (.bl (Zgq e s)) (upE θ l e):=by
 simp [Ze2,Ziq,h,Zgq]
theorem Zhr (h:l+3 < θ.length) {r:List Int} (hb:Byt r) (hr:ZaW r=true) (hf:Zgq e (Zb8 r)=true) (hs:e.state=.closed):Za3 [.ref l,il r,.int now] (upE θ l e)=.ok (.bl true) (upE θ l (Zbm e (Zb8 r))):=by
 simp [Za3,Zdu,Zch,Zcg,Zcf,ZbN hb,hr,ZiO hb hr,h,hf,hs]
theorem Zhq (h:l+3 < θ.length) {r:List Int} (hb:Byt r) (hr:ZaW r=true) (hf:Zgq e (Zb8 r)=true) (hs:e.state=.listen):Za3 [.ref l,il r,.int now] (upE θ l e)=.ok (.bl true) (upE θ l (ZaX e (Zb8 r))):=by
 simp [Za3,Zdu,Zch,Zcg,Zcf,Zc4,ZbN hb,hr,ZiO hb hr,h,hf,hs]
theorem ZgI (h:l+3 < θ.length) {r:List Int} (hb:Byt r) (hr:ZaW r=true) (hf:Zgq e (Zb8 r)=true) (hs:e.state=.synSent):Za3 [.ref l,il r,.int now] (upE θ l e)=.ok (.bl true) (upE θ l (zb e (Zb8 r) now)):=by
 simp [Za3,Zdu,Zch,Zcg,Zcf,Zc4,ZeK,ZbN hb,hr,ZiO hb hr,h,hf,hs]
end
section
variable {θ:Sto} {ρ:List Sl} {fi fo fe ff:EM} {fa:AM} {i j k:Nat} {b:SM} {x:D} {r:List D}
theorem nr' {p:Prop} (h:p):p:=h
@[simp] theorem ZA6:Zht fi fo ρ θ=(fi ρ θ).bind fun y θ=>(fo ρ θ).bind fun d θ=>match keyD y,dkOf θ d with
 | some k,some (_,kvs)=>.ok (.bl (valD kvs k).isSome) θ
 | _,_=>.bad:=nr' rfl
@[simp] theorem ZzK:Zmb fo fe ρ θ=(fo ρ θ).bind fun d θ=>match dkOf θ d with
 | none=>.bad
 | some _=>(fe ρ θ).bind fun y θ=>match keyD y,dkOf θ d with
  | some k,some (l,kvs)=>match valD kvs k with
   | some v=>.ok v (θ.set l (.dK (dropD kvs k)))
   | none=>.bad
  | _,_=>.bad:=nr' rfl
@[simp] theorem Zxt:Zli fo fe ff ρ θ=(fo ρ θ).bind fun d θ=>match dkOf θ d with
 | none=>.bad
 | some _=>(fe ρ θ).bind fun y θ=>(ff ρ θ).bind fun z θ=>match keyD y,dkOf θ d with
  | some k,some (l,kvs)=>if kvs.length<BIG then (match valD kvs k with
   | some v=>.ok v θ
   | none=>.ok z (θ.set l (.dK (putD kvs k z)))) else .bad
  | _,_=>.bad:=nr' rfl
@[simp] theorem ZzJ {n:Int}:keyD (.int n)=some (.inl n):=nr' rfl
end
abbrev EL:=List (Int×Int)
def atE (m:EL) (n:Int):Option Int:=(m.find? fun p=>decide (p.1=n)).map (·.2)
def ZdG (m:EL) (n:Int):EL:=m.filter fun p=>decide (p.1≠n)
def Zhc (m:EL) (n b:Int):EL:=match atE m n with | some _=>m | none=>m++[(n,b)]
abbrev ed (p:Int×Int):Key×D:=(Sum.inl p.1,D.int p.2)
theorem Zf0 (n:Int):∀m:EL,valD (m.map ed) (.inl n)=(atE m n).map D.int
 | []=>rfl
 | p::r=>by
  have ih:=Zf0 n r
  unfold valD atE at ih ⊢
  by_cases e:p.1=n
  ·simp [ed,e]
  ·simpa [ed,e] using ih
theorem ZkI (n:Int):∀m:EL,dropD (m.map ed) (.inl n)=(ZdG m n).map ed
 | []=>rfl
 | p::r=>by
  have ih:=ZkI n r
  unfold dropD ZdG at ih ⊢
  by_cases e:p.1=n
  ·simpa [ed,e] using ih
  ·simpa [ed,e] using ih
theorem Zpp (n:Int):∀m:EL,((m.map ed).any fun kv=>decide (kv.1=Sum.inl n))=(atE m n).isSome
 | []=>rfl
 | p::r=>by
  have ih:=Zpp n r
  unfold atE at ih ⊢
  by_cases e:p.1=n
  ·simp [ed,e]
  ·simpa [ed,e] using ih
theorem Zrh (n b:Int) (m:EL) (h:atE m n=none):putD (m.map ed) (.inl n) (.int b)=(m++[(n,b)]).map ed:=by
 unfold putD
 rw [Zpp,h]
 simp [ed]
section
variable {θ:Sto} {l:Nat} {e:Zn} {s:Seg} {now:Int}
theorem dk3 (h:l+3 < θ.length):dkOf (upE θ l e) (.ref (l+3))=some (l+3,e.early.map ed):=by
 have:(upE θ l e)[l+3]?=some (c3 e):=by
  unfold upE
  rw [Yg (by simpa using h)]
 show (match (upE θ l e)[l+3]? with | some (Cell.dK kvs)=>some (l+3,kvs) | _=>none)=_
 rw [this]
 rfl
theorem Zwi (h:l+3 < θ.length) (m:EL):(upE θ l e).set (l+3) (.dK (m.map ed))=upE θ l { e with early:=m }:=by
 unfold upE
 rw [List.set_set]
 rfl
end
def inWin (e:Zn) (n:Int):Bool:=decide (0≤ZL n e.rcv) && decide (ZL n e.rcv<ZN e)
def ZdE (e:Zn) (s:Seg):Bool:=if Zhu s=0 then decide (0≤ZL s.num e.rcv) && decide (ZL s.num e.rcv≤64) else inWin e s.num || inWin e (Zs s.num (Zhu s-1))
def ZbE (e:Zn) (s:Seg) (now:Int):Zn:=
 if bears s 4=true then e
 else if e.state=.timeWait then { e with owes_answer:=true,since:=now }
 else if e.state=.synCome∧bears s 2=true∧bears s 16=false then { e with owes_syn:=true }
 else { e with owes_answer:=true }
def Zfp (e:Zn) (s:Seg):Zn:=if e.state=.timeWait then e else if s.num=e.rcv then { e with state:=.closed,error:=.reset } else { e with owes_answer:=true }
def Za0 (a b:Int):Bool:=decide (0<ZL a b)
def Zfn (e:Zn) (s:Seg):Zn:={ e with wnd:=s.win,told:=s.num,told_by:=s.ans }
def Zay (e:Zn) (s:Seg):Bool×Zn:=
 if e.nxt=e.first∨¬s.ans=e.nxt then (false,Zbm e s)
 else (true,Zfn { e with una:=s.ans,state:=if e.has_closed=true then .waitOne else .opn } s)
def isNewer (e:Zn) (s:Seg):Bool:=if s.num=e.told then !Za0 e.told_by s.ans else Za0 s.num e.told
def ZcD (e:Zn) (s:Seg) (now:Int):Zn:=
 if Za0 s.ans e.una=true then
  (if s.ans=e.nxt then { e with written:=e.written.drop (ZL s.ans e.una).toNat,una:=s.ans } else zj { e with written:=e.written.drop (ZL s.ans e.una).toNat,una:=s.ans } now)
 else e
def z8 (e:Zn) (s:Seg) (now:Int):Zn:=
 let e1:=ZcD e s now
 if Za0 e1.una s.ans=true then e1
 else
  let e2:=if (Za0 s.ans e.una || isNewer e1 s)=true then Zfn e1 s else e1
  if e1.wnd=0∨e2.wnd=0 then { e2 with tries:=0 } else e2
def Zf5 (e:Zn):Bool:=Za0 e.nxt e.behind
def Za4 (e:Zn) (now:Int):Zn:=
 if Zf5 e=false∨¬e.una=e.nxt then e
 else if e.state=.waitOne then { e with state:=.waitTwo }
 else if e.state=.closing then { e with state:=.timeWait,since:=now }
 else if e.state=.lastAck then { e with state:=.closed }
 else e
def ZaD (e:Zn) (s:Seg) (now:Int):Bool×Zn:=
 if e.state=.synCome then Zay e s
 else if Za0 s.ans e.nxt=true then (false,{ e with owes_answer:=true })
 else (!decide ((Za4 (z8 e s now) now).state=.closed),Za4 (z8 e s now) now)
def Zbc (e:Zn) (num:Int):Nat→List Int→Zn
 | _,[]=>e
 | k,b::r=>Zbc (if inWin e (Zs num k)=true then { e with early:=Zhc e.early (Zs num k) b } else e) num (k+1) r
def Zah (e:Zn) (s:Seg):Zn:=if 0<s.data.length then { Zbc e s.num 0 s.data with owes_answer:=true } else Zbc e s.num 0 s.data
def Zbv (e:Zn) (s:Seg):Zn:=
 if bears s 1=false then e
 else if e.early_fin=none∧inWin e (Zs s.num s.data.length)=true then { e with owes_answer:=true,early_fin:=some (Zs s.num s.data.length) }
 else { e with owes_answer:=true }
def drawn:Nat→Zn→List Int×Zn
 | 0,e=>([],e)
 | n+1,e=>if e.early_fin=some e.rcv then ([],e) else match atE e.early e.rcv with
  | none=>([],e)
  | some b=>(b::(drawn n { e with early:=ZdG e.early e.rcv,rcv:=Zs e.rcv 1 }).1,(drawn n { e with early:=ZdG e.early e.rcv,rcv:=Zs e.rcv 1 }).2)
def Zgn (e:Zn) (r:List Int):Zn:={ e with come:=e.come++Zbh r none (some (ZN e)) }
def ZhC (e:Zn) (now:Int):Zn:=
 if e.state=.opn then { e with rcv:=Zs e.rcv 1,state:=.closeWait }
 else if e.state=.waitOne then { e with rcv:=Zs e.rcv 1,state:=.closing }
 else { e with rcv:=Zs e.rcv 1,state:=.timeWait,since:=now }
section
variable {θ:Sto} {l:Nat} {e:Zn} {s:Seg} {now n a b:Int}
@[simp] theorem ZzT:Zco [.int a,.int b] θ=.ok (.bl (Za0 a b)) θ:=by simp [Zco,ZkQ,Za0]
@[simp] theorem Zt2 (h:l+3 < θ.length):Zbl [.ref l] (upE θ l e)=.ok (.bl (Zf5 e)) (upE θ l e):=by
 simp [Zbl,Zef,h,Zf5]
@[simp] theorem Zsj (h:l+3 < θ.length):zo [.ref l,.int n] (upE θ l e)=.ok (.bl (inWin e n)) (upE θ l e):=by
 by_cases c:0≤ZL n e.rcv<;>simp [zo,Zee,h,inWin,ZN,c]<;>exact decide_eq_decide.mpr Iff.rfl
@[simp] theorem ZzU (h:l+3 < θ.length):ZgP [.ref l,s.d] (upE θ l e)=.ok (.bl (ZdE e s)) (upE θ l e):=by
 by_cases c:Zhu s=0
 ·by_cases c1:0≤ZL s.num e.rcv<;>simp [ZgP,Zit,ZfR,h,ZgG,c,c1,ZdE]
 ·by_cases c1:inWin e s.num=true<;>simp [ZgP,Zit,ZfR,h,ZgG,c,c1,ZdE]
@[simp] theorem Zsf (h:l+3 < θ.length):Zbk [.ref l,s.d,.int now] (upE θ l e)=.ok .non (upE θ l (ZbE e s now)):=by
 by_cases c4:bears s 4=true
 ·simp [Zbk,ZcE,ZbL,h,c4,ZbE]
 ·by_cases ct:e.state=.timeWait
  ·simp [Zbk,ZcE,ZbL,ZcT,ZcS,h,c4,ct,ZbE]
  ·by_cases cs:e.state=.synCome<;>by_cases c2:bears s 2=true<;>by_cases c16:bears s 16=true<;>simp [Zbk,ZcE,ZbL,ZcT,ZcS,h,c4,ct,cs,c2,c16,ZbE]
@[simp] theorem Zq0 (h:l+3 < θ.length):Zbs [.ref l,s.d] (upE θ l e)=.ok .non (upE θ l (Zfp e s)):=by
 by_cases ct:e.state=.timeWait
 ·simp [Zbs,Zdr,Zcw,Zcv,h,ct,Zfp]
 ·by_cases c:s.num=e.rcv<;>simp [Zbs,Zdr,Zcw,Zcv,h,ct,c,Zfp]
@[simp] theorem Zpw (h:l+3 < θ.length):Zaz [.ref l,s.d] (upE θ l e)=.ok .non (upE θ l (Zfn e s)):=by
 simp [Zaz,ZeS,h,Zfn]
@[simp] theorem ZnS (h:l+3 < θ.length):zt [.ref l,s.d] (upE θ l e)=.ok (.bl (Zay e s).1) (upE θ l (Zay e s).2):=by
 by_cases c1:e.nxt=e.first
 ·simp [zt,Zar,Zab,h,c1,Zay]
 ·by_cases c2:s.ans=e.nxt
  ·by_cases c3:e.has_closed=true<;>simp [zt,Zar,Zab,h,c1,c2,c3,Zay]
  ·simp [zt,Zar,Zab,h,c1,c2,Zay]
@[simp] theorem Zua (h:l+3 < θ.length):Zdf [.ref l,s.d] (upE θ l e)=.ok (.bl (isNewer e s)) (upE θ l e):=by
 by_cases c:s.num=e.told<;>simp [Zdf,Zgx,Zfg,h,c,isNewer]
theorem ZqV (h:l+3 < θ.length):Zcn [.ref (l+1),.int n] (upE θ l e)=.ok (il (e.written.take n.toNat)) (upE θ l { e with written:=e.written.drop n.toNat }):=by
 by_cases c:0<n
 ·simp [Zcn,Zdo,h,Ze9,Zdn,c,show 0≤n by omega,show ¬n<0 by omega]
 ·have z:n.toNat=0:=by omega
  by_cases c0:n<0
  ·simp [Zcn,Zdo,h,Ze9,Zdn,z,c0,ZcR]
  ·have n0:n=0:=by omega
   simp [Zcn,Zdo,h,Ze9,Zdn,n0,ZcR]
theorem ZqU (h:l+3 < θ.length):Zcn [.ref (l+2),.int n] (upE θ l e)=.ok (il (e.come.take n.toNat)) (upE θ l { e with come:=e.come.drop n.toNat }):=by
 by_cases c:0<n
 ·simp [Zcn,Zdo,h,Ze9,Zdn,c,show 0≤n by omega,show ¬n<0 by omega]
 ·have z:n.toNat=0:=by omega
  by_cases c0:n<0
  ·simp [Zcn,Zdo,h,Ze9,Zdn,z,c0,ZcR]
  ·have n0:n=0:=by omega
   simp [Zcn,Zdo,h,Ze9,Zdn,n0,ZcR]
@[simp] theorem Zpy (h:l+3 < θ.length):zQ [.ref l,s.d,.int now] (upE θ l e)=.ok .non (upE θ l (z8 e s now)):=by
 have tk:=fun (e:Zn) (n:Int)=>ZqV (θ:=θ) (l:=l) (e:=e) (n:=n) h
 have h2:Zaq [.val (.ref l),.val s.d,.val (.int now),.val (.int s.ans),.val (.bl (Za0 s.ans e.una)),.no] (upE θ l e)=.ok (.nx,[.val (.ref l),.val s.d,.val (.int now),.val (.int s.ans),.val (.bl (Za0 s.ans e.una)),.no]) (upE θ l (ZcD e s now)):=by
  unfold ZcD
  by_cases c1:Za0 s.ans e.una=true
  ·rw [if_pos c1]
   by_cases c2:s.ans=e.nxt
   ·rw [if_pos c2,c1]
    simp [Zaq,Zcd,h,tk,c2]
   ·rw [if_neg c2,c1]
    simp [Zaq,Zcd,h,tk,c2]
  ·rw [if_neg c1]
   simp [Zaq,c1]
 unfold z8
 obtain ⟨e1,he1⟩:∃x,x=ZcD e s now:=⟨_,rfl⟩
 rw [←he1] at h2 ⊢
 obtain ⟨g,hg⟩:∃x,x=Za0 s.ans e.una:=⟨_,rfl⟩
 rw [←hg] at h2 ⊢
 clear he1
 by_cases c3:Za0 e1.una s.ans=true
 ·simp [zQ,Za6,h,←hg,h2,Zap,c3]
 ·have w0:∀x:Zn,(if (g || isNewer e1 s)=true then Zfn e1 s else e1)=x→zQ [.ref l,s.d,.int now] (upE θ l e)=.ok .non (upE θ l (if e1.wnd=0∨x.wnd=0 then { x with tries:=0 } else x)):=by
   intro x hx
   have h4:Zbg [.val (.ref l),.val s.d,.val (.int now),.val (.int s.ans),.val (.bl g),.val (.bl (decide (e1.wnd=0)))] (upE θ l e1)=.ok (.nx,[.val (.ref l),.val s.d,.val (.int now),.val (.int s.ans),.val (.bl g),.val (.bl (decide (e1.wnd=0)))]) (upE θ l x):=by
    rw [←hx]
    cases g
    ·by_cases c:isNewer e1 s=true<;>simp [Zbg,h,c]
    ·simp [Zbg,h]
   by_cases c5:e1.wnd=0
   ·rw [if_pos (.inl c5)]
    simp [zQ,Za6,h,←hg,h2,Zap,c3,c5] at h4 ⊢
    simp [h4,Zbf,h]
   ·by_cases c6:x.wnd=0
    ·rw [if_pos (.inr c6)]
     simp [zQ,Za6,h,←hg,h2,Zap,c3,c5] at h4 ⊢
     simp [h4,Zbf,h,c6]
    ·rw [if_neg (by intro z; exact z.elim c5 c6)]
     simp [zQ,Za6,h,←hg,h2,Zap,c3,c5] at h4 ⊢
     simp [h4,Zbf,h,c6]
  simp only [if_neg c3]
  exact w0 _ rfl
@[simp] theorem Zsk (h:l+3 < θ.length):ZT [.ref l,.int now] (upE θ l e)=.ok .non (upE θ l (Za4 e now)):=by
 by_cases c1:Zf5 e=true
 ·by_cases c2:e.una=e.nxt
  ·cases c:e.state<;>simp [ZT,zq,zi,ZaM,ZaL,ZaK,h,c,c1,c2,Za4]
  ·simp [ZT,zq,zi,h,c1,c2,Za4]
 ·simp [ZT,zq,zi,h,c1,Za4]
@[simp] theorem ZvE (h:l+3 < θ.length):ZZ [.ref l,s.d,.int now] (upE θ l e)=.ok (.bl (ZaD e s now).1) (upE θ l (ZaD e s now).2):=by
 by_cases c1:e.state=.synCome
 ·simp [ZZ,zK,zz,h,c1,ZaD]
 ·by_cases c2:Za0 s.ans e.nxt=true
  ·simp [ZZ,zK,zz,Zac,h,c1,c2,ZaD]
  ·simp [ZZ,zK,zz,Zac,h,c1,c2,ZaD]
end
theorem Zi4 (m:EL) (n b:Int):(Zhc m n b).length≤m.length+1:=by
 unfold Zhc
 cases atE m n<;>simp
section
variable {θ:Sto} {l:Nat} {e:Zn} {s:Seg} {now n b:Int}
abbrev keepB:SM:=Zr (Z1 4 (mCB zk (Zc (mOp ixM (Zd 1) (mC (.int 2))) (Zc (Zd 2) Zi)))) Za5
theorem ZqZ (h:l+3 < θ.length) (k:Nat) (x:Sl) (he:e.early.length<1000):keepB [.val (.ref l),.val s.d,.val (.int k),.val (.int b),x] (upE θ l e)=.ok (.nx,[.val (.ref l),.val s.d,.val (.int k),.val (.int b),.val (.int (Zs s.num k))]) (upE θ l (if inWin e (Zs s.num k)=true then { e with early:=Zhc e.early (Zs s.num k) b } else e)):=by
 have hd:=fun (e:Zn)=>dk3 (θ:=θ) (l:=l) (e:=e) h
 have hs:=fun (e:Zn) (m:EL)=>Zwi (θ:=θ) (l:=l) (e:=e) h m
 have hB:(e.early.map ed).length<BIG:=by simp [BIG]; omega
 obtain ⟨n,hn⟩:∃n,n=Zs s.num k:=⟨_,rfl⟩
 by_cases c:inWin e n=true
 ·unfold Zhc
  cases c2:atE e.early n with
  | some v=>
   simp [Za5,h,←hn,c,hd,hB,Zf0,c2,-List.length_map]
  | none=>
   simp [Za5,h,←hn,c,hd,hB,Zf0,c2,Zrh,hs,-List.length_map,-List.map_append]
 ·simp [Za5,h,←hn,c]
theorem ZlE (h:l+3 < θ.length):∀(r:List Int) (k:Nat) (x y z:Sl) (e:Zn),e.early.length+r.length<1000→
  ∃x' y' z',forE 2 3 keepB k (r.map D.int) [.val (.ref l),.val s.d,x,y,z] (upE θ l e)=.ok (.nx,[.val (.ref l),.val s.d,x',y',z']) (upE θ l (Zbc e s.num k r))
 | [],k,x,y,z,e,_=>⟨x,y,z,rfl⟩
 | b::r,k,x,y,z,e,hl=>by
  have hl':e.early.length+r.length+1<1000:=by simpa [Jb] using hl
  show ∃x' y' z',(keepB [.val (.ref l),.val s.d,.val (.int k),.val (.int b),z] (upE θ l e)).bind (Zgl (forE 2 3 keepB (k+1) (r.map D.int)))=_
  rw [ZqZ h k z (by omega)]
  exact ZlE h r (k+1) _ _ _ _ (by
   split
   ·have:=Zi4 e.early (Zs s.num k) b
    show (Zhc e.early (Zs s.num k) b).length+r.length<1000
    omega
   ·omega)
@[simp] theorem Zj4 (h:l+3 < θ.length) (hl:e.early.length+s.data.length<1000):ZbY [.ref l,s.d] (upE θ l e)=.ok .non (upE θ l (Zah e s)):=by
 obtain ⟨x,y,z,g⟩:=ZlE (s:=s) h s.data 0 .no .no .no e hl
 have h2:ZcW [.val (.ref l),.val s.d,.no,.no,.no] (upE θ l e)=.ok (.nx,[.val (.ref l),.val s.d,x,y,z]) (upE θ l (Zbc e s.num 0 s.data)):=by
  rw [←g]
  simp [ZcW,ZoN]
  rfl
 obtain ⟨e1,he1⟩:∃q,q=Zbc e s.num 0 s.data:=⟨_,rfl⟩
 unfold Zah
 rw [←he1] at h2 ⊢
 by_cases c:0<s.data.length
 ·rw [if_pos c]
  simp [ZbY,ZdX,h2,ZcV,h,c]
 ·rw [if_neg c]
  simp [ZbY,ZdX,h2,ZcV,h,c]
@[simp] theorem Zus (h:l+3 < θ.length) (e:Zn) (n:Int):setK ["End"] "early_fin" (.int n) (.ref l) (upE θ l e)=some (upE θ l { e with early_fin:=some n }):=Zkg h e (some n)
@[simp] theorem ZvM (r:Option Int):Zak (Zhw r)=r.isNone:=by cases r<;>rfl
theorem Zj3 (h:l+3 < θ.length):ZaI [.val (.ref l),.val s.d,.val (.int n)] (upE θ l e)=.ok (.nx,[.val (.ref l),.val s.d,.val (.int n)]) (upE θ l (if e.early_fin=none∧inWin e n=true then { e with early_fin:=some n } else e)):=by
 by_cases c2:e.early_fin=none
 ·by_cases c3:inWin e n=true
  ·rw [if_pos ⟨c2,c3⟩]
   have q:∀f,e.early_fin=f→f=none→ZaI [.val (.ref l),.val s.d,.val (.int n)] (upE θ l e)=.ok (.nx,[.val (.ref l),.val s.d,.val (.int n)]) (upE θ l { e with early_fin:=some n }):=by
    intro f hf h0
    have h1:e.early_fin.isNone=true:=by rw [hf,h0]; rfl
    simp [ZaI,h,h1,c3]
   exact q _ rfl c2
  ·rw [if_neg fun z=>c3 z.2]
   have h1:e.early_fin.isNone=true:=by rw [c2]; rfl
   simp [ZaI,h,h1,c3]
 ·rw [if_neg fun z=>c2 z.1]
  have h1:e.early_fin.isNone=false:=by cases q:e.early_fin<;>first | exact absurd q c2 | rfl
  simp [ZaI,h,h1]
@[simp] theorem ZkY (h:l+3 < θ.length):Zcq [.ref l,s.d] (upE θ l e)=.ok .non (upE θ l (Zbv e s)):=by
 unfold Zbv
 by_cases c1:bears s 1=true
 ·obtain ⟨n,hn⟩:∃n,n=Zs s.num s.data.length:=⟨_,rfl⟩
  have k2:=Zj3 (e:={ e with owes_answer:=true }) (s:=s) (n:=n) h
  rw [←hn,c1]
  simp [Zcq,ZeI,Zdq,h,c1,←hn,k2]
  rfl
 ·simp [Zcq,ZeI,Zdq,c1]
@[simp] theorem ZAl (n:Int) (r:Option Int):neM (.int n) (Zhw r) θ=.ok (.bl (!decide (r=some n))) θ:=by
 cases r with
 | none=>rw [Zjw (by exact ZfO rfl rfl rfl rfl)]; simp [look,Zhw]
 | some m=>simp [Zhw,eq_comm]
@[simp] theorem ZAJ (n:Int) (r:Option Int):eqM (.int n) (Zhw r) θ=.ok (.bl (decide (r=some n))) θ:=by
 cases r with
 | none=>rw [Zls (by exact ZfO rfl rfl rfl rfl)]; simp [look,Zhw]
 | some m=>simp [Zhw,eq_comm]
abbrev Zpc:TMr:=ZfK (ZD (mOp neM (Zz ["End"] "rcv" (Zd 0)) (Zz ["End"] "early_fin" (Zd 0)))) (ZD (Zht (Zz ["End"] "rcv" (Zd 0)) (Zz ["End"] "early" (Zd 0))))
abbrev Zpd:SM:=Zr (Zc1 1 (Zmb (Zz ["End"] "early" (Zd 0)) (Zz ["End"] "rcv" (Zd 0))))
  (ZA ["End"] "rcv" (Zd 0) (mCB zk (Zc (Zz ["End"] "rcv" (Zd 0)) (Zc (mC (.int 1)) Zi))))
theorem Zq3 (h:l+3 < θ.length) (x:Sl):Zpc [.val (.ref l),x] (upE θ l e)=.ok (!decide (e.early_fin=some e.rcv) && (atE e.early e.rcv).isSome) (upE θ l e):=by
 have hd:=fun (e:Zn)=>dk3 (θ:=θ) (l:=l) (e:=e) h
 by_cases c:e.early_fin=some e.rcv<;>simp [h,hd,Zf0,c]
theorem Zq4 (h:l+3 < θ.length) {b:Int} (xs:List D) (hx:xs.length<BIG) (hv:atE e.early e.rcv=some b):Zpd [.val (.ref l),.own xs] (upE θ l e)=.ok (.nx,[.val (.ref l),.own (xs++[.int b])]) (upE θ l { e with early:=ZdG e.early e.rcv,rcv:=Zs e.rcv 1 }):=by
 have hd:=fun (e:Zn)=>dk3 (θ:=θ) (l:=l) (e:=e) h
 have hs:=fun (e:Zn) (m:EL)=>Zwi (θ:=θ) (l:=l) (e:=e) h m
 simp [h,hd,Zf0,hv,ZkI,hs,hx]
theorem Zpb {m:EL} {n b:Int} (h:atE m n=some b):(ZdG m n).length<m.length:=by
 induction m with
 | nil=>simp [atE] at h
 | cons p r ih=>
  unfold ZdG atE at *
  by_cases e:p.1=n
  ·simp [e]
   exact Nat.lt_succ_of_le (YI ..)
  ·simp [e] at h ⊢
   have:=ih (by simpa using h)
   simpa using this
theorem ZlG (h:l+3 < θ.length):∀(n:Nat) (e:Zn) (xs:List Int),e.early.length<n→xs.length+n<1000→Zc9 Zpc Zpd n [.val (.ref l),.own (xs.map D.int)] (upE θ l e)=.ok (.nx,[.val (.ref l),.own ((xs++(drawn n e).1).map D.int)]) (upE θ l (drawn n e).2)
 | 0,e,xs,hn,_=>absurd hn (YV _)
 | n+1,e,xs,hn,hx=>by
  rw [Zhx,Zq3 h]
  unfold drawn
  by_cases c:e.early_fin=some e.rcv
  ·simp [c]
  ·cases c2:atE e.early e.rcv with
   | none=>simp [c]
   | some b=>
    have:=ZlG h n { e with early:=ZdG e.early e.rcv,rcv:=Zs e.rcv 1 } (xs++[b]) (by have:=Zpb c2; simp only; omega) (by simp; omega)
    rw [if_neg c]
    simp only [c,decide_false,Bool.not_false,Bool.true_and,Option.isSome_some,R.bind,if_true]
    rw [Zq4 h (xs.map D.int) (by simp [BIG]; omega) c2]
    simp only [R.bind,Zgl]
    rw [List.map_append] at this
    simpa [Yz] using this
theorem Zie:∀(n:Nat) (e:Zn),(drawn n e).2.come=e.come
 | 0,e=>rfl
 | n+1,e=>by
  unfold drawn
  split
  ·rfl
  ·split
   ·rfl
   ·exact Zie n _
theorem Zmt {r:List Int} {k:Int} (h:0≤k):((Zbh r none (some k)).length:Int)≤k:=by
 rw [Ze9 r h]
 have:=List.length_take_le k.toNat r
 omega
theorem Zt9 (h:l+3 < θ.length) (hc:e.come.length≤64) (r:List Int):Zgc [.ref (l+2),il r] (upE θ l e)=.ok (.int (Zbh r none (some (ZN e))).length) (upE θ l (Zgn e r)):=by
 have h1:e.come.length+(Zbh r none (some (ZN e))).length≤100000:=by
  have:=Zmt (r:=r) (k:=ZN e) (by unfold ZN; omega)
  unfold ZN at *
  omega
 simp [Zgc,ZjT,h,Zgn,h1]
@[simp] theorem Zxz (h:l+3 < θ.length):Zeu [.ref (l+1)] (upE θ l e)=.ok (.int (64-(e.written.length:Int))) (upE θ l e):=by
 simp [Zeu,Zim,h]
theorem Zt8 (h:l+3 < θ.length) (hc:e.written.length≤64) (r:List Int):Zgc [.ref (l+1),il r] (upE θ l e)=.ok (.int (Zbh r none (some (64-(e.written.length:Int)))).length) (upE θ l { e with written:=e.written++Zbh r none (some (64-(e.written.length:Int))) }):=by
 have h1:e.written.length+(Zbh r none (some (64-(e.written.length:Int)))).length≤100000:=by
  have:=Zmt (r:=r) (k:=64-(e.written.length:Int)) (by omega)
  omega
 simp [Zgc,ZjT,h,h1]
def Zfs (e:Zn):Zn:=Zgn (drawn 200 e).2 (drawn 200 e).1
theorem Zho (h:l+3 < θ.length) (hc:e.come.length≤64) (he:e.early.length<200):Za1 [.ref l] (upE θ l e)=.ok .non (upE θ l (Zfs e)):=by
 have g:=ZlG h 200 e [] he (by simp)
 have g1:ZbD [.val (.ref l),.own []] (upE θ l e)=.ok (.nx,[.val (.ref l),.own ((drawn 200 e).1.map D.int)]) (upE θ l (drawn 200 e).2):=by
  have q:ZbD=Zc9 Zpc Zpd 200:=rfl
  rw [q]
  simpa using g
 have hc1:(drawn 200 e).2.come.length≤64:=by rw [Zie]; exact hc
 obtain ⟨e1,he1⟩:∃q,q=(drawn 200 e).2:=⟨_,rfl⟩
 obtain ⟨r1,hr1⟩:∃q,q=(drawn 200 e).1:=⟨_,rfl⟩
 unfold Zfs
 rw [←he1,←hr1] at g1 ⊢
 rw [←he1] at hc1
 have tl:=Zt9 (e:=e1) h hc1 r1
 simp [Za1,ZdL,g1,h,tl]
@[simp] theorem Zud (h:l+3 < θ.length):Zcr [.ref l,.int now] (upE θ l e)=.ok .non (upE θ l (ZhC e now)):=by
 by_cases c1:e.state=.opn
 ·simp [Zcr,ZeJ,Zds,h,c1,ZhC]
 ·by_cases c2:e.state=.waitOne<;>simp [Zcr,ZeJ,Zfi,Zds,h,c1,c2,ZhC]
def Zbj (e:Zn) (s:Seg):Zn:=Zfs (Zbv (Zah e s) s)
def Zb1 (e:Zn) (s:Seg) (now:Int):Zn:=
 if e.state=.opn∨e.state=.waitOne∨e.state=.waitTwo then
  (if (Zbj e s).early_fin=some (Zbj e s).rcv then ZhC (Zbj e s) now else Zbj e s)
 else e
theorem Zhd (num:Int):∀(r:List Int) (k:Nat) (e:Zn),(Zbc e num k r).early.length≤e.early.length+r.length
 | [],k,e=>Yd _
 | b::r,k,e=>by
  unfold Zbc
  refine Yt (Zhd num r (k+1) _) ?_
  split
  ·have:=Zi4 e.early (Zs num k) b
   simp only [Yb]
   omega
  ·simp only [Yb]; omega
theorem ZiE (e:Zn) (s:Seg):(Zbv e s).early=e.early:=by
 unfold Zbv
 split
 ·rfl
 ·split<;>rfl
theorem ZjC (e:Zn) (s:Seg):(Zah e s).early.length≤e.early.length+s.data.length:=by
 unfold Zah
 split<;>exact Zhd ..
theorem Zgo (num:Int):∀(r:List Int) (k:Nat) (e:Zn),(Zbc e num k r).come=e.come
 | [],k,e=>rfl
 | b::r,k,e=>by
  unfold Zbc
  rw [Zgo num r (k+1) _]
  split<;>rfl
theorem ZjB (e:Zn) (s:Seg):(Zbv e s).come=e.come:=by
 unfold Zbv
 split
 ·rfl
 ·split<;>rfl
theorem ZiF (e:Zn) (s:Seg):(Zah e s).come=e.come:=by
 unfold Zah
 split<;>exact Zgo ..
theorem ZiB (h:l+3 < θ.length) (hc:e.come.length≤64) (hl:e.early.length+s.data.length<200):ZaA [.ref l,s.d,.int now] (upE θ l e)=.ok .non (upE θ l (Zb1 e s now)):=by
 unfold Zb1
 by_cases c:e.state=.opn∨e.state=.waitOne∨e.state=.waitTwo
 ·rw [if_pos c]
  have k1:=Zj4 (e:=e) (s:=s) h (by omega)
  have k2:=ZkY (e:=Zah e s) (s:=s) h
  have k3:=Zho (e:=Zbv (Zah e s) s) h (by rw [ZjB,ZiF]; exact hc) (by rw [ZiE]; have:=ZjC e s; omega)
  have k4:Zfs (Zbv (Zah e s) s)=Zbj e s:=rfl
  rw [k4] at k3
  obtain ⟨e3,he3⟩:∃q,q=Zbj e s:=⟨_,rfl⟩
  rw [←he3] at k3 ⊢
  have c':e.state∈[State.opn,.waitOne,.waitTwo]:=by simpa using c
  by_cases c2:e3.early_fin=some e3.rcv
  ·simp [ZaA,ZbM,Zbe,h,c,k1,k2,k3,Zcc,c2]
  ·simp [ZaA,ZbM,Zbe,h,c,k1,k2,k3,Zcc,c2]
 ·rw [if_neg c]
  simp [ZaA,ZbM,Zbe,h,c]
def ZaS (e:Zn) (s:Seg) (now:Int):Zn:=
 if ZdE e s=false then ZbE e s now
 else if bears s 4=true then Zfp e s
 else if bears s 2=true then { e with owes_answer:=true }
 else if bears s 16=true then (if (ZaD e s now).1=true then Zb1 (ZaD e s now).2 s now else (ZaD e s now).2)
 else e
theorem ZjG (e:Zn) (s:Seg) (now:Int):(ZaD e s now).2.early=e.early:=by
 unfold ZaD
 split
 ·unfold Zay
  split
  ·unfold Zbm; split<;>rfl
  ·rfl
 ·split
  ·rfl
  ·show (Za4 (z8 e s now) now).early=e.early
   have h1:(ZcD e s now).early=e.early:=by
    unfold ZcD
    split
    ·split<;>rfl
    ·rfl
   have h2:(z8 e s now).early=e.early:=by
    unfold z8
    simp only
    split
    ·exact h1
    ·split
     ·split<;>exact h1
     ·split<;>exact h1
   unfold Za4
   split
   ·exact h2
   ·split
    ·exact h2
    ·split
     ·exact h2
     ·split<;>exact h2
theorem ZkF (e:Zn) (s:Seg) (now:Int):(ZaD e s now).2.come=e.come:=by
 unfold ZaD
 split
 ·unfold Zay
  split
  ·unfold Zbm; split<;>rfl
  ·rfl
 ·split
  ·rfl
  ·show (Za4 (z8 e s now) now).come=e.come
   have h1:(ZcD e s now).come=e.come:=by
    unfold ZcD
    split
    ·split<;>rfl
    ·rfl
   have h2:(z8 e s now).come=e.come:=by
    unfold z8
    simp only
    split
    ·exact h1
    ·split
     ·split<;>exact h1
     ·split<;>exact h1
   unfold Za4
   split
   ·exact h2
   ·split
    ·exact h2
    ·split
     ·exact h2
     ·split<;>exact h2
theorem ZgH (h:l+3 < θ.length) (hc:e.come.length≤64) (hl:e.early.length+s.data.length<200):Z9 [.ref l,s.d,.int now] (upE θ l e)=.ok .non (upE θ l (ZaS e s now)):=by
 unfold ZaS
 by_cases c1:ZdE e s=true
 ·by_cases c2:bears s 4=true
  ·simp [Z9,zw,zh,zy,h,c1,c2]
  ·by_cases c3:bears s 2=true
   ·simp [Z9,zw,zh,zy,zW,h,c1,c2,c3]
   ·by_cases c4:bears s 16=true
    ·have hs:=ZiB (e:=(ZaD e s now).2) (s:=s) (now:=now) h (by rw [ZkF]; exact hc) (by rw [ZjG]; exact hl)
     by_cases c5:(ZaD e s now).1=true
     ·simp [Z9,zw,zh,zy,zW,Zau,h,c1,c2,c3,c4,c5,hs]
     ·simp [Z9,zw,zh,zy,zW,Zau,h,c1,c2,c3,c4,c5]
    ·simp [Z9,zw,zh,zy,zW,Zau,h,c1,c2,c3,c4]
 ·simp [Z9,zw,zh,h,c1]
theorem Zhp (h:l+3 < θ.length) (hc:e.come.length≤64) {r:List Int} (hb:Byt r) (hr:ZaW r=true) (hf:Zgq e (Zb8 r)=true) (hl:e.early.length+(Zb8 r).data.length<200) (h1:¬e.state=.closed) (h2:¬e.state=.listen) (h3:¬e.state=.synSent):Za3 [.ref l,il r,.int now] (upE θ l e)=.ok (.bl true) (upE θ l (ZaS e (Zb8 r) now)):=by
 simp [Za3,Zdu,Zch,Zcg,Zcf,Zc4,ZeK,ZbN hb,hr,ZiO hb hr,h,hf,h1,h2,h3,ZgH h hc hl]
def Zck (e:Zn) (s:Seg) (now:Int):Zn:=
 match e.state with
 | .closed=>Zbm e s
 | .listen=>ZaX e s
 | .synSent=>zb e s now
 | _=>ZaS e s now
theorem Zf2 (h:l+3 < θ.length) (hc:e.come.length≤64) (hs:s.Ok) (hf:Zgq e s=true) (hl:e.early.length<150):Za3 [.ref l,il (putL s),.int now] (upE θ l e)=.ok (.bl true) (upE θ l (Zck e s now)):=by
 have hb:=Zjq hs.put
 have hr:=ZgN hs
 have hg:=ZjH hs
 have hd:s.data.length≤16:=hs.data.2
 unfold Zck
 cases c:e.state
 ·simp only
  rw [Zhr h hb hr (by rw [hg]; exact hf) c,hg]
 ·simp only
  rw [Zhq h hb hr (by rw [hg]; exact hf) c,hg]
 ·simp only
  rw [ZgI h hb hr (by rw [hg]; exact hf) c,hg]
 all_goals
  simp only
  rw [Zhp h hc hb hr (by rw [hg]; exact hf) (by rw [hg]; omega) (by rw [c]; decide) (by rw [c]; decide) (by rw [c]; decide),hg]
def Zgv (e:Zn):Bool:=!e.has_closed && decide (e.state∈[State.synSent,.synCome,.opn,.closeWait])
def Zj0 (e:Zn) (r:List Int):List Int:=Zbh r none (some (64-(e.written.length:Int)))
def ZdO (e:Zn) (r:List Int):Zn:=if Zgv e=true then { e with written:=e.written++Zj0 e r,behind:=Zs e.behind (Zj0 e r).length } else e
theorem ZqT (h:l+3 < θ.length) (hc:e.written.length≤64) (r:List Int):p_write [.ref l,il r] (upE θ l e)=.ok (.int (if Zgv e=true then (Zj0 e r).length else 0)) (upE θ l (ZdO e r)):=by
 have hw:Zj0 e r=Zbh r none (some (64-(e.written.length:Int))):=rfl
 unfold ZdO Zgv
 by_cases c:e.has_closed=true
 ·simp [p_write,Zft,ZdJ,h,c]
 ·by_cases c2:e.state∈[State.synSent,.synCome,.opn,.closeWait]
  ·have c2':e.state=State.synSent∨e.state=State.synCome∨e.state=State.opn∨e.state=State.closeWait:=by simpa using c2
   simp [p_write,Zft,ZdJ,h,c,c2',←hw,Zt8 h hc]
  ·have c2':¬(e.state=State.synSent∨e.state=State.synCome∨e.state=State.opn∨e.state=State.closeWait):=by simpa using c2
   simp [p_write,Zft,ZdJ,h,c,c2']
def ZiR (e:Zn) (n:Int):Zn:=
 if ZN e=0∧0<ZN { e with come:=e.come.drop n.toNat }∧e.state∈[State.opn,.waitOne,.waitTwo] then { e with come:=e.come.drop n.toNat,owes_answer:=true } else { e with come:=e.come.drop n.toNat }
theorem Zt4 (h:l+3 < θ.length):ZdP [.ref l,.int n] (upE θ l e)=.ok (il (e.come.take n.toNat)) (upE θ l (ZiR e n)):=by
 have tk:=ZqU (θ:=θ) (l:=l) (e:=e) (n:=n) h
 obtain ⟨e1,he1⟩:∃q:Zn,q={ e with come:=e.come.drop n.toNat }:=⟨_,rfl⟩
 obtain ⟨k1,hk1⟩:∃q,q=il (e.come.take n.toNat):=⟨_,rfl⟩
 have s1:e.state=e1.state:=by rw [he1]
 unfold ZiR
 have e2:({ e with come:=e.come.drop n.toNat,owes_answer:=true }:Zn)={ e1 with owes_answer:=true }:=by rw [he1]
 rw [e2,←he1,←hk1,s1]
 rw [←he1,←hk1] at tk
 by_cases c1:ZN e=0
 ·by_cases c2:0<ZN e1
  ·by_cases c3:e1.state∈[State.opn,.waitOne,.waitTwo]
   ·have c3':e1.state=State.opn∨e1.state=State.waitOne∨e1.state=State.waitTwo:=by simpa using c3
    simp [ZdP,Zfb,Zdp,h,tk,c1,c2,c3']
   ·have c3':¬(e1.state=State.opn∨e1.state=State.waitOne∨e1.state=State.waitTwo):=by simpa using c3
    simp [ZdP,Zfb,Zdp,h,tk,c1,c2,c3']
  ·simp [ZdP,Zfb,Zdp,h,tk,c1,c2]
 ·simp [ZdP,Zfb,Zdp,h,tk,c1]
end
theorem Zox {n k:Int} (h : -2147483648≤k∧k<2147483648):ZL (Zs n k) n=k:=by
 unfold ZL Zs; omega
theorem Zd6 {n j k:Int} (h : -2147483648≤j-k∧j-k<2147483648):ZL (Zs n j) (Zs n k)=j-k:=by
 unfold ZL Zs; omega
theorem ZiW {n k:Int} (h : -2147483648<k∧k≤2147483648):ZL n (Zs n k) = -k:=by
 unfold ZL Zs; omega
theorem Zcm (n j k:Int):Zs (Zs n j) k=Zs n (j+k):=by
 unfold Zs; omega
theorem Zga (n k:Int):0≤Zs n k∧Zs n k≤4294967295:=by
 unfold Zs; omega
theorem ZbX {n:Int} (h:0≤n∧n≤4294967295):Zs n 0=n:=by
 unfold Zs; omega
theorem Zhz {n k:Int} (h:0<k∧k<4294967296):¬Zs n k=n:=by
 unfold Zs; omega
theorem Zf9 {n j k:Int} (h:0≤j∧0≤k∧j<4294967296∧k<4294967296):Zs n j=Zs n k↔j=k:=by
 unfold Zs; omega
def ZeX (num:Int):Nat→List Int→EL
 | _,[]=>[]
 | k,b::r=>(Zs num k,b)::ZeX num (k+1) r
theorem Zel (p:Int×Int) (m:EL) (n:Int):atE (p::m) n=if p.1=n then some p.2 else atE m n:=by
 unfold atE
 by_cases h:p.1=n<;>simp [h]
theorem Zr7 (m m':EL) (n:Int) (h:atE m n=none):atE (m++m') n=atE m' n:=by
 induction m with
 | nil=>rfl
 | cons p r ih=>
  rw [Zel] at h
  rw [Jm,Zel]
  by_cases e:p.1=n
  ·rw [if_pos e] at h; cases h
  ·rw [if_neg e] at h ⊢
   exact ih h
theorem ZmB (num:Int):∀(r:List Int) (k j:Nat),j<k→k+r.length<4294967296→atE (ZeX num k r) (Zs num j)=none
 | [],k,j,_,_=>rfl
 | b::r,k,j,h,hl=>by
  have hl':k+r.length+1<4294967296:=by simpa [Jb] using hl
  rw [ZeX,Zel,if_neg (by rw [Zf9 (by omega)]; omega)]
  exact ZmB num r (k+1) j (by omega) (by omega)
theorem Zlt (m:EL) (n:Int) (h:atE m n=none):ZdG m n=m:=by
 induction m with
 | nil=>rfl
 | cons p r ih=>
  rw [Zel] at h
  by_cases e:p.1=n
  ·rw [if_pos e] at h; cases h
  ·rw [if_neg e] at h
   unfold ZdG at *
   rw [YN (by simp [e]),ih h]
theorem Znm (num b:Int) (r:List Int) (k:Nat) (hl:k+1+r.length<4294967296):ZdG ((Zs num k,b)::ZeX num (k+1) r) (Zs num k)=ZeX num (k+1) r:=by
 have:=Zlt (ZeX num (k+1) r) (Zs num k) (ZmB num r (k+1) k (by omega) hl)
 unfold ZdG at *
 rw [YM (by simp),this]
theorem Zh6 (num:Int):∀(r:List Int) (k:Nat) (e:Zn),k+r.length<4294967296→(∀i:Nat,k≤i→i<k+r.length→inWin e (Zs num i)=true∧atE e.early (Zs num i)=none)→Zbc e num k r={ e with early:=e.early++ZeX num k r }
 | [],k,e,_,_=>by simp [Zbc,ZeX]
 | b::r,k,e,hl,h=>by
  have hl':k+r.length+1<4294967296:=by simpa [Jb] using hl
  obtain ⟨h1,h2⟩:=h k (Yd _) (by simp)
  unfold Zbc
  rw [if_pos h1]
  have h3:Zhc e.early (Zs num k) b=e.early++[(Zs num k,b)]:=by unfold Zhc; rw [h2]
  rw [h3,Zh6 num r (k+1) _ (by omega)]
  ·simp [ZeX]
  ·intro i hi hj
   obtain ⟨g1,g2⟩:=h i (by omega) (by simp; omega)
   refine ⟨g1,?_⟩
   show atE (e.early++[(Zs num k,b)]) (Zs num i)=none
   rw [Zr7 _ _ _ g2,Zel,if_neg (by rw [Zf9 (by omega)]; omega)]
   rfl
theorem ZkJ (num:Int):∀(r:List Int) (k n:Nat) (e:Zn),k+r.length<4294967296→r.length<n→e.rcv=Zs num k→e.early=ZeX num k r→(∀i:Nat,k≤i→i<k+r.length→¬e.early_fin=some (Zs num i))→drawn n e=(r,{ e with early:=[],rcv:=Zs num (k+r.length:Nat) })
 | [],k,0,e,_,hn,_,_,_=>by simp at hn
 | [],k,n+1,e,_,_,h1,h2,_=>by
  unfold drawn
  have:atE e.early e.rcv=none:=by rw [h2]; rfl
  have he:e={ e with early:=[],rcv:=Zs num k }:=by
   obtain ⟨_⟩:=e
   simp only [ZeX] at h1 h2
   subst h1 h2
   rfl
  split
  ·simpa using he
  ·rw [this]
   simpa using he
 | b::r,k,0,e,_,hn,_,_,_=>by simp at hn
 | b::r,k,n+1,e,hl,hn,h1,h2,h3=>by
  have hl':k+r.length+1<4294967296:=by simpa [Jb] using hl
  have hn':r.length<n:=by simpa using hn
  unfold drawn
  rw [if_neg (by rw [h1]; exact h3 k (Yd _) (by simp))]
  have:atE e.early e.rcv=some b:=by rw [h2,h1,ZeX,Zel]; simp
  rw [this]
  simp only
  have g:=ZkJ num r (k+1) n { e with early:=ZdG e.early e.rcv,rcv:=Zs e.rcv 1 } (by omega) hn' (by show Zs e.rcv 1=_; rw [h1,Zcm]; simp) (by show ZdG e.early e.rcv=_; rw [h2,h1,ZeX,Znm _ _ _ _ (by omega)]) (fun i hi hj=>h3 i (by omega) (by simp; omega))
  rw [g]
  simp [Jb,Nat.add_comm 1]
theorem ZhE {r:List Int} {k:Int} (h:(r.length:Int)≤k):Zbh r none (some k)=r:=by
 rw [Ze9 r (by omega)]
 exact YO (by omega)
theorem Zj8 {e:Zn} {s:Seg} (hd:s.data.length≤16) (hn:s.num=e.rcv) (hr:0≤e.rcv∧e.rcv≤4294967295) (he:e.early=[]) (hf:e.early_fin=none) (hw:e.come.length+s.data.length+(if bears s 1=true then 1 else 0)≤64) :
  Zbj e s={ e with come:=e.come++s.data,rcv:=Zs e.rcv s.data.length,owes_answer:=e.owes_answer || decide (0<s.data.length) || bears s 1,early_fin:=if bears s 1=true then some (Zs e.rcv s.data.length) else none }:=by
 have w:∀i:Nat,i<s.data.length∨(i=s.data.length∧bears s 1=true)→inWin e (Zs e.rcv i)=true:=by
  intro i hi
  unfold inWin ZN
  rw [Zox (by omega)]
  have:(i:Int)<64-e.come.length:=by
   rcases hi with hi | ⟨rfl,hi⟩
   ·omega
   ·rw [if_pos hi] at hw; omega
  simp; omega
 have k1:Zbc e s.num 0 s.data={ e with early:=ZeX e.rcv 0 s.data }:=by
  rw [hn,Zh6 e.rcv s.data 0 e (by omega) (fun i _ hi=>⟨w i (.inl (by omega)),by rw [he]; rfl⟩),he]
  rfl
 have k2:Zah e s={ e with early:=ZeX e.rcv 0 s.data,owes_answer:=e.owes_answer || decide (0<s.data.length) }:=by
  unfold Zah
  rw [k1]
  by_cases c:0<s.data.length
  ·rw [if_pos c]; simp [c]
  ·rw [if_neg c]; simp [c]
 obtain ⟨oa,hoa⟩:∃x,x=(e.owes_answer || decide (0<s.data.length)):=⟨_,rfl⟩
 rw [←hoa] at k2 ⊢
 have k3:Zbv (Zah e s) s={ e with early:=ZeX e.rcv 0 s.data,owes_answer:=oa || bears s 1,early_fin:=if bears s 1=true then some (Zs e.rcv s.data.length) else none }:=by
  rw [k2]
  unfold Zbv
  by_cases c:bears s 1=true
  ·have iw:inWin ({ e with early:=ZeX e.rcv 0 s.data,owes_answer:=oa }) (Zs s.num s.data.length)=true:=by
    rw [hn]; exact w _ (.inr ⟨rfl,c⟩)
   rw [if_neg (by simp [c]),if_pos ⟨hf,iw⟩,hn]
   simp [c]
  ·rw [if_pos (by simpa using c)]
   simp [c,hf]
 unfold Zbj Zfs
 rw [k3]
 obtain ⟨bf,hbf⟩:∃x,x=bears s 1:=⟨_,rfl⟩
 rw [←hbf]
 rw [ZkJ e.rcv s.data 0 200 _ (by omega) (by omega) (by simpa using (ZbX hr).symm) rfl (by
  intro i _ hi
  simp only
  cases bf
  ·simp
  ·simp only [if_true,Option.some.injEq]
   rw [Zf9 (by omega)]
   omega)]
 unfold Zgn
 simp only
 rw [ZhE (by unfold ZN; simp only; split at hw<;>omega)]
 simp [he]
@[simp] theorem ZBt {f:Int} (h0:0≤f) (h1:f≤31):bit f 1=f % 2:=(Zpn ⟨h0,h1⟩).1
@[simp] theorem ZBs {f:Int} (h0:0≤f) (h1:f≤31):bit f 2=f/2 % 2:=(Zpn ⟨h0,h1⟩).2.1
@[simp] theorem ZBr {f:Int} (h0:0≤f) (h1:f≤31):bit f 4=f/4 % 2:=(Zpn ⟨h0,h1⟩).2.2.1
@[simp] theorem ZAL {f:Int} (h0:0≤f) (h1:f≤31):bit f 16=f/16 % 2:=(Zpn ⟨h0,h1⟩).2.2.2.2
@[simp] theorem Zxj {a b c d f w m k:Int} {x:List Int}:bears ⟨a,b,c,d,f,w,m,x⟩ k=decide (bit f k=1):=rfl
@[simp] theorem ZxI {a b c d f w m:Int} {x:List Int}:Zhu ⟨a,b,c,d,f,w,m,x⟩=x.length+bit f 2+bit f 1:=rfl
def Zsr:Option Seg→List Int
 | none=>[]
 | some s=>putL s
@[simp] theorem Zuv:Zsr none=[]:=rfl
@[simp] theorem Zuu (s:Seg):Zsr (some s)=putL s:=rfl
theorem ZhR (s:Seg):putL s≠[]:=fun z=>by
 have:=ZlO (s:=s)
 rw [z] at this
 simp at this
 split at this<;>omega
section
variable {θ:Sto} {l:Nat} {e:Zn} {s:Seg} {now n:Int}
theorem Zpi (θ:Sto) (e e':Zn):upE (θ++cells θ.length e) θ.length e'=θ++cells θ.length e':=by
 have h0:∀(i:Nat) (c:Cell) (r:Sto),(θ++r).set (θ.length+i) c=θ++r.set i c:=by
  intro i c r
  rw [List.set_append_right _ _ (by omega)]
  congr 2
  omega
 have h1:∀(c:Cell) (r:Sto),(θ++r).set θ.length c=θ++r.set 0 c:=fun c r=>h0 0 c r
 unfold upE cells
 rw [h1,h0,h0,h0]
 rfl
end
structure Q where
 st:State
 una:Int
 nxt:Int
 beh:Int
 rcv:Int
 told:Int
 by_:Int
 wnd:Int
 most:Int
 written:List Int
 come:List Int
 fin:Option Int
 cl:Bool
 oa:Bool
 pr:Bool
 since:Int
 wait:Int
 tries:Int
def q0 (W m:Int) (t:Int):Q:=⟨.opn,1,1,1,1,1,1,W,if m=0 then 12 else m,[],[],none,false,false,false,t,1000,0⟩
theorem ZAi {n j k:Int} (h1 : -2147483648≤j-k) (h2:j-k<2147483648):ZL (Zs n j) (Zs n k)=j-k:=Zd6 ⟨h1,h2⟩
theorem ZwD {n j k:Int} (h1 : -2147483648≤j-k) (h2:j-k<2147483648):Za0 (Zs n j) (Zs n k)=decide (0<j-k):=by
 unfold Za0
 rw [ZAi h1 h2]
section
variable {e:Zn} {t:Int}
structure Calm (e:Zn) (t:Int):Prop where
 rst:e.owed_reset=none
 st:e.state∉[State.closed,.listen,.synSent,.synCome]
 tw:e.state=.timeWait→t-e.since<120000
 due:¬e.nxt=e.una→t-e.since<e.wait
theorem Calm.go (c:Calm e t):zV e t=Zao e t:=by
 have hs:=c.st
 simp only [Yr,Jn,or_false,not_or] at hs
 have h1:¬(e.state=.timeWait∧120000≤t-e.since):=fun h=>by have:=c.tw h.1; omega
 have h2:¬(e.state=.closed∨e.state=.listen):=fun h=>h.elim hs.1 hs.2.1
 have h3:¬(¬e.nxt=e.una∧Zdj e t=true):=fun h=>by
  have:=c.due h.1
  have h2:=h.2
  unfold Zdj at h2
  simp at h2
  omega
 unfold zV
 rw [c.rst]
 simp only [if_neg h1]
 rw [if_neg h2,if_neg h3]
end
section
variable {e:Zn} {s:Seg} {t:Int}
theorem Zr2 (hs:e.state∉[State.closed,.listen,.synSent]) (hf:ZdE e s=true) (h4:bears s 4=false) (h2:bears s 2=false) (h16:bears s 16=true):Zck e s t=if (ZaD e s t).1=true then Zb1 (ZaD e s t).2 s t else (ZaD e s t).2:=by
 have:Zck e s t=ZaS e s t:=by
  unfold Zck
  simp only [Yr,Jn,or_false,not_or] at hs
  split
  ·rename_i h; exact absurd h hs.1
  ·rename_i h; exact absurd h hs.2.1
  ·rename_i h; exact absurd h hs.2.2
  ·rfl
 rw [this]
 unfold ZaS
 rw [hf,h4,h2,h16]
 simp
theorem Zph (hs:e.state∉[State.closed,.listen,.synSent]):Zck e s t=ZaS e s t:=by
 unfold Zck
 simp only [Yr,Jn,or_false,not_or] at hs
 split
 ·rename_i h; exact absurd h hs.1
 ·rename_i h; exact absurd h hs.2.1
 ·rename_i h; exact absurd h hs.2.2
 ·rfl
end
theorem Zo0 {α:Type} {F:α→D} {fE:EM} {body:SM} {k:Nat} {ρ:List Sl} {θ θ0:Sto} (Inv:List α→List Sl→Sto→Prop) (Ret:D→Prop) (xs:List α) (hn:fE ρ θ0=.ok (.lst (xs.map F)) θ) (hi:Inv xs ρ θ)
  (step:∀x r ρ θ,Inv (x::r) ρ θ→(∃ρ' θ',body (ρ.set k (.val (F x))) θ=.ok (.nx,ρ') θ'∧Inv r ρ' θ')∨(∃d ρ' θ',body (ρ.set k (.val (F x))) θ=.ok (.rt d,ρ') θ'∧Ret d)) (hk:∀i ρ θ,Inv i ρ θ→k < ρ.length) :
  (∃ρ' θ',ZcH (mIn fE) (gNm k) body ρ θ0=.ok (.nx,ρ') θ'∧Inv [] ρ' θ')∨(∃d ρ' θ',ZcH (mIn fE) (gNm k) body ρ θ0=.ok (.rt d,ρ') θ'∧Ret d):=by
 have hm:ZcH (mIn fE) (gNm k) body ρ θ0=Zb9 (.seq (.lst (xs.map F))) (xs.map F) (gNm k) body (xs.map F) ρ θ:=by
  unfold ZcH
  have:mIn fE ρ θ0=.ok (.seq (.lst (xs.map F))) θ:=by simp [hn]
  rw [this,R.bind_ok]
  rfl
 rw [hm]
 have key:∀(ys:List α) ρ θ,Inv ys ρ θ→(∃ρ' θ',Zb9 (.seq (.lst (xs.map F))) (xs.map F) (gNm k) body (ys.map F) ρ θ=.ok (.nx,ρ') θ'∧Inv [] ρ' θ')∨(∃d ρ' θ',Zb9 (.seq (.lst (xs.map F))) (xs.map F) (gNm k) body (ys.map F) ρ θ=.ok (.rt d,ρ') θ'∧Ret d):=by
  intro ys
  induction ys with
  | nil=>
   intro ρ θ hI
   left
   refine ⟨ρ,θ,?_,hI⟩
   have hit:(Src.seq (.lst (xs.map F))).items θ=some (xs.map F):=rfl
   simp [Zb9,hit]
  | cons y ys ih=>
   intro ρ θ hI
   have hg:gNm k (F y) ρ=some (ρ.set k (.val (F y))):=by
    have:=hk _ _ _ hI
    simp [gNm,this]
   have hit:(Src.seq (.lst (xs.map F))).items θ=some (xs.map F):=rfl
   rw [Yf]
   simp only [Zb9,hit,if_true,hg]
   rcases step _ _ ρ θ hI with ⟨ρ',θ',h,hI'⟩ | ⟨d,ρ',θ',h,hR⟩
   ·rw [h,R.bind_ok,Zbq]
    exact ih ρ' θ' hI'
   ·right
    exact ⟨d,ρ',θ',by rw [h]; rfl,hR⟩
 exact key xs ρ θ hi
end
end My
namespace L2.MM
open PySem PySem.Spec PyProof.Rows
section
variable {X:Cx}
def Zma (fo fi fv:EM):SM:=fun ρ θ=>(fv ρ θ).bind fun v θ=>(fo ρ θ).bind fun d θ=>(fi ρ θ).bind fun y θ=>match keyD y,dkOf θ d with
 | some k,some (l,kvs)=>if kvs.length<BIG then .ok (.nx,ρ) (θ.set l (.dK (putD kvs k v))) else .bad
 | _,_=>.bad
theorem ZrC {o i value:Expr} {fo fi fv:EM} {pos pos':Pos} {k:Nat} (hr:Room k X.A) (ho:ME X o fo) (hi:ME X i fi) (hv:ME X value fv) (hs:swapsWith value (some (.Subscript o i pos')) pos.line X.env=pure false:=by rfl):MS X (.Assign [.Subscript o i pos'] value pos) (Zma fo fi fv):=
 PS.imp (ZlQ (ZgE hr) ho hi hv hs) fun D σ H h=>by
 obtain ⟨B,θ,ρ,F,w⟩:=h
 refine ZJ (Zd1 F w) ?_
 rintro v H1 ⟨B1,θ1,dv,E1,F1,rv,w1⟩
 refine ZJ (Zd1 F1 w1) ?_
 rintro x H2 ⟨B2,θ2,d,E2,F2,rd,w2⟩
 refine ZJ (Zd1 F2 w2) ?_
 rintro y H3 ⟨B3,θ3,dy,E3,F3,ry,w3⟩
 split at w3
 ·rename_i k l kvs ek ed
  split at w3
  ·rename_i hb
   obtain ⟨hl,rfl,vs,h1,h2⟩:=ZdH F3.good (rd.ext E3.toExtS) ed
   cases keyD_rep ry ek
   have hz:vs.length<sizeLine:=by
    have:=zM (n:=kvs.length+1) hb
    rw [RepKV.len h2]; omega
   refine ⟨_,_,rfl,DPut.k h1 hz,?_⟩
   have E4:=ZdF F3.good hl (.dK (ZcM vs k v))
   have G4:=Zdl F3.good hl (o:=.dK (ZcM vs k v)) (c:=.dK (putD kvs k dv)) ⟨_,zd,(h2.putD ((rv.ext E2.toExtS).ext E3.toExtS)).ext E4.toExtS⟩
   exact w3 _ _ _ E4.toExtS (F3.ext E4 G4)
  ·exact w3.elim
 ·exact w3.elim
end
section
variable {ρ:List Sl} {θ:Sto}
@[simp] theorem x_dput (fo fi fv:EM):Zma fo fi fv ρ θ=(fv ρ θ).bind fun v θ=>(fo ρ θ).bind fun d θ=>(fi ρ θ).bind fun y θ=>match keyD y,dkOf θ d with
 | some k,some (l,kvs)=>if kvs.length<BIG then .ok (.nx,ρ) (θ.set l (.dK (putD kvs k v))) else .bad
 | _,_=>.bad:=nr rfl
end
end L2.MM
namespace My
open PySem L2 L2.MM
noncomputable section
theorem for_rng {fi:IM} {body:SM} {k:Nat} {ρ:List Sl} {θ:Sto} {lo:Int} {n:Nat} (Inv:Nat→List Sl→Sto→Prop) (hn:fi ρ θ=.ok (.rng lo n) θ) (hi:Inv 0 ρ θ)
  (step:∀(i:Nat) ρ θ,i<n→Inv i ρ θ→∃ρ' θ',body (ρ.set k (.val (.int (lo+(i:Int))))) θ=.ok (.nx,ρ') θ'∧Inv (i+1) ρ' θ') (hk:∀i ρ θ,Inv i ρ θ→k < ρ.length) :
  ∃ρ' θ',ZcH fi (gNm k) body ρ θ=.ok (.nx,ρ') θ'∧Inv n ρ' θ':=by
 obtain ⟨all,hall⟩:∃x,x=(List.range n).map fun (i:Nat)=>D.int (lo+(i:Int)):=⟨_,rfl⟩
 have hm:ZcH fi (gNm k) body ρ θ=Zb9 (.rng lo n) all (gNm k) body all ρ θ:=by
  unfold ZcH
  rw [hn,R.bind_ok]
  simp only [ZgM,←hall]
 rw [hm]
 have key:∀(m:Nat) ρ θ,m≤n→Inv (n-m) ρ θ→∃ρ' θ',Zb9 (.rng lo n) all (gNm k) body (all.drop (n-m)) ρ θ=.ok (.nx,ρ') θ'∧Inv n ρ' θ':=by
  intro m
  induction m with
  | zero=>
   intro ρ θ _ hI
   refine ⟨ρ,θ,?_,by simpa using hI⟩
   rw [Nat.sub_zero,Y2 (by rw [hall]; simp)]
   simp [Zb9,hall]
  | succ m ih=>
   intro ρ θ hm hI
   have hlt:n-(m+1)<n:=by omega
   have hla:n-(m+1)<all.length:=by rw [hall]; simpa using hlt
   have e:n-(m+1)+1=n-m:=by omega
   have hx:all[n-(m+1)]=D.int (lo+((n-(m+1):Nat):Int)):=by simp [hall]
   have hg:gNm k (D.int (lo+((n-(m+1):Nat):Int))) ρ=some (ρ.set k (.val (.int (lo+((n-(m+1):Nat):Int))))):=by
    have:=hk _ _ _ hI
    simp [gNm,this]
   have hit:(Src.rng lo n).items θ=some all:=by rw [ZgM,hall]
   rw [Yv hla,hx,e]
   simp only [Zb9,hit,if_true,hg]
   obtain ⟨ρ',θ',h,hI'⟩:=step _ ρ θ hlt hI
   rw [h,R.bind_ok,Zbq]
   exact ih ρ' θ' (by omega) (by rw [←e]; exact hI')
 have:=key n ρ θ (Yd _) (by rw [Jf]; exact hi)
 rw [Jf,Y1] at this
 exact this
section
variable {B:Sto} {l:Nat} {e:Zn} {m m':List (Key×D)}
theorem Zt0 (h:l+3<B.length) (X:Sto):upE B l e++X=upE (B++X) l e:=by
 unfold upE
 rw [YR _ _ (by omega),YR _ _ (by simp; omega),YR _ _ (by simp; omega),YR _ _ (by simp; omega)]
end
@[simp] theorem x_dput {fo fi fv:EM} {ρ:List Sl} {θ:Sto}:Zma fo fi fv ρ θ=(fv ρ θ).bind fun v θ=>(fo ρ θ).bind fun d θ=>(fi ρ θ).bind fun y θ=>match keyD y,dkOf θ d with
 | some k,some (l,kvs)=>if kvs.length<BIG then .ok (.nx,ρ) (θ.set l (.dK (putD kvs k v))) else .bad
 | _,_=>.bad:=nr' rfl
end
end My
namespace L2.MM
open PySem PySem.Spec PyProof.Rows
def Zh2 (θ:Sto):D→Option (Nat×List D)
 | .ref l=>match θ[l]? with
  | some (.lst xs)=>some (l,xs)
  | _=>none
 | _=>none
def dtOf (θ:Sto):D→Option (Nat×List (List Key×D))
 | .ref l=>match θ[l]? with
  | some (.dT kvs)=>some (l,kvs)
  | _=>none
 | _=>none
def Zmi:List D→Option (List Key)
 | []=>some []
 | d::ds=>match keyD d,Zmi ds with
  | some k,some ks=>some (k::ks)
  | _,_=>none
def ktD:D→Option (List Key)
 | .tup xs=>Zmi xs
 | _=>none
def valT (kvs:List (List Key×D)) (k:List Key):Option D:=(kvs.find? fun kv=>decide (kv.1=k)).map (·.2)
def putT (kvs:List (List Key×D)) (k:List Key) (v:D):List (List Key×D):=
 if (kvs.any fun kv=>decide (kv.1=k))=true then kvs.map (fun kv=>if kv.1=k then (kv.1,v) else kv) else kvs++[(k,v)]
section
variable {B:Bx} {H:Hp}
theorem ZhB {cl:Mo} {θ:Sto} (G:Good cl B θ H) {d:D} {v:V} {l:Nat} {xs:List D} (r:RepV B H d v) (h:Zh2 θ d=some (l,xs)):l<B.n∧v=.ref (B.m l)∧∃vs,H (B.m l)=some (.lst vs)∧RepL B H xs vs:=by
 cases d with
 | ref k=>
  simp only [Zh2] at h
  split at h
  ·rename_i xs' e
   cases h
   obtain ⟨hl,rfl⟩:=r
   obtain ⟨vs,h1,h2⟩:=G.cel _ _ e
   exact ⟨hl,rfl,vs,h1,h2⟩
  ·cases h
 | _=>cases h
theorem ZjJ {cl:Mo} {θ:Sto} (G:Good cl B θ H) {d:D} {v:V} {l:Nat} {kvs:List (List Key×D)} (r:RepV B H d v) (h:dtOf θ d=some (l,kvs)):l<B.n∧v=.ref (B.m l)∧∃vs,H (B.m l)=some (.dT vs)∧RepKV B H kvs vs:=by
 cases d with
 | ref k=>
  simp only [dtOf] at h
  split at h
  ·rename_i xs' e
   cases h
   obtain ⟨hl,rfl⟩:=r
   obtain ⟨vs,h1,h2⟩:=G.cel _ _ e
   exact ⟨hl,rfl,vs,h1,h2⟩
  ·cases h
 | _=>cases h
theorem Zi2:∀{ds:List D} {vs:List V} {ks:List Key},RepL B H ds vs→Zmi ds=some ks→vs=ks.map kV
 | [],vs,ks,r,h=>by cases h; exact r
 | d::ds,vs,ks,r,h=>by
  obtain ⟨v,vs',rfl,r1,r2⟩:=r
  simp only [Zmi] at h
  split at h
  ·rename_i k ks' e1 e2
   cases h
   rw [keyD_rep r1 e1,Zi2 r2 e2]
   rfl
  ·cases h
theorem Zmh {d:D} {v:V} {ks:List Key} (r:RepV B H d v) (h:ktD d=some ks):∃b,v=.ref b∧H b=some (.tup (ks.map kV)):=by
 cases d with
 | tup xs=>
  obtain ⟨a,vs,rfl,h1,_,h2⟩:=r
  exact ⟨a,rfl,by rw [h1,Zi2 h2 h]⟩
 | _=>cases h
theorem RepKV.valT (k:List Key):∀{ks:List (List Key×D)} {vs:List (List Key×V)},RepKV B H ks vs→(L2.MM.valT ks k=Option.none∧valV vs k=Option.none)∨∃d v,L2.MM.valT ks k=some d∧valV vs k=some v∧RepV B H d v
 | _,_,.nil=>.inl ⟨rfl,rfl⟩
 | (k1,d1)::ks,(k2,v2)::vs,.cons ⟨h1,h2⟩ t=>by
  cases (show k1=k2 from h1)
  by_cases e:k1=k
  ·refine .inr ⟨d1,v2,?_,?_,h2⟩<;>simp [L2.MM.valT,valV,List.find?_cons,e]
  ·have:=RepKV.valT k t
   simpa [L2.MM.valT,valV,List.find?_cons,e] using this
theorem RepKV.anyT (k:List Key):∀{ks:List (List Key×D)} {vs:List (List Key×V)},RepKV B H ks vs→(ks.any fun kv=>decide (kv.1=k))=(vs.any fun kv=>decide (kv.1=k))
 | _,_,.nil=>rfl
 | (k1,d1)::ks,(k2,v2)::vs,.cons ⟨h1,h2⟩ t=>by
  cases (show k1=k2 from h1)
  rw [YF,YF,RepKV.anyT k t]
theorem RepKV.snocT {k:List Key} {d:D} {v:V} (r:RepV B H d v):∀{ks:List (List Key×D)} {vs:List (List Key×V)},RepKV B H ks vs→RepKV B H (ks++[(k,d)]) (vs++[(k,v)])
 | _,_,.nil=>.cons ⟨rfl,r⟩ .nil
 | _,_,.cons h t=>.cons h (RepKV.snocT r t)
theorem RepKV.overT {k:List Key} {d:D} {v:V} (r:RepV B H d v):∀{ks:List (List Key×D)} {vs:List (List Key×V)},RepKV B H ks vs→RepKV B H (ks.map fun kv=>if kv.1=k then (kv.1,d) else kv) (vs.map fun kv=>if kv.1=k then (kv.1,v) else kv)
 | _,_,.nil=>.nil
 | (k1,d1)::ks,(k2,v2)::vs,.cons ⟨h1,h2⟩ t=>by
  cases (show k1=k2 from h1)
  rw [Yf,Yf]
  refine .cons ?_ (RepKV.overT r t)
  by_cases e:k1=k
  ·rw [if_pos (show (k1,d1).1=k from e),if_pos (show (k1,v2).1=k from e)]; exact ⟨rfl,r⟩
  ·rw [if_neg (show ¬(k1,d1).1=k from e),if_neg (show ¬(k1,v2).1=k from e)]; exact ⟨rfl,h2⟩
theorem RepKV.putT {k:List Key} {d:D} {v:V} (r:RepV B H d v) {ks:List (List Key×D)} {vs:List (List Key×V)} (h:RepKV B H ks vs):RepKV B H (L2.MM.putT ks k d) (ZcM vs k v):=by
 unfold L2.MM.putT ZcM
 rw [h.anyT k]
 split
 ·exact h.overT r
 ·exact h.snocT r
end
section
variable {X:Cx}
def Zmc (fo fe:EM):EM:=fun ρ θ=>(fo ρ θ).bind fun d θ=>match Zh2 θ d with
 | none=>.bad
 | some _=>(fe ρ θ).bind fun y θ=>match Zh2 θ d with
  | some (l,xs)=>if xs.length<BIG then .ok .non (θ.set l (.lst (xs++[y]))) else .bad
  | none=>.bad
theorem Zl7 {o e:Expr} {fo fe:EM} {apos pos:Pos} (hpe:PE X (.Call (.Attribute o "append" apos) [e] [] pos) (tBM X.K "list" Zjp (tM X fo) (ZlJ (tM X fe) ZnT))):ME X (.Call (.Attribute o "append" apos) [e] [] pos) (Zmc fo fe):=by
 refine PE.imp hpe fun σ H Q h=>?_
 obtain ⟨B,θ,ρ,F,w⟩:=h
 refine ZJ (step F w) ?_
 rintro v H1 ⟨B1,θ1,d,E1,F1,rd,w1⟩
 split at w1
 ·exact w1.elim
 ·rename_i q ed
  obtain ⟨l,xs⟩:=q
  obtain ⟨hl,rfl,vs,h1,h2⟩:=ZhB F1.good rd ed
  refine ⟨.inl ⟨rfl,vs,SqL.of h1⟩,?_⟩
  refine ZJ (step F1 w1) ?_
  rintro y H2 ⟨B2,θ2,dy,E2,F2,ry,w2⟩
  split at w2
  ·rename_i l2 xs2 ed2
   obtain ⟨hl2,e2,vs2,h3,h4⟩:=ZhB F2.good (rd.ext E2.toExtS) ed2
   have e3:B1.m l=B2.m l2:=by injection e2
   split at w2
   ·rename_i hb
    refine ⟨B1.m l,vs2,y,rfl,rfl,by rw [e3]; exact h3,by rw [h4.len]; exact Yh hb (zM (Yd _)),?_⟩
    rw [e3]
    have E4:=ZdF F2.good hl2 (.lst (vs2++[y]))
    have G4:=Zdl F2.good hl2 (o:=.lst (vs2++[y])) (c:=.lst (xs2++[dy])) ⟨_,zd,(h4.app (show RepL B2 H2 [dy] [y] from ⟨y,[],rfl,ry,rfl⟩)).ext E4.toExtS⟩
    exact w2 _ _ _ E4 G4 (show RepV _ _ .non .non from rfl)
   ·exact w2.elim
  ·exact w2.elim
def Zlk (fo fe:EM):EM:=fun ρ θ=>(fo ρ θ).bind fun d θ=>match dtOf θ d with
 | none=>.bad
 | some _=>(fe ρ θ).bind fun y θ=>match ktD y,dtOf θ d with
  | some k,some (_,kvs)=>.ok ((valT kvs k).getD .non) θ
  | _,_=>.bad
theorem ZoK {o e:Expr} {fo fe:EM} {apos cpos:Pos} {k:Nat} (hr:Room k X.A) (ho:ME X o fo) (he:ME X e fe) (m:M1 X o "get" apos e cpos):ME X (.Call (.Attribute o "get" apos) [e] [] cpos) (Zlk fo fe):=by
 refine PE.imp (Zos (ZgE hr) ho he m) fun σ H Q h=>?_
 obtain ⟨B,θ,ρ,F,w⟩:=h
 refine ZJ (step F w) ?_
 rintro v H1 ⟨B1,θ1,d,E1,F1,rd,w1⟩
 split at w1
 ·exact w1.elim
 ·rename_i q ed
  obtain ⟨l,kvs⟩:=q
  obtain ⟨hl,rfl,vs,h1,h2⟩:=ZjJ F1.good rd ed
  refine ⟨_,rfl,.inr ⟨vs,.inl h1⟩,?_⟩
  refine ZJ (step F1 w1) ?_
  rintro y H2 ⟨B2,θ2,dy,E2,F2,ry,w2⟩
  split at w2
  ·rename_i k l2 kvs2 ek ed2
   obtain ⟨hl2,e2,vs2,h3,h4⟩:=ZjJ F2.good (rd.ext E2.toExtS) ed2
   obtain ⟨b,rfl,hb⟩:=Zmh ry ek
   have e3:B1.m l=B2.m l2:=by injection e2
   rw [e3]
   refine ⟨_,DGet.t h3 hb,?_⟩
   rcases h4.valT k with ⟨q1,q2⟩ | ⟨dv,v,q1,q2,rv⟩
   ·rw [q1] at w2; rw [q2]
    exact ZR (Rel:=RepV) F2.good (show RepV B2 H2 .non .non from rfl) w2
   ·rw [q1] at w2; rw [q2]
    exact ZR (Rel:=RepV) F2.good rv w2
  ·exact w2.elim
def Zlj (fo fi fv:EM):SM:=fun ρ θ=>(fv ρ θ).bind fun v θ=>(fo ρ θ).bind fun d θ=>(fi ρ θ).bind fun y θ=>match ktD y,dtOf θ d with
 | some k,some (l,kvs)=>if kvs.length<BIG then .ok (.nx,ρ) (θ.set l (.dT (putT kvs k v))) else .bad
 | _,_=>.bad
theorem ZoH {o i value:Expr} {fo fi fv:EM} {pos pos':Pos} {k:Nat} (hr:Room k X.A) (ho:ME X o fo) (hi:ME X i fi) (hv:ME X value fv) (hs:swapsWith value (some (.Subscript o i pos')) pos.line X.env=pure false:=by rfl):MS X (.Assign [.Subscript o i pos'] value pos) (Zlj fo fi fv):=
 PS.imp (ZlQ (ZgE hr) ho hi hv hs) fun D σ H h=>by
 obtain ⟨B,θ,ρ,F,w⟩:=h
 refine ZJ (Zd1 F w) ?_
 rintro v H1 ⟨B1,θ1,dv,E1,F1,rv,w1⟩
 refine ZJ (Zd1 F1 w1) ?_
 rintro x H2 ⟨B2,θ2,d,E2,F2,rd,w2⟩
 refine ZJ (Zd1 F2 w2) ?_
 rintro y H3 ⟨B3,θ3,dy,E3,F3,ry,w3⟩
 split at w3
 ·rename_i k l kvs ek ed
  split at w3
  ·rename_i hb
   obtain ⟨hl,rfl,vs,h1,h2⟩:=ZjJ F3.good (rd.ext E3.toExtS) ed
   obtain ⟨b,rfl,hk⟩:=Zmh ry ek
   have hz:vs.length<sizeLine:=by
    have:=zM (n:=kvs.length+1) hb
    rw [RepKV.len h2]; omega
   refine ⟨_,_,rfl,DPut.t h1 hk hz,?_⟩
   have E4:=ZdF F3.good hl (.dT (ZcM vs k v))
   have G4:=Zdl F3.good hl (o:=.dT (ZcM vs k v)) (c:=.dT (putT kvs k dv)) ⟨_,zd,(h2.putT ((rv.ext E2.toExtS).ext E3.toExtS)).ext E4.toExtS⟩
   exact w3 _ _ _ E4.toExtS (F3.ext E4 G4)
  ·exact w3.elim
 ·exact w3.elim
end
end L2.MM
namespace My
open PySem L2 L2.MM
noncomputable section
def Zaa:Nat→List Zn→Sto
 | _,[]=>[]
 | l,e::r=>cells l e++Zaa (l+4) r
theorem ZfN:∀(es:List Zn) (l:Nat),(Zaa l es).length=4*es.length
 | [],_=>rfl
 | e::r,l=>by rw [Zaa,Ym,ZfN r,Yb]; show 4+_=_; omega
theorem ZeC:∀(xs ys:List Zn) (l:Nat),Zaa l (xs++ys)=Zaa l xs++Zaa (l+4*xs.length) ys
 | [],ys,l=>by simp [Zaa]
 | x::xs,ys,l=>by
  rw [Jm,Zaa,Zaa,ZeC xs ys (l+4),Yz]
  congr 3
  simp; omega
theorem Znl {es:List Zn} {j:Nat} (hj:j<es.length) (P:Sto) (l:Nat) (hP:P.length=l) (e':Zn):upE (P++Zaa l es) (l+4*j) e'=P++Zaa l (es.set j e'):=by
 have sp:es=es.take j++es[j]::es.drop (j+1):=by simp
 have sp':es.set j e'=es.take j++e'::es.drop (j+1):=by
  rw [List.set_eq_take_append_cons_drop,if_pos hj]
 have tl:(es.take j).length=j:=by rw [Y8]; omega
 have a1:P++Zaa l es=((P++Zaa l (es.take j))++cells (l+4*j) es[j])++Zaa (l+4*j+4) (es.drop (j+1)):=by
  conv=>lhs; rw [sp]
  rw [ZeC,tl,Zaa]
  simp only [Yz]
 have a2:P++Zaa l (es.set j e')=((P++Zaa l (es.take j))++cells (l+4*j) e')++Zaa (l+4*j+4) (es.drop (j+1)):=by
  rw [sp',ZeC,tl,Zaa]
  simp only [Yz]
 have pl:(P++Zaa l (es.take j)).length=l+4*j:=by rw [Ym,hP,ZfN,tl]
 rw [a1,a2,←Zt0 (by rw [Ym,pl]; show _+3<_+4; omega)]
 congr 1
 have:=Zpi (P++Zaa l (es.take j)) es[j] e'
 rw [pl] at this
 exact this
@[simp] theorem ZzM {fo fe:EM} {ρ:List Sl} {θ:Sto}:Zmc fo fe ρ θ=(fo ρ θ).bind fun d θ=>match Zh2 θ d with
 | none=>.bad
 | some _=>(fe ρ θ).bind fun y θ=>match Zh2 θ d with
  | some (l,xs)=>if xs.length<BIG then .ok .non (θ.set l (.lst (xs++[y]))) else .bad
  | none=>.bad:=nr' rfl
@[simp] theorem Zxw {fo fe:EM} {ρ:List Sl} {θ:Sto}:Zlk fo fe ρ θ=(fo ρ θ).bind fun d θ=>match dtOf θ d with
 | none=>.bad
 | some _=>(fe ρ θ).bind fun y θ=>match ktD y,dtOf θ d with
  | some k,some (_,kvs)=>.ok ((valT kvs k).getD .non) θ
  | _,_=>.bad:=nr' rfl
@[simp] theorem Zxu {fo fi fv:EM} {ρ:List Sl} {θ:Sto}:Zlj fo fi fv ρ θ=(fv ρ θ).bind fun v θ=>(fo ρ θ).bind fun d θ=>(fi ρ θ).bind fun y θ=>match ktD y,dtOf θ d with
 | some k,some (l,kvs)=>if kvs.length<BIG then .ok (.nx,ρ) (θ.set l (.dT (putT kvs k v))) else .bad
 | _,_=>.bad:=nr' rfl
theorem kt2 (a b:Int):ktD (.tup [.int a,.int b])=some [.inl a,.inl b]:=rfl
theorem Zgj {C m:Str} {f:GM} {fo:EM} {fs:AM} {ρ:List Sl} {θ θ1:Sto} {d:D} {l:Nat} {gs:List (Str×D)} (h:fo ρ θ=.ok d θ1) (hi:Zdk θ1 d=some (l,C,gs)) (hl:gs.lookup m=none):zC C m f fo fs ρ θ=(fs ρ θ1).bind fun vs θ=>f (d::vs) θ:=by
 unfold zC
 rw [h,R.bind_ok,hi]
 exact if_pos ⟨rfl,hl⟩
end
end My
namespace L2
open PySem PySem.Spec PyProof.Rows
section
variable {X:Cx} {x:Str} {px:Pos} {iter elt tst:Expr} {scope:Scope} {pos:Pos} {N':List Str} {src:List Nat} {wi:TI} {te:TE} {tc:TT}
theorem ZjO {prog:Program} {w:World} {A:Around} {R:Result→Shared→Prop} {s:Shared} {elt target iter tst:Expr} {scope:Scope} {pos:Pos} {it acc:Value} {env:Env} (I:Nat→Shared→Prop)
  (turn:∀n s,I n s→wpAny (model prog w) A (pyNext it) (fun r s₁=>match r with
   | none=>R (.ok .next) s₁
   | some v=>wpAny (model prog w) A (letOwnedTupleGo target it v) (fun _ s₂=>wpAny (model prog w) A (assign target env v) (fun _ s₃=>wpAny (model prog w) A (isTrue tst env (eval tst env)) (fun ok s₃₅=>if ok=true then wpAny (model prog w) A (eval elt env) (fun x s₄=>
     wpAny (model prog w) A (call (.builtin "list.append") [acc,x]) (fun _ s₅=>∃m,m<n∧I m s₅) (notedBy (model prog w) A env fun e s'=>R (.error e) s') s₄) (notedBy (model prog w) A env fun e s'=>R (.error e) s') s₃₅ else ∃m,m<n∧I m s₃₅)
     (notedBy (model prog w) A env fun e s'=>R (.error e) s') s₃) (notedBy (model prog w) A env fun e s'=>R (.error e) s') s₂) (notedBy (model prog w) A env fun e s'=>R (.error e) s') s₁) (notedBy (model prog w) A env fun e s'=>R (.error e) s') s)
  (n:Nat) (h:I n s):codeAny (model prog w) A (.compLoop (.ListComp elt [⟨target,iter,[tst],0⟩] scope pos) 0 it acc env) R s:=by
 refine codeAny_loop rfl I (fun n s hI=>?_) n h
 show wpAny _ A ((compTurn (.ListComp elt [⟨target,iter,[tst],0⟩] scope pos) 0 it acc env).onRaise (fun x=>do noteFrame x env; theTreesLotGoes x)) _ _ s
 refine wpAny_noted ?_
 rw [compTurn_list]
 refine wpAny_bind (wpAny_standAt (wpAny_bind (thn (turn n s hI) fun r s₁ h₁=>?_)))
 cases r with
 | none=>exact wpAny_pure h₁
 | some v=>
  refine wpAny_bind (thn h₁ fun _ s₂ h₂=>wpAny_bind (thn h₂ fun _ s₃ h₃=>?_))
  refine wpAny_bind (thn (wpAny_tests_one h₃) fun ok s₄ h₄=>?_)
  cases ok with
  | false=>
   rw [if_neg (by decide)] at h₄
   exact wpAny_pure ⟨rfl,h₄⟩
  | true=>
   rw [if_pos rfl] at h₄
   exact wpAny_bind (wpAny_bind (thn h₄ fun x s₅ h₅=>wpAny_bind (thn h₅ fun _ s₆ h₆=>wpAny_pure (wpAny_pure ⟨rfl,h₆⟩))))
def ZAp (J:It) (src:List Nat) (σ:St) (tc:TT) (te:TE) (H1:Hp) (Q:VK):Prop:=∃(n:Nat) (Pv:Nat→List V→Hp→Prop),n≤sizeLine∧Pv 0 [] H1∧
 (∀i ys H,i<n→Pv i ys H→J.go i H∧∀y H',J.yld i H y H'→tc (inner src σ (some y)) H' fun b H1=>if b=true then te (inner src σ (some y)) H1 fun z H2=>Pv (i+1) (ys++[z]) H2 else Pv (i+1) ys H1)∧
 ∀ys H,Pv n ys H→J.stop n H∧∀p,H p=none→Q (.ref p) (upd H p (.lst ys))
def Zug (wi:TI) (src:List Nat) (tc:TT) (te:TE):TE:=fun σ H Q=>wi σ H fun J H1=>ZAp J src σ tc te H1 Q
theorem Zme {pins:List (Addr×Obj)} {σ:St} {H:Hp} {s:Shared} {cl:List (Str×Addr)} {it:Addr} {fp:List Addr} {tn:Nat→Heap→Prop} {J:It} {n:Nat} {Pv:Nat→List V→Hp→Prop} {RR:Value→Addr→Result→Shared→Prop} {E:Value→Shared→Prop}
  (I:Inv X pins σ H s) (hcm:X.calm=true) (S:Zb6 scope X.env.scope x X.N N' src) (hcl:∀n c,(n,c)∈cl→X.env.cells.lookup n=some c) (hcl2:∀y∈scope.names,y.2=.free→∃c,(y.1,c)∈cl)
  (T:Znu X.prog X.w X.K (.Name x px) J fp it tn) (t0:tn 0 s.heap) (hfp:∀b∈fp,ZiI X pins H b)
  (helt:∀(cl:List (Str×Addr)) (C:Addr) (s₀:Shared) (H₀:Hp) (fp:List Addr),PE (X.comp scope N' cl C s₀ H₀ fp) elt te)
  (htst:∀(cl:List (Str×Addr)) (C:Addr) (s₀:Shared) (H₀:Hp) (fp:List Addr),PT (X.comp scope N' cl C s₀ H₀ fp) tst tc)
  (hn:n≤sizeLine) (p0:Pv 0 [] H) (turn:∀i ys H,i<n→Pv i ys H→J.go i H∧∀y H',J.yld i H y H'→tc (inner src σ (some y)) H' fun b H1=>if b=true then te (inner src σ (some y)) H1 fun z H2=>Pv (i+1) (ys++[z]) H2 else Pv (i+1) ys H1) (stop:∀ys H,Pv n ys H→J.stop n H)
  (hR:∀(D C:Addr) (o:Obj) (ys:List V) (H':Hp) (s':Shared),Pv n ys H'→H' D=none→Inv X (pins++[(C,o)]) σ (upd H' D (.lst ys)) s'→(∃m,s'.heap.Ns C m)→ZiI X pins (upd H' D (.lst ys)) C→RR (.ref D) C (.ok .next) s') :
  wpAny (model X.prog X.w) X.A (newList []) (fun acc s₃=>wpAny (model X.prog X.w) X.A (newFunctionEnv scope X.env.globals cl [] X.env.qual none .none (some X.env)) (fun cenv s₄=>
   codeAny (model X.prog X.w) X.A (.compStart (.ListComp elt [⟨.Name x px,iter,[tst],0⟩] scope pos) 0 (.ref it) acc { cenv with scope:=relabel scope X.env }) (RR acc cenv.locals) s₄) E s₃) E s:=by
 refine wpAny_newObj_type (wpAny_newFunctionEnv S.cell (by intro y hy; simp at hy) (fun h₁ hns₁ hsb₁=>?_) S.kind)
 dsimp only at hns₁ hsb₁ ⊢
 generalize hH2:s.heap.push { cls:=.type "list",dict:=none,data:=.seq ([]:List Value).toArray }=H2 at hns₁ hsb₁ ⊢
 have hC:H2.objs.size=s.heap.objs.size+1:=by rw [←hH2,Heap.size_push]
 have hDC:s.heap.objs.size≠H2.objs.size:=by rw [hC]; exact Yp (YD _)
 have hCle:s.heap.objs.size≤H2.objs.size:=by rw [hC]; exact Jq _
 have below:∀b,b<s.heap.objs.size→b≠H2.objs.size∧b≠s.heap.objs.size:=fun b hb=>⟨by rw [hC]; exact Yp (Jh hb),Yp hb⟩
 have old:∀b o,s.heap.get? b=some o→h₁.get? b=some o:=fun b o e=>hsb₁.extBut b o (below b (Heap.lt_size e)).1 (Heap.get?_push_of_some _ (hH2 ▸ Heap.get?_push_of_some _ e))
 have hacc:h₁.PlainList s.heap.objs.size #[]:=⟨_,hsb₁.extBut _ _ hDC (Heap.get?_push_of_some _ (hH2 ▸ Heap.get?_push_size _ rfl))⟩
 have hfl:∀b∈fp,b<s.heap.objs.size:=fun b hb=>by
  obtain ⟨o,e,_⟩:=T.obj 0 _ t0 b hb
  exact Heap.lt_size e
 have fresh:∀a,s.heap.objs.size≤a→s.heap.get? a=none:=fun a ha=>by
  cases e:s.heap.get? a with
  | none=>rfl
  | some o'=>exact absurd (Heap.lt_size e) (YH.mpr ha)
 generalize eD:s.heap.objs.size=D at hDC hacc hCle below fresh hfl hC ⊢
 generalize eC:H2.objs.size=C at hDC hCle below hC hns₁ hsb₁ ⊢
 have I1:Inv (X.comp scope N' cl C s H fp) [] (inner src σ none) H { s with heap:=h₁,toks:=s.toks+([]:List (Str×Value)).length }:=
  Zlv I S hcl hcl2 (by rw [eD]; exact hCle) hfp (by rw [eD]; exact hfl) ⟨_,hns₁⟩ old rfl rfl
 have stat:∀{H':Hp} {pl:List (Addr×Obj)},(∀p∈pl,p.1=D)→(∀b∈fp,H' b=none)→∀b∈fp,ZiI (X.comp scope N' cl C s H fp) pl H' b:=fun {H' pl} hp hn b hb=>
  ⟨hn b hb,(below b (hfl b hb)).1,fun z=>by
   rcases Yr.mp (I.stkSub b z) with q | q
   ·exact (hfp b hb).2.1 q
   ·exact (hfp b hb).2.2.1 q,.inl hb,fun y c e=>(hfp b hb).2.2.2.2.1 y c (hcl y c (PySem.mem_of_lookup e)),fun p hq=>by
   rw [hp p (by rcases YK.mp hq with z | z; exact absurd (show p∈([]:List (Addr×Obj)) from z) (by simp); exact z)]
   exact Ne.symm (below b (hfl b hb)).2⟩
 have nD:D∉frs X.stack:=fun z=>by
  rcases Yr.mp (I.stkSub D z) with q | q
  ·have:=I.lt; rw [←q,eD] at this; exact YE _ this
  ·exact I.nofs (a:=D) (by rw [eD]; exact Yd _) q
 have nC:C∉X.fs:=I.nofs (by rw [eD]; exact hCle)
 have cellD:∀y c,cl.lookup y=some c→c<D:=fun y c e=>by
  obtain ⟨v,q⟩:=I.cell y c (hcl y c (PySem.mem_of_lookup e))
  have:=q.lt
  rw [eD] at this
  exact this
 have loop:∀s₃:Shared,s₃={ s with heap:=h₁,toks:=s.toks+([]:List (Str×Value)).length }→
   codeAny (model X.prog X.w) X.A (.compLoop (.ListComp elt [⟨.Name x px,iter,[tst],0⟩] scope pos) 0 (.ref it) (.ref D) (compEnvC scope cl C X.env)) (RR (.ref D) C) s₃:=by
  rintro s₃ rfl
  refine ZjO (fun k s'=>∃(i:Nat) (ys:List V) (its:List Value) (H':Hp) (xo:Option V),Inv (X.comp scope N' cl C s H fp) [] (inner src σ xo) H' s'∧tn i s'.heap∧(∀b∈fp,H' b=none)∧s'.heap.PlainList D its.toArray∧Vals ys its∧H' D=none∧
   Pv i ys H'∧ys.length≤i∧i≤n∧k=n+1-i) ?_ (n+1) ⟨0,[],[],H,none,I1,T.keep _ _ _ t0 (fun b _ o e=>old b o e),fun b hb=>(hfp b hb).1,hacc,.nil,I.hok.fresh (by rw [eD]; exact Yd _),p0,Yd _,YB _,rfl⟩
  rintro k s' ⟨i,ys,its,H',xo,I3,t3,f3,l3,v3,d3,p3,e3,le3,rfl⟩
  by_cases hlt:i<n
  ·obtain ⟨go,step⟩:=turn i ys H' hlt p3
   obtain ⟨nn,oD⟩:=id l3
   have I3p:Inv (X.comp scope N' cl C s H fp) [(D,{ cls:=.type "list",data:=.seq its.toArray nn })] (inner src σ xo) H' s':=
    I3.pins_of fun p hp=>by
     have ep:p=(D,{ cls:=.type "list",data:=.seq its.toArray nn }):=by simpa using hp
     subst ep
     exact ⟨oD,d3,hDC,nD,fun v z=>by cases z⟩
   refine thn (T.item (X.comp scope N' cl C s H fp) rfl rfl rfl hcm i _ s' _ H' _ I3p (stat (by simp) f3) t3 go) fun r s4 ⟨u,hr,h4⟩=>?_
   subst hr
   refine thn h4 fun _ s5 ⟨y,H5,I5,r5,y5,st5,fr5⟩=>?_
   have I5':=I5.pinned (stat (by simp) fr5) (T.obj _ _ st5)
   have hg:PG (X.comp scope N' cl C s H fp) (.Name x px) (ZkG 0):=
    Zgb S.nd (by show N'[0]?=some x; rw [S.names]; rfl) (.inl (lookup_relabel_local S.own)) (.inr (lookup_relabel_local S.own))
   refine wpAny_mono (hg _ s5 _ H5 y u (fun σ2 H2=>σ2=inner src σ (some y)∧H2=H5) I5' r5 ⟨rfl,rfl⟩) (fun _ s6 ⟨σ6,H6,I6,e6,e6'⟩=>?_) fun _ _ z=>False.elim z
   subst e6 e6'
   refine wpAny_mono (htst cl C s H fp _ s6 _ _ _ I6 (step y _ y5)) (fun b s65 ⟨H65,I65,q65⟩=>?_) fun _ _ z=>False.elim z
   have hys:its.toArray.size≤sizeLine:=by
    have:=v3.length
    rw [Ye]
    omega
   cases b with
   | true=>
    rw [if_pos rfl] at q65 ⊢
    refine wpAny_mono (helt cl C s H fp _ s65 _ _ _ I65 q65) (fun v s7 ⟨z,H7,I7,r7,q7⟩=>?_) fun _ _ z=>False.elim z
    have o7:=I7.pin (D,{ cls:=.type "list",data:=.seq its.toArray nn }) (by simp)
    refine wpAny_list_append_plain (hsz:=hys) (items:=its.toArray) (s:=s7) ⟨nn,o7.1⟩ fun h8 hl8 hs8=>?_
    refine ⟨n+1-(i+1),by omega,i+1,ys++[z],its++[v],H7,some y,?_,?_,?_,?_,v3.append (.cons r7 .nil),o7.2.1,q7,by rw [Ym]; exact Nat.succ_le_succ e3,hlt,rfl⟩
    ·have I7':Inv (X.comp scope N' cl C s H fp) [] (inner src σ (some y)) H7 s7:=I7.pins_of fun p hp=>absurd hp (by simp)
     exact I7'.turned (t':=s7.toks) (it:=D) (fun b o hb e=>(hs8.2 b hb).trans e) o7.2.1 hDC (.inr (by show s.heap.objs.size≤D; rw [eD]; exact Yd _)) (fun y c e=>Yp (cellD y c e)) fun p hp=>absurd (show p∈([]:List (Addr×Obj)) from hp) (by simp)
    ·refine T.keep _ _ _ st5 fun b hb o e=>(hs8.2 b (below b (hfl b hb)).2).trans ?_
     exact (I7.pin (b,o) (Yj _ (Yj _ (Zct hb e)))).1
    ·intro b hb
     obtain ⟨o,e,_⟩:=T.obj _ _ st5 b hb
     exact (I7.pin (b,o) (Yj _ (Yj _ (Zct hb e)))).2.1
    ·have:(its++[v]).toArray=its.toArray.push v:=by simp
     rw [this]; exact hl8
   | false=>
    rw [if_neg (by decide)] at q65 ⊢
    have o7:=I65.pin (D,{ cls:=.type "list",data:=.seq its.toArray nn }) (by simp)
    refine ⟨n+1-(i+1),by omega,i+1,ys,its,H65,some y,I65.pins_of fun p hp=>absurd hp (by simp),?_,?_,⟨nn,o7.1⟩,v3,o7.2.1,q65,Nat.le_succ_of_le e3,hlt,rfl⟩
    ·refine T.keep _ _ _ st5 fun b hb o e=>?_
     exact (I65.pin (b,o) (Yj _ (Yj _ (Zct hb e)))).1
    ·intro b hb
     obtain ⟨o,e,_⟩:=T.obj _ _ st5 b hb
     exact (I65.pin (b,o) (Yj _ (Yj _ (Zct hb e)))).2.1
  ·have ein:i=n:=by omega
   subst ein
   obtain ⟨nn,oD⟩:=id l3
   have I3p:Inv (X.comp scope N' cl C s H fp) [(D,{ cls:=.type "list",data:=.seq its.toArray nn })] (inner src σ xo) H' s':=
    I3.pins_of fun p hp=>by
     have ep:p=(D,{ cls:=.type "list",data:=.seq its.toArray nn }):=by simpa using hp
     subst ep
     exact ⟨oD,d3,hDC,nD,fun v z=>by cases z⟩
   refine thn (T.done (X.comp scope N' cl C s H fp) rfl rfl rfl hcm i _ s' _ H' _ I3p (stat (by simp) f3) t3 (stop ys H' p3)) fun r s4 ⟨hr,I4⟩=>?_
   subst hr
   have o4:=I4.pin (D,{ cls:=.type "list",data:=.seq its.toArray nn }) (by simp)
   have newI:Inv X pins σ (upd H' D (.lst ys)) s4:=I.call' (ch:=fp) I4.os (I4.base.lay d3 (fresh D (Yd _))) (I4.hok.lay d3 ⟨by omega,its,nn,v3,o4.1⟩) I4.bare (fun b hb=>
    ⟨(hfp b hb).2.2.2.1,(hfp b hb).2.1,(hfp b hb).2.2.2.2.1,(hfp b hb).2.2.2.2.2⟩)
   obtain ⟨m,hm,_⟩:=I4.loc
   obtain ⟨o,es,ep,ho,hd,_⟩:=id hm
   refine hR D C o ys H' s4 p3 d3 (newI.pins_of fun p hp=>?_) ⟨m,hm⟩ (I.fpOk (by rw [eD]; exact hCle) (by rw [ZS (Ne.symm hDC)]; exact I4.free))
   rcases YK.mp hp with z | z
   ·exact newI.pin p (Yj _ z)
   ·have ep:p=(C,o):=by simpa using z
    subst ep
    refine ⟨ho,by rw [ZS (Ne.symm hDC)]; exact I4.free,fun z=>?_,nC,fun v z=>?_⟩
    ·have:=I.lt
     rw [eD,←z] at this
     exact absurd (Yh this hCle) (YE _)
    ·have z':o.data=.cell v:=z
     rw [hd] at z'; cases z'
 exact codeAny_compStart_list (loop _ rfl) (T.self _ 0 _ _ _ (T.keep _ _ _ t0 (fun b _ o e=>old b o e)) (loop _ rfl))
theorem ZuM {sc:Scope} {N:List Str} (S:Zb6 scope sc x N N' src) (hsc:X.env.scope=sc) (hN:X.N=N) (hi:PI X (.Name x px) iter wi)
  (helt:∀(cl:List (Str×Addr)) (C:Addr) (s₀:Shared) (H₀:Hp) (fp:List Addr),PE (X.comp scope N' cl C s₀ H₀ fp) elt te) (htst:∀(cl:List (Str×Addr)) (C:Addr) (s₀:Shared) (H₀:Hp) (fp:List Addr),PT (X.comp scope N' cl C s₀ H₀ fp) tst tc) (hcm:X.calm=true:=by rfl) (hs:∀v,foldedSetIterable iter X.env v=pure v:=by intro _; rfl) :
  PE X (.ListComp elt [⟨.Name x px,iter,[tst],0⟩] scope pos) (Zug wi src tc te):=by
 subst hsc hN
 intro pins s σ H Q I h
 obtain ⟨cl,hclos,hcl,hcl2⟩:=Zgu (scope:=scope) (env:=X.env) fun y hy hf=>I.ok.has y.1 (.inl (S.free y hy hf))
 rw [eval_ListComp]
 refine wpAny_comprehension_free (use:=none) rfl hs hclos S.kind S.loc ?_
 refine thn (hi pins s σ H _ I h) fun v s1 h1=>thn h1 fun itv s2 h2=>?_
 obtain ⟨it,fp,tn,J,H2,e,I2,T,st2,f2,n,Pv,hn,p0,turn,done⟩:=h2
 subst e
 refine Zme I2 hcm S hcl hcl2 T st2 f2 helt htst hn p0 turn (fun ys H p=>(done ys H p).1) fun D C o ys H' s' p d J' hm ho=>?_
 obtain ⟨m,hm⟩:=hm
 refine ⟨m,hm,fun h' hs'=>?_⟩
 have J2:Inv X pins σ (upd H' D (.lst ys)) s':=J'.pins_of fun q hq=>J'.pin q (Yj _ (YQ _ hq))
 obtain ⟨f0,f1,f2,f3,f4,f5⟩:=ho
 exact ⟨.ref D,_,J2.turned (t':=s'.toks) (it:=C) (fun b o hb e=>(hs'.2 b hb).trans e) f0 f1 f3 f4 f5,rfl,(done ys H' p).2 D d⟩
theorem ZuB {sc:Scope} {N:List Str} {i:Nat} {y:Str} {py spos:Pos} (hnd:X.N.Nodup) (hi':X.N[i]?=some y) (S:Zb6 scope sc x N N' src) (hsc:X.env.scope=sc) (hN:X.N=N) (hi:PI X (.Name x px) iter wi)
  (helt:∀(cl:List (Str×Addr)) (C:Addr) (s₀:Shared) (H₀:Hp) (fp:List Addr),PE (X.comp scope N' cl C s₀ H₀ fp) elt te) (htst:∀(cl:List (Str×Addr)) (C:Addr) (s₀:Shared) (H₀:Hp) (fp:List Addr),PT (X.comp scope N' cl C s₀ H₀ fp) tst tc) (hsw:swapsWith (.ListComp elt [⟨.Name x px,iter,[tst],0⟩] scope pos) (some (.Name y py)) spos.line X.env=pure true:=by rfl)
  (hy:X.env.scope.names.lookup y=some .local:=by rfl) (hcm:X.calm=true:=by rfl) (hs:∀v,foldedSetIterable iter X.env v=pure v:=by intro _; rfl) :
  PS X (.Assign [.Name y py] (.ListComp elt [⟨.Name x px,iter,[tst],0⟩] scope pos) spos) (Zwg (Zug wi src tc te) (ZkG i)):=by
 subst hsc hN
 intro pins s σ H Dn I h
 obtain ⟨cl,hclos,hcl,hcl2⟩:=Zgu (scope:=scope) (env:=X.env) fun y hy hf=>I.ok.has y.1 (.inl (S.free y hy hf))
 rw [exec_Assign_Name_used _ _ _ _ hsw]
 refine wpAny_bind (wpAny_standAt (wpAny_bind ?_))
 show wpAny _ X.A (do let _ ←comprehension (.ListComp elt [⟨.Name x px,iter,[tst],0⟩] scope pos) scope X.env _ (newList []) false (eval iter X.env) (some (assign (.Name y py) X.env))) _ _ s
 refine wpAny_bind (wpAny_mono (wpAny_comprehension_free (use:=some (assign (.Name y py) X.env)) (Q:=fun _ s'=>SP X pins Dn .next s') rfl hs hclos S.kind S.loc ?_) (fun _ s' hq=>wpAny_pure (wpAny_pure hq)) fun _ _ e=>e)
 refine thn (hi pins s σ H _ I h) fun v s1 h1=>thn h1 fun itv s2 h2=>?_
 obtain ⟨it,fp,tn,J,H2,e,I2,T,st2,f2,n,Pv,hn,p0,turn,done⟩:=h2
 subst e
 refine Zme I2 hcm S hcl hcl2 T st2 f2 helt htst hn p0 turn (fun ys H p=>(done ys H p).1) fun D C o ys H' s' p d J' hm ho=>?_
 show wpAny _ X.A (assign (.Name y py) X.env (.ref D)) _ _ _
 obtain ⟨m,hm⟩:=hm
 have hg:PG X (.Name y py) (ZkG i):=Zgb hnd hi' (.inl hy) (.inr hy)
 refine thn (hg _ s' σ _ (.ref D) (.ref D) (fun σ2 H3=>σ2=σ.set i (some (.ref D))∧H3=upd H' D (.lst ys)) J' rfl ⟨rfl,rfl⟩) fun _ s6 ⟨σ6,H6,I6,e6,e7⟩=>?_
 subst e6 e7
 have pc:=I6.pin (C,o) (by simp)
 have pc':=J'.pin (C,o) (by simp)
 refine ⟨m,hm.at fun q e=>?_,fun h' hs'=>?_⟩
 ·rw [pc'.1] at e; cases e; exact pc.1
 have J2:Inv X pins (σ.set i (some (.ref D))) (upd H' D (.lst ys)) s6:=I6.pins_of fun q hq=>I6.pin q (Yj _ (YQ _ hq))
 obtain ⟨f0,f1,f2,f3,f4,f5⟩:=ho
 exact ⟨_,_,J2.turned (t':=s6.toks) (it:=C) (fun b o hb e=>(hs'.2 b hb).trans e) f0 f1 f3 f4 f5,(done ys H' p).2 D d⟩
end
end L2
namespace L2.MM
open PySem PySem.Spec PyProof.Rows PySem.W PySem.SeqAt
noncomputable section
open Classical in
def ZdT (S:Src) (all:List D) (tst:D→Sto→R Bool) (elt:D→Sto→R D):List D→List D→Sto→R D
 | [],acc,θ=>if S.items θ=some all∧acc.length≤BIG then .ok (.lst acc) θ else .bad
 | x::r,acc,θ=>if S.items θ=some all then (tst x θ).bind fun b θ=>if b=true then (elt x θ).bind fun y θ=>ZdT S all tst elt r (acc++[y]) θ else ZdT S all tst elt r acc θ else .bad
def ZcP (fi:IM) (src:List Nat) (tst:TMr) (elt:EM):EM:=fun ρ θ=>(fi ρ θ).bind fun S θ=>match S.items θ with
 | some xs=>if xs.length≤BIG then ZdT S xs (fun x θ=>tst (inEnv src ρ x) θ) (fun x θ=>elt (inEnv src ρ x) θ) xs [] θ else .bad
 | none=>.bad
section
variable {X:Cx}
open Classical in
theorem Zj6 {fi:IM} {src:List Nat} {tst:TMr} {elt:EM} (σ:St) (H:Hp) (Q:VK) (h:tM X (ZcP fi src tst elt) σ H Q):Zug (tMI X fi) src (tMT X tst) (tM X elt) σ H Q:=by
 obtain ⟨B,θ,ρ,F,w⟩:=h
 refine ⟨B,θ,ρ,F,(wpR.bind (Rel:=SrcRep X.K) w).mono ?_⟩
 rintro J H1 ⟨B1,θ1,S,E1,G1,rJ,w1⟩
 split at w1
 ·rename_i xs e1
  split at w1
  ·rename_i hz
   refine ⟨xs.length,fun i ys H'=>∃B' θ' acc,ExtE B1 B' H1 H'∧Good X.cl B' θ' H'∧RepL B' H' acc ys∧wpR X σ RepV B' H' (ZdT S xs (fun x θ=>tst (inEnv src ρ x) θ) (fun x θ=>elt (inEnv src ρ x) θ) (xs.drop i) acc θ') Q,zM hz,?_,?_,?_⟩
   ·exact ⟨B1,θ1,[],ExtE.refl _ _,G1,rfl,w1⟩
   ·rintro i ys H' hi ⟨B2,θ2,acc,E2,G2,racc,w2⟩
    rw [Yv hi] at w2
    unfold ZdT at w2
    split at w2
    ·rename_i e2
     obtain ⟨g1,g2⟩:=(Zjk G2 (rJ.ext E2.toExtS) e2).1 i xs[i] (List.getElem?_eq_getElem hi)
     refine ⟨g1,fun y H3 hy=>?_⟩
     obtain ⟨rfl,ry⟩:=g2 y H3 hy
     have F2:=(F.ext (E1.trans E2) G2).inner src ry
     refine ⟨B2,θ2,_,F2,(wpR.bind (Rel:=EqB) w2).mono ?_⟩
     rintro b H4 ⟨B4,θ4,d,E4,G4,rd,w4⟩
     cases (show d=b from rd)
     cases b with
     | true=>
      rw [if_pos rfl] at w4 ⊢
      have F4:=F2.ext E4 G4
      refine ⟨B4,θ4,_,F4,(wpR.bind (Rel:=RepV) w4).mono ?_⟩
      rintro z H5 ⟨B5,θ5,d5,E5,G5,rd5,w5⟩
      exact ⟨B5,θ5,acc++[d5],(E2.trans E4).trans E5,G5,(racc.ext (E4.trans E5).toExtS).app ⟨z,[],rfl,rd5,rfl⟩,w5⟩
     | false=>
      rw [if_neg (by decide)] at w4 ⊢
      exact ⟨B4,θ4,acc,E2.trans E4,G4,racc.ext E4.toExtS,w4⟩
    ·exact w2.elim
   ·rintro ys H' ⟨B2,θ2,acc,E2,G2,racc,w2⟩
    rw [Ja] at w2
    unfold ZdT at w2
    split at w2
    ·rename_i e2
     exact ⟨(Zjk G2 (rJ.ext E2.toExtS) e2.1).2,ZfF G2 racc w2⟩
    ·exact w2.elim
  ·exact w1.elim
 ·exact w1.elim
theorem Zu4 {x:Str} {px pos:Pos} {iter elt tst:Expr} {scope:Scope} {N':List Str} {src:List Nat} {sc:Scope} {N:List Str} {fi:IM} {ft:TMr} {fe:EM} (S:Zb6 scope sc x N N' src) (hsc:X.env.scope=sc) (hN:X.N=N) (hi:MI X (.Name x px) iter fi)
  (helt:∀(cl:List (Str×Addr)) (C:Addr) (s₀:Shared) (H₀:Hp) (fp:List Addr),MT (X.comp scope N' cl C s₀ H₀ fp) tst ft∧ME (X.comp scope N' cl C s₀ H₀ fp) elt fe) (hcm:X.calm=true:=by rfl) (hs:∀v,foldedSetIterable iter X.env v=pure v:=by intro _; rfl) :
  ME X (.ListComp elt [⟨.Name x px,iter,[tst],0⟩] scope pos) (ZcP fi src ft fe):=
 PE.imp (ZuM (te:=tM X fe) (tc:=tMT X ft) S hsc hN hi (fun cl C s₀ H₀ fp=>(helt cl C s₀ H₀ fp).2) (fun cl C s₀ H₀ fp=>(helt cl C s₀ H₀ fp).1) hcm hs) Zj6
theorem Zm9 (i:Nat) {x y:Str} {px py pos spos:Pos} {iter elt tst:Expr} {scope:Scope} {N':List Str} {src:List Nat} {sc:Scope} {N:List Str} {fi:IM} {ft:TMr} {fe:EM} (hnd:X.N.Nodup) (S:Zb6 scope sc x N N' src) (hsc:X.env.scope=sc) (hN:X.N=N) (hi:MI X (.Name x px) iter fi)
  (helt:∀(cl:List (Str×Addr)) (C:Addr) (s₀:Shared) (H₀:Hp) (fp:List Addr),MT (X.comp scope N' cl C s₀ H₀ fp) tst ft∧ME (X.comp scope N' cl C s₀ H₀ fp) elt fe) (hi':X.N[i]?=some y:=by rfl)
  (hsw:swapsWith (.ListComp elt [⟨.Name x px,iter,[tst],0⟩] scope pos) (some (.Name y py)) spos.line X.env=pure true:=by rfl)
  (hy:X.env.scope.names.lookup y=some .local:=by rfl) (hcm:X.calm=true:=by rfl) (hs:∀v,foldedSetIterable iter X.env v=pure v:=by intro _; rfl) :
  MS X (.Assign [.Name y py] (.ListComp elt [⟨.Name x px,iter,[tst],0⟩] scope pos) spos) (Z1 i (ZcP fi src ft fe)):=
 PS.imp (ZuB (te:=tM X fe) (tc:=tMT X ft) hnd hi' S hsc hN hi (fun cl C s₀ H₀ fp=>(helt cl C s₀ H₀ fp).2) (fun cl C s₀ H₀ fp=>(helt cl C s₀ H₀ fp).1) hsw hy hcm hs) fun D σ H h=>by
 obtain ⟨B,θ,ρ,F,w⟩:=h
 refine Zj6 σ H _ (ZJ (Zd1 F w) ?_)
 rintro v H1 ⟨B1,θ1,d,E1,F1,rd,w1⟩
 exact w1 B1 H1 _ (ExtS.refl _ _) (F1.set i rd)
end
end
end L2.MM
namespace L2.MM
open PySem PySem.Spec PyProof.Rows PySem.W PySem.SeqAt
noncomputable section
variable {X:Cx}
def Zh0 (fo fi:EM):EM:=fun ρ θ=>(fo ρ θ).bind fun d θ=>(fi ρ θ).bind fun y θ=>match keyD y,dkOf θ d with
 | some k,some (_,kvs)=>match valD kvs k with
  | some v=>.ok v θ
  | none=>.bad
 | _,_=>.bad
theorem Zlf {i o:Expr} {fi fo:EM} {pos:Pos} {k:Nat} (hr:Room k X.A) (ho:ME X o fo) (hi:ME X i fi) (hs:Zvq i:=by intro _ _; rfl):ME X (.Subscript o i pos) (Zh0 fo fi):=by
 refine PE.imp (Zrs (ZgE hr) ho hi hs) fun σ H Q h=>?_
 obtain ⟨B,θ,ρ,F,w⟩:=h
 refine ZJ (step F w) ?_
 rintro v H1 ⟨B1,θ1,d,E1,F1,rd,w1⟩
 refine ZJ (step F1 w1) ?_
 rintro y H2 ⟨B2,θ2,dy,E2,F2,ry,w2⟩
 split at w2
 ·rename_i k l kvs ek ed
  obtain ⟨hl,rfl,vs,h1,h2⟩:=ZdH F2.good (rd.ext E2.toExtS) ed
  cases keyD_rep ry ek
  split at w2
  ·rename_i dv ev
   rcases h2.valD k with ⟨q1,q2⟩ | ⟨d',v',q1,q2,r⟩
   ·rw [q1] at ev; cases ev
   ·rw [q1] at ev; cases ev
    refine ⟨_,v',rfl,?_,ZR (Rel:=RepV) F2.good r w2⟩
    rw [←q2]
    exact DGet.k h1
  ·exact w2.elim
 ·exact w2.elim
theorem Zlu {fi fo:EM} (σ:St) (H:Hp) (Q:VK) (h:tM X (ZfB (Zht fi fo)) σ H Q):ZlI (tM X fi) (tM X fo) σ H Q:=by
 obtain ⟨B,θ,ρ,F,w⟩:=h
 have w0:wpR X σ RepV B H ((fi ρ θ).bind fun y θ=>(fo ρ θ).bind fun d θ=>match keyD y,dkOf θ d with
  | some k,some (_,kvs)=>.ok (.bl (!(valD kvs k).isSome)) θ
  | _,_=>.bad) Q:=by
  have e:ZfB (Zht fi fo) ρ θ=(fi ρ θ).bind fun y θ=>(fo ρ θ).bind fun d θ=>match keyD y,dkOf θ d with
   | some k,some (_,kvs)=>.ok (.bl (!(valD kvs k).isSome)) θ
   | _,_=>.bad:=by
   unfold ZfB Zht
   cases fi ρ θ with
   | bad=>rfl
   | ex c θ'=>rfl
   | ok y θ1=>
    simp only [R.bind_ok]
    cases fo ρ θ1 with
    | bad=>rfl
    | ex c θ'=>rfl
    | ok d θ2=>
     simp only [R.bind_ok]
     cases keyD y with
     | none=>rfl
     | some k=>cases dkOf θ2 d with
      | none=>rfl
      | some p=>obtain ⟨l,kvs⟩:=p; rfl
  rw [←e]; exact w
 refine ZJ (step F w0) ?_
 rintro y H1 ⟨B1,θ1,dy,E1,F1,ry,w1⟩
 refine ZJ (step F1 w1) ?_
 rintro v H2 ⟨B2,θ2,d,E2,F2,rd,w2⟩
 split at w2
 ·rename_i k l kvs ek ed
  obtain ⟨hl,rfl,vs,h1,h2⟩:=ZdH F2.good rd ed
  cases keyD_rep ry ek
  refine ⟨_,valV vs k,rfl,DGet.k h1,?_⟩
  have e:(valD kvs k).isSome=(valV vs k).isSome:=by
   rcases h2.valD k with ⟨q1,q2⟩ | ⟨d,v,q1,q2,_⟩<;>(rw [q1,q2]; rfl)
  rw [←e]
  exact ZR (Rel:=RepV) F2.good (show RepV B2 H2 (.bl (!(valD kvs k).isSome)) (.bl (!(valD kvs k).isSome)) from rfl) w2
 ·exact w2.elim
theorem Zm8 {i o:Expr} {fi fo:EM} {pos:Pos} {k:Nat} (hr:Room k X.A) (hi:ME X i fi) (ho:ME X o fo) (hm:behindInMarks .NotIn o=false:=by rfl):MT X (.Compare i [.NotIn] [o] pos) (ZD (ZfB (Zht fi fo))):=by
 refine PT.imp (Zod (Zm2 (ZgE hr) hi ho) hm) fun σ H Q h=>?_
 exact Zlu σ H _ (ZhP σ H Q h)
end
end L2.MM
namespace L2
open PySem PySem.Spec PyProof.Rows PySem.W PySem.SeqAt
noncomputable section
theorem Zo5 (a:Addr):MeetsSeq.EqGives (.ref a) (.ref a) true:=by
 intro prog w A E s Q h
 unfold eqBool
 wp_walk
 exact h
theorem Zn7 (l:Addr) (items:Array Value) (n:Nat) (a:Addr) (h0:items[0]?=some (.ref a)) (hs1:items.size≤sizeLine) :
  Meets (Builtin.«list.remove» ⟨[.ref l,.ref a],[]⟩)
   (fun _ R s=>s.heap.get? l=some { cls:=.type "list",dict:=none,data:=.seq items n,slots:=#[] }∧R (.ok (.ret .none)) { s with heap:=s.heap.update l (Obj.mapSeq fun xs=>xs.eraseIdxIfInBounds 0) }):=by
 intro prog w A R s h
 obtain ⟨hp,g,d,tk,os⟩:=s; obtain ⟨hl,h⟩:=h
 wp_walk using wpAny_loadPart' hl
 refine ⟨plainId_quiet MeetsSeq.plain_remove_loop _,codeAny_builtin MeetsSeq.entry_remove_loop ?_⟩
 rw [Around.under_plainId MeetsSeq.plain_remove_loop _]
 wp_walk using wpAny_loadPart' hl
 have hi:items[((0:Nat):Int).toNat]?=some (.ref a):=h0
 rw [show items[((0:Int)).toNat]?=some (.ref a) from h0]
 refine wpAny_bind (Zo5 a prog w _ _ _ _ ?_)
 have hz':(items.eraseIdxIfInBounds 0).size≤sizeLine+1:=Yt (MeetsSeq.size_erased items _) (Nat.le_succ_of_le hs1)
 wp_walk using (wpAny_updateSeq hl rfl (hz:=hs1) (_hz':=hz')),wpAny_loadPart' hl
 simpa using h
def ZlN:V→List V→Hp→VK→Prop:=fun x vs H Q=>∃l a xs,x=.ref l∧vs=[.ref a]∧H l=some (.lst (.ref a::xs))∧Q .non (upd H l (.lst xs))
section
variable {X:Cx}
theorem Zm7:MtM X "list.remove" ZlN:=by
 intro pins s σ H x vs v us Q I rx rv h
 obtain ⟨l,a,xs,rfl,rfl,hH,q⟩:=h
 cases rx
 obtain ⟨u,rfl,ru⟩:=rv.one
 cases ru
 obtain ⟨z,its,n,r,hl,e⟩:=I.lstM hH
 cases r with
 | cons r1 r2=>
  rename_i u1 its2
  cases r1
  refine call_meets F.slot_list_remove ⟨_,e,rfl⟩ F.entry_list_remove (F.args_list_remove_2 _ _) (Zn7 l _ n a rfl (by rw [Ye]; omega)) ⟨e,?_⟩
  refine ⟨.non,_,I.lset (its':=its2) hH e ?_ r2 ?_,rfl,q⟩
  ·apply Array.toList_inj.mp
   simp [Array.toList_eraseIdxIfInBounds]
  ·simp only [Yb] at z
   omega
end
end
end L2
namespace L2.MM
open PySem PySem.Spec PyProof.Rows PySem.W PySem.SeqAt
noncomputable section
section
variable {X:Cx}
def ZoM (fo fe:EM):EM:=fun ρ θ=>(fo ρ θ).bind fun d θ=>match Zh2 θ d with
 | none=>.bad
 | some _=>(fe ρ θ).bind fun y θ=>match y,Zh2 θ d with
  | .ref k,some (l,.ref k'::xs)=>if k=k' then .ok .non (θ.set l (.lst xs)) else .bad
  | _,_=>.bad
theorem ZrD {o e:Expr} {fo fe:EM} {apos pos:Pos} (hpe:PE X (.Call (.Attribute o "remove" apos) [e] [] pos) (tBM X.K "list" ZlN (tM X fo) (ZlJ (tM X fe) ZnT))):ME X (.Call (.Attribute o "remove" apos) [e] [] pos) (ZoM fo fe):=by
 refine PE.imp hpe fun σ H Q h=>?_
 obtain ⟨B,θ,ρ,F,w⟩:=h
 refine ZJ (step F w) ?_
 rintro v H1 ⟨B1,θ1,d,E1,F1,rd,w1⟩
 split at w1
 ·exact w1.elim
 ·rename_i q ed
  obtain ⟨l,xs⟩:=q
  obtain ⟨hl,rfl,vs,h1,h2⟩:=ZhB F1.good rd ed
  refine ⟨.inl ⟨rfl,vs,SqL.of h1⟩,?_⟩
  refine ZJ (step F1 w1) ?_
  rintro y H2 ⟨B2,θ2,dy,E2,F2,ry,w2⟩
  split at w2
  ·rename_i k l2 k' xs2 ed2
   obtain ⟨hl2,e2,vs2,h3,h4⟩:=ZhB F2.good (rd.ext E2.toExtS) ed2
   have e3:B1.m l=B2.m l2:=by injection e2
   split at w2
   ·rename_i hk
    subst hk
    obtain ⟨v0,vs3,rfl,r0,r3⟩:=h4
    obtain ⟨b1,rfl⟩:=ry
    obtain ⟨b2,rfl⟩:=r0
    refine ⟨B1.m l,_,vs3,rfl,rfl,by rw [e3]; exact h3,?_⟩
    rw [e3]
    have E4:=ZdF F2.good hl2 (.lst vs3)
    have G4:=Zdl F2.good hl2 (o:=.lst vs3) (c:=.lst xs2) ⟨_,zd,r3.ext E4.toExtS⟩
    exact w2 _ _ _ E4 G4 (show RepV _ _ .non .non from rfl)
   ·exact w2.elim
  ·exact w2.elim
end
end
end L2.MM
namespace My
open PySem L2 L2.MM
noncomputable section
inductive Mo3 | ss | sc | op deriving DecidableEq
structure AE where
 st:Mo3
 una:Nat
 nxt:Nat
 beh:Nat
 rcv:Nat
 osyn:Bool
 oa:Bool
 since:Nat
 wait:Nat
 tries:Nat
 deriving DecidableEq
structure AS where
 kind:Nat
 num:Nat
 ans:Nat
 deriving DecidableEq
def ZcJ (A:AE) (s:AS):AE:=if s.kind=3∨s.kind=4 then { A with rcv:=2,oa:=true } else A
def Zby (A:AE) (s:AS) (t:Nat):AE:=
 match A.st with
 | .ss=>
  if s.kind=0 then { A with rcv:=1,st:=.sc,since:=t,wait:=1,tries:=0,osyn:=true }
  else if s.kind=1 then { A with rcv:=1,una:=1,st:=.op,oa:=true }
  else A
 | .sc=>
  if s.kind=0 then { A with osyn:=true }
  else if s.kind=1∨s.num<A.rcv then { A with oa:=true }
  else ZcJ { A with una:=1,st:=.op } s
 | .op=>
  if s.kind=0∨s.kind=1∨s.num<A.rcv then { A with oa:=true }
  else ZcJ (if A.una<s.ans then { A with una:=s.ans } else A) s
def goA (A:AE) (t:Nat):Option AS×AE:=
 if ¬A.nxt=A.una∧A.wait≤t-A.since then
  (if A.st=.op then (some ⟨4,A.una,A.rcv⟩,{ A with tries:=A.tries+1,wait:=if 16<2*A.wait then 16 else 2*A.wait,since:=t })
  else (some (if A.st=.ss then ⟨0,0,0⟩ else ⟨1,0,A.rcv⟩),{ A with tries:=A.tries+1,wait:=if 16<2*A.wait then 16 else 2*A.wait,since:=t,osyn:=false }))
 else if A.st=.op then
  (if A.nxt<A.beh then (some ⟨3,A.nxt,A.rcv⟩,{ A with oa:=false,nxt:=A.beh,since:=t,wait:=1,tries:=0 })
  else if A.oa=true then (some ⟨2,A.nxt,A.rcv⟩,{ A with oa:=false }) else (none,A))
 else if A.osyn=true then (some (if A.st=.ss then ⟨0,0,0⟩ else ⟨1,0,A.rcv⟩),{ A with osyn:=false })
 else if A.oa=true then (some ⟨2,A.nxt,A.rcv⟩,{ A with oa:=false }) else (none,A)
def okA (hd hp:Bool) (A:AE):Bool:=
 decide (A.tries<6) && (decide (A.nxt=A.una) || decide (0<A.wait)) && (decide (A.beh=1) || (decide (A.beh=2) && hd)) && (match A.st with
 | .ss=>decide (A.una=0) && decide (A.nxt=1) && decide (A.rcv=0) && !A.oa
 | .sc=>decide (A.una=0) && decide (A.nxt=1) && decide (A.rcv=1)
 | .op=>decide (1≤A.una) && decide (A.una≤A.nxt) && decide (A.nxt≤A.beh) && (decide (A.rcv=1) || (decide (A.rcv=2) && hp)))
def okS (hd hp:Bool) (A:AE) (s:AS):Bool:=
 match s.kind with
 | 0=>decide (s.num=0)
 | 1=>decide (s.num=0) && decide (s.ans=1)
 | 2=>(decide (s.num=1) || (decide (s.num=2) && hp)) && decide (1≤s.ans) && decide (s.ans≤A.nxt)
 | 3=>decide (s.num=1) && hp && decide (1≤s.ans) && decide (s.ans≤A.nxt)
 | 4=>decide (s.num=1) && hp && decide (1≤s.ans) && decide (s.ans≤A.nxt)
 | _=>false
def stS:Mo3→State
 | .ss=>.synSent
 | .sc=>.synCome
 | .op=>.opn
def dc (n:Int):Nat→Int
 | 0=>0
 | 1=>1
 | _=>1+n
def gr (g n:Int):Nat→Int
 | 0=>0
 | c=>Zs g (dc n c)
def cE (a b f g:Int) (d d':List Int) (A:AE) (w tl bq mo si wa:Int) (tr:Int):Zn:=
 ⟨a,b,stS A.st,.none,f,Zs f (dc d.length A.una),Zs f (dc d.length A.nxt),gr g d'.length A.rcv,w,tl,bq,mo,if A.beh=2∧A.una≤1 then d else [],if A.rcv=2 then d' else [],[],none,false,Zs f (dc d.length A.beh),none,A.osyn,A.oa,false,si,wa,tr⟩
structure Rep (a b f g:Int) (d d':List Int) (A:AE) (e:Zn):Prop where
 ex:∃w tl bq mo si wa tr,e=cE a b f g d d' A w tl bq mo si wa tr∧(¬A.st=.ss→48≤w∧w≤64∧mo=16)∧(¬A.nxt=A.una→si=1000*(A.since:Int)+5∧wa=1000*(A.wait:Int)∧tr=(A.tries:Int))
def cS (a b f g:Int) (d':List Int) (n:Int) (s:AS) (win:Int):Seg:=
 match s.kind with
 | 0=>⟨b,a,g,0,2,64,16,[]⟩
 | 1=>⟨b,a,g,Zs f (dc n s.ans),18,64,16,[]⟩
 | 2=>⟨b,a,Zs g (dc d'.length s.num),Zs f (dc n s.ans),16,win,0,[]⟩
 | 3=>⟨b,a,Zs g (dc d'.length s.num),Zs f (dc n s.ans),24,win,0,d'⟩
 | _=>⟨b,a,Zs g (dc d'.length s.num),Zs f (dc n s.ans),16,win,0,d'⟩
section
variable {n f g:Int} {i j:Nat}
theorem Zgs (hi:i≤2) (hn:0≤n∧n≤16):0≤dc n i∧dc n i≤17:=by
 match i,hi with
 | 0,_=>simp [dc]
 | 1,_=>simp [dc]
 | 2,_=>simp only [dc]; omega
theorem ZjM (hi:i≤2) (hj:j≤2) (hn:0≤n∧n≤16) (h2:i=2∨j=2→0<n):(0<dc n i-dc n j↔j<i)∧(dc n i=dc n j↔i=j):=by
 match i,j,hi,hj with
 | 0,0,_,_=>simp [dc]
 | 0,1,_,_=>simp [dc]
 | 0,2,_,_=>have:=h2 (.inr rfl); simp only [dc]; omega
 | 1,0,_,_=>simp [dc]
 | 1,1,_,_=>simp [dc]
 | 1,2,_,_=>have:=h2 (.inr rfl); simp only [dc]; omega
 | 2,0,_,_=>have:=h2 (.inl rfl); simp only [dc]; omega
 | 2,1,_,_=>have:=h2 (.inl rfl); simp only [dc]; omega
 | 2,2,_,_=>simp [dc]
theorem Zr0 (hi:i≤2) (hj:j≤2) (hn:0≤n∧n≤16) (h2:i=2∨j=2→0<n):Za0 (Zs f (dc n i)) (Zs f (dc n j))=decide (j<i):=by
 have a:=Zgs hi hn
 have b:=Zgs hj hn
 rw [ZwD (by omega) (by omega),decide_eq_decide]
 exact (ZjM hi hj hn h2).1
theorem Zxd (hi:i≤2) (hj:j≤2) (hn:0≤n∧n≤16) (h2:i=2∨j=2→0<n):Zs f (dc n i)=Zs f (dc n j)↔i=j:=by
 have a:=Zgs hi hn
 have b:=Zgs hj hn
 rw [Zf9 (by omega)]
 exact (ZjM hi hj hn h2).2
theorem ZjN (hi:i≤2) (hj:j≤2) (hn:0≤n∧n≤16):ZL (Zs f (dc n i)) (Zs f (dc n j))=dc n i-dc n j:=by
 have a:=Zgs hi hn
 have b:=Zgs hj hn
 exact Zd6 (by omega)
end
theorem Zj7 {e:Zn} {s:Seg} (hd:s.data=[]) (h1:bears s 1=false) (he:e.early=[]) (hf:e.early_fin=none):Zbj e s=e:=by
 have k1:Zah e s=e:=by
  unfold Zah
  rw [hd]
  rfl
 have k2:Zbv e s=e:=by
  unfold Zbv
  rw [if_pos h1]
 unfold Zbj Zfs
 rw [k1,k2]
 have d1:drawn 200 e=([],e):=by
  unfold drawn
  rw [if_neg (by rw [hf]; simp),he]
  rfl
 rw [d1]
 unfold Zgn
 have:Zbh ([]:List Int) none (some (ZN e))=[]:=by unfold Zbh; rw [List.drop_nil,List.take_nil]
 simp only [this,YC]
section
variable {a b f g win:Int} {d d':List Int} {A:AE} {e:Zn} {s:AS} {t:Nat} {hd hp:Bool}
theorem Zup (r:Rep a b f g d d' A e) (hst:A.st=.ss) (ok:okA hd hp A=true) (os:okS hd hp A s=true) (rf:0≤f∧f≤4294967295):Rep a b f g d d' (Zby A s t) (Zck e (cS a b f g d' d.length s win) (1000*(t:Int)+5)):=by
 obtain ⟨w,tl,bq,mo,si,wa,tr,rfl,hw,ht⟩:=r.ex
 obtain ⟨st,una,nxt,beh,rcv,osyn,oa,since,wait,tries⟩:=A
 simp only at hst
 subst hst
 simp only [okA,Yl,decide_eq_true_eq] at ok
 obtain ⟨⟨⟨_,_⟩,_⟩,⟨⟨q1,q2⟩,q3⟩,q4⟩:=ok
 subst q1 q2 q3
 have na:∀sg:Seg,sg.ans=Zs f 1→ZcA (cE a b f g d d' ⟨.ss,0,1,beh,0,osyn,oa,since,wait,tries⟩ w tl bq mo si wa tr) sg=true:=by
  intro sg h
  unfold ZcA
  have:¬Zs f 1=f:=Zhz (by omega)
  rw [h]
  simp [cE,dc,this]
 obtain ⟨kind,num,ans⟩:=s
 match kind with
 | 0=>
  refine ⟨64,g,0,16,1000*(t:Int)+5,1000,0,?_,fun _=>by omega,fun _=>⟨rfl,rfl,rfl⟩⟩
  show zb _ _ _=_
  unfold zb cS
  simp [cE,Zby,hearSyn,zj,stS,gr,dc]
 | 1=>
  simp only [okS,Yl,decide_eq_true_eq] at os
  obtain ⟨rfl,rfl⟩:=os
  refine ⟨64,g,Zs f 1,16,si,wa,tr,?_,fun _=>by omega,fun z=>absurd rfl z⟩
  show zb _ _ _=_
  unfold zb cS
  rw [na _ rfl]
  simp [cE,Zby,hearSyn,stS,gr,dc]
 | k+2=>
  have a1:ans=1:=by
   match k with
   | 0=>simp only [okS,Yl,decide_eq_true_eq] at os; omega
   | 1=>simp only [okS,Yl,decide_eq_true_eq] at os; omega
   | 2=>simp only [okS,Yl,decide_eq_true_eq] at os; omega
   | k+3=>simp [okS] at os
  subst a1
  have e1:Zby ⟨.ss,0,1,beh,0,osyn,oa,since,wait,tries⟩ ⟨k+2,num,1⟩ t=⟨.ss,0,1,beh,0,osyn,oa,since,wait,tries⟩:=by simp [Zby]
  rw [e1]
  refine ⟨w,tl,bq,mo,si,wa,tr,?_,hw,ht⟩
  show zb _ _ _=_
  have:∃sg:Seg,cS a b f g d' d.length ⟨k+2,num,1⟩ win=sg∧sg.ans=Zs f 1∧bears sg 4=false∧bears sg 2=false:=by
   match k with
   | 0=>exact ⟨_,rfl,rfl,by simp [cS],by simp [cS]⟩
   | 1=>exact ⟨_,rfl,rfl,by simp [cS],by simp [cS]⟩
   | k+2=>exact ⟨_,rfl,rfl,by simp [cS],by simp [cS]⟩
  obtain ⟨sg,h1,h2,h3,h4⟩:=this
  rw [h1]
  unfold zb
  rw [na sg h2,h3,h4]
  simp
end
section
variable {a b f g win:Int} {d d':List Int} {A:AE} {e:Zn} {s:AS} {t:Nat} {hd hp:Bool}
theorem Zg1 {e:Zn} {s:Seg} {t:Int} (hs:e.state∉[State.closed,.listen,.synSent]) (hf:ZdE e s=false):Zck e s t=ZbE e s t:=by
 rw [Zph hs]
 unfold ZaS
 rw [if_pos hf]
theorem Zum (h:¬A.st=.ss):stS A.st∉[State.closed,.listen,.synSent]:=by
 cases hh:A.st with
 | ss=>exact absurd hh h
 | sc=>simp [stS]
 | op=>simp [stS]
structure Cod (hd hp:Bool) (A:AE):Prop where
 tries:A.tries<6
 wait:A.nxt=A.una∨0<A.wait
 beh:A.beh=1∨(A.beh=2∧hd=true)
 una:A.una≤A.nxt
 nxt:1≤A.nxt∧A.nxt≤A.beh
 rcv:A.rcv≤2
 rcv2:A.rcv=2→hp=true
 ss:A.st=.ss→A.una=0∧A.nxt=1∧A.rcv=0∧A.oa=false
 sc:A.st=.sc→A.una=0∧A.nxt=1∧A.rcv=1
 op:A.st=.op→1≤A.una∧1≤A.rcv
theorem Cod.of (ok:okA hd hp A=true):Cod hd hp A:=by
 obtain ⟨st,una,nxt,beh,rcv,osyn,oa,since,wait,tries⟩:=A
 unfold okA at ok
 simp only [Yl,YW,decide_eq_true_eq] at ok
 obtain ⟨⟨⟨h1,h0⟩,h2⟩,h3⟩:=ok
 cases st with
 | ss=>
  simp at h3
  exact ⟨h1,h0,by simpa using h2,by simp; omega,by simp; omega,by simp; omega,by simp; omega,fun _=>⟨h3.1.1.1,h3.1.1.2,h3.1.2,h3.2⟩,fun z=>by simp at z,fun z=>by simp at z⟩
 | sc=>
  simp at h3
  exact ⟨h1,h0,by simpa using h2,by simp; omega,by simp; omega,by simp; omega,by simp; omega,fun z=>by simp at z,fun _=>⟨h3.1.1,h3.1.2,h3.2⟩,fun z=>by simp at z⟩
 | op=>
  simp at h3
  obtain ⟨⟨⟨k1,k2⟩,k3⟩,k4⟩:=h3
  exact ⟨h1,h0,by simpa using h2,by simp; omega,by simp; omega,by simp; omega,fun z=>k4.elim (fun q=>by simp at z; omega) (·.2),fun z=>by simp at z,fun z=>by simp at z,fun _=>⟨k1,by simp; omega⟩⟩
structure Lst (hd:Bool) (d:List Int):Prop where
 len:d.length≤16
 pos:hd=true→0<d.length
structure SegK (hp:Bool) (A:AE) (s:AS):Prop where
 num:(s.num=1∨(s.num=2∧hp=true∧s.kind=2))
 ans:1≤s.ans∧s.ans≤A.nxt
 data:s.kind=2∨((s.kind=3∨s.kind=4)∧s.num=1∧hp=true)
theorem SegK.of (os:okS hd hp A s=true) (h:¬(s.kind=0∨s.kind=1)):SegK hp A s:=by
 obtain ⟨kind,num,ans⟩:=s
 match kind with
 | 0=>simp at h
 | 1=>simp at h
 | 2=>simp [okS] at os; exact ⟨os.1.1.imp id (fun q=>⟨q.1,q.2,rfl⟩),⟨os.1.2,os.2⟩,.inl rfl⟩
 | 3=>simp [okS] at os; exact ⟨.inl os.1.1.1,⟨os.1.2,os.2⟩,.inr ⟨.inl rfl,os.1.1.1,os.1.1.2⟩⟩
 | 4=>simp [okS] at os; exact ⟨.inl os.1.1.1,⟨os.1.2,os.2⟩,.inr ⟨.inr rfl,os.1.1.1,os.1.1.2⟩⟩
 | k+5=>simp [okS] at os
def fS (s:AS):Int:=if s.kind=3 then 24 else 16
def dS (d':List Int) (s:AS):List Int:=if s.kind=2 then [] else d'
theorem Zxi {n:Int} (h:¬(s.kind=0∨s.kind=1)):cS a b f g d' n s win=⟨b,a,Zs g (dc d'.length s.num),Zs f (dc n s.ans),fS s,win,0,dS d' s⟩:=by
 obtain ⟨kind,num,ans⟩:=s
 match kind with
 | 0=>simp at h
 | 1=>simp at h
 | 2=>rfl
 | 3=>rfl
 | k+4=>
  show _=(⟨_,_,_,_,if k+4=3 then 24 else 16,_,_,if k+4=2 then [] else d'⟩:Seg)
  rw [if_neg (by omega),if_neg (by omega)]
  rfl
theorem ZjI (s:AS):bit (fS s) 2=0∧bit (fS s) 1=0∧bit (fS s) 4=0∧bit (fS s) 16=1:=by
 unfold fS
 split<;>decide
theorem Zig {w tl bq mo si wa tr:Int} (h:1≤A.rcv):(cE a b f g d d' A w tl bq mo si wa tr).rcv=Zs g (dc d'.length A.rcv):=by
 show gr g d'.length A.rcv=_
 unfold gr
 split
 ·rename_i q; omega
 ·rfl
theorem ZfL {n:Int} {c:Nat} (h:1≤c):gr g n c=Zs g (dc n c):=by
 unfold gr
 split
 ·rename_i q; omega
 ·rfl
theorem Zl1 {w tl bq mo si wa tr:Int} {sg:Seg} (hr:1≤A.rcv∧A.rcv≤2) (hl:d'.length≤16) (h1:sg.num=g) (h2:Zhu sg=1) (rg:0≤g∧g≤4294967295):ZdE (cE a b f g d d' A w tl bq mo si wa tr) sg=false:=by
 have hb:Zs g 0=g:=ZbX rg
 have q:=Zgs (n:=d'.length) (i:=A.rcv) hr.2 (by omega)
 have q1:1≤dc d'.length A.rcv:=by
  have:A.rcv=1∨A.rcv=2:=by omega
  rcases this with h | h<;>rw [h]<;>simp only [dc]<;>omega
 have o:ZL g (Zs g (dc d'.length A.rcv)) = - dc d'.length A.rcv:=ZiW (by omega)
 unfold ZdE
 rw [h2,if_neg (by omega),h1]
 unfold inWin
 rw [Zig hr.1,show (1:Int)-1=0 from rfl,hb,o]
 simp; omega
theorem ZrT {w tl bq mo si wa tr n:Int} (hr:1≤A.rcv∧A.rcv≤2) (hr2:A.rcv=2→hp=true) (hl:Lst hp d') (k:SegK hp A s):ZdE (cE a b f g d d' A w tl bq mo si wa tr) ⟨b,a,Zs g (dc d'.length s.num),Zs f (dc n s.ans),fS s,win,0,dS d' s⟩=decide (A.rcv≤s.num):=by
 obtain ⟨b2,b1,b4,b16⟩:=ZjI s
 have hn2:s.num≤2:=by rcases k.num with h | h<;>omega
 have ll:=hl.len
 have h2:s.num=2∨A.rcv=2→0<(d'.length:Int):=by
  rintro (h | h)
  ·rcases k.num with q | q
   ·omega
   ·have:=hl.pos q.2.1; omega
  ·have:=hl.pos (hr2 h); omega
 have sub:=ZjM (n:=d'.length) (i:=s.num) (j:=A.rcv) hn2 hr.2 (by omega) h2
 have i1:=Zgs (n:=d'.length) (i:=A.rcv) hr.2 (by omega)
 have i2:=Zgs (n:=d'.length) (i:=s.num) hn2 (by omega)
 have off:ZL (Zs g (dc d'.length s.num)) (Zs g (dc d'.length A.rcv))=dc d'.length s.num-dc d'.length A.rcv:=ZjN hn2 hr.2 (by omega)
 have ge:0≤dc d'.length s.num-dc d'.length A.rcv↔A.rcv≤s.num:=by
  by_cases c:A.rcv=s.num
  ·rw [c]; simp
  ·have e1:=sub.2
   have e2:=sub.1
   constructor
   ·intro h
    have:0<dc d'.length s.num-dc d'.length A.rcv:=by
     by_cases z:dc d'.length s.num=dc d'.length A.rcv
     ·exact absurd (e1.mp z).symm c
     ·omega
    have:=e2.mp this
    omega
   ·intro h
    have:=e2.mpr (by omega)
    omega
 unfold ZdE
 have len:Zhu ⟨b,a,Zs g (dc d'.length s.num),Zs f (dc n s.ans),fS s,win,0,dS d' s⟩=(dS d' s).length:=by
  unfold Zhu
  show ((dS d' s).length:Int)+bit (fS s) 2+bit (fS s) 1=_
  rw [b2,b1]; omega
 rw [len]
 rcases k.data with h | ⟨h,h1,h3⟩
 ·have:dS d' s=[]:=by unfold dS; rw [if_pos h]
  rw [this,if_pos (by rfl)]
  rw [Zig hr.1]
  show (decide (0≤ZL (Zs g (dc d'.length s.num)) (Zs g (dc d'.length A.rcv))) && decide (ZL (Zs g (dc d'.length s.num)) (Zs g (dc d'.length A.rcv))≤64))=_
  rw [off]
  rw [Jd]
  simp only [Yl,decide_eq_true_eq]
  constructor
  ·intro h; exact ge.mp h.1
  ·intro h; exact ⟨ge.mpr h,by omega⟩
 ·have hpos:=hl.pos h3
  have:dS d' s=d':=by unfold dS; rw [if_neg (by omega)]
  rw [this,if_neg (by omega)]
  unfold inWin ZN
  rw [Zig hr.1]
  show (decide (0≤ZL (Zs g (dc d'.length s.num)) (Zs g (dc d'.length A.rcv))) && decide (ZL (Zs g (dc d'.length s.num)) (Zs g (dc d'.length A.rcv))<64-((if A.rcv=2 then d' else []).length:Int)) || decide (0≤ZL (Zs (Zs g (dc d'.length s.num)) (d'.length-1)) (Zs g (dc d'.length A.rcv))) && decide (ZL (Zs (Zs g (dc d'.length s.num)) (d'.length-1)) (Zs g (dc d'.length A.rcv))<64-((if A.rcv=2 then d' else []).length:Int)))=_
  rw [off,Zcm,Zd6 (by omega),h1]
  have hc:A.rcv=1∨A.rcv=2:=by omega
  rcases hc with hc | hc
  ·rw [hc,if_neg (by omega)]
   simp [dc]
  ·rw [hc,if_pos rfl]
   simp [dc]; omega
abbrev sgK (a b f g:Int) (d':List Int) (n:Int) (s:AS) (win:Int):Seg:=⟨b,a,Zs g (dc d'.length s.num),Zs f (dc n s.ans),fS s,win,0,dS d' s⟩
theorem ZrN {w tl bq mo si wa tr:Int} (hst:A.st=.sc) (c:Cod hd hp A) (k:SegK hp A s):ZaD (cE a b f g d d' A w tl bq mo si wa tr) (sgK a b f g d' d.length s win) (1000*(t:Int)+5)=(true,cE a b f g d d' { A with una:=1,st:=.op } win (Zs g (dc d'.length s.num)) (Zs f (dc d.length s.ans)) mo si wa tr):=by
 obtain ⟨q1,q2,q3⟩:=c.sc hst
 have a1:s.ans=1:=by have:=k.ans; omega
 obtain ⟨kind,num,ans⟩:=s
 simp only at a1
 subst a1
 obtain ⟨st,una,nxt,beh,rcv,osyn,oa,since,wait,tries⟩:=A
 simp only at hst q1 q2 q3
 subst hst q1 q2 q3
 unfold ZaD Zay
 have h1:¬Zs f 1=f:=Zhz (by omega)
 simp [cE,stS,dc,h1,Zfn]
theorem ZrO {w tl bq mo si wa tr:Int} (hst:A.st=.op) (c:Cod hd hp A) (k:SegK hp A s) (hl:Lst hd d) (hw:48≤w∧w≤64) (hwin:48≤win∧win≤64):∃w' tl' bq',(48≤w'∧w'≤64)∧ZaD (cE a b f g d d' A w tl bq mo si wa tr) (sgK a b f g d' d.length s win) (1000*(t:Int)+5)=(true,cE a b f g d d' (if A.una<s.ans then { A with una:=s.ans } else A) w' tl' bq' mo si wa tr):=by
 obtain ⟨q1,q2⟩:=c.op hst
 have hb:=c.beh
 have hn:=c.nxt
 have hu:=c.una
 have ha:=k.ans
 have ll:=hl.len
 have pos:A.beh=2→0<(d.length:Int):=by
  intro h
  rcases hb with z | ⟨_,z⟩
  ·omega
  ·have:=hl.pos z; omega
 have pst:∀i j:Nat,i≤A.beh→j≤A.beh→Za0 (Zs f (dc d.length i)) (Zs f (dc d.length j))=decide (j<i):=fun i j hi hj=>Zr0 (by omega) (by omega) (by omega) (fun z=>pos (by omega))
 unfold ZaD
 rw [if_neg (by show ¬stS A.st=.synCome; rw [hst]; simp [stS])]
 have p1:Za0 (sgK a b f g d' d.length s win).ans (cE a b f g d d' A w tl bq mo si wa tr).nxt=false:=by
  show Za0 (Zs f (dc d.length s.ans)) (Zs f (dc d.length A.nxt))=false
  rw [pst _ _ (by omega) (by omega)]
  simp; omega
 rw [p1,if_neg (by simp)]
 obtain ⟨A1,hA1⟩:∃A1,A1=(if A.una<s.ans then { A with una:=s.ans } else A):=⟨_,rfl⟩
 have hon:ZcD (cE a b f g d d' A w tl bq mo si wa tr) (sgK a b f g d' d.length s win) (1000*(t:Int)+5)=cE a b f g d d' A1 w tl bq mo si wa tr:=by
  unfold ZcD
  have p2:Za0 (sgK a b f g d' d.length s win).ans (cE a b f g d d' A w tl bq mo si wa tr).una=decide (A.una<s.ans):=pst _ _ (by omega) (by omega)
  rw [p2]
  by_cases z:A.una<s.ans
  ·rw [if_pos (by simpa using z)]
   rw [if_pos z] at hA1
   have z1:A.una=1:=by omega
   have z2:s.ans=2:=by omega
   have z3:A.nxt=2:=by omega
   have z4:A.beh=2:=by omega
   rw [if_pos (by show Zs f (dc d.length s.ans)=Zs f (dc d.length A.nxt); rw [z2,z3]),hA1]
   have o:ZL (sgK a b f g d' d.length s win).ans (cE a b f g d d' A w tl bq mo si wa tr).una=d.length:=by
    show ZL (Zs f (dc d.length s.ans)) (Zs f (dc d.length A.una))=_
    rw [z1,z2,ZjN (by omega) (by omega) (by omega)]
    simp only [dc]; omega
   rw [o]
   unfold cE
   simp only [z4,z1,z2,z3]
   simp
  ·rw [if_neg (by simpa using z)]
   rw [if_neg z] at hA1
   rw [hA1]
 have hst1:A1.st=.op:=by rw [hA1]; split<;>exact hst
 have h1:∃w' tl' bq',(48≤w'∧w'≤64)∧z8 (cE a b f g d d' A w tl bq mo si wa tr) (sgK a b f g d' d.length s win) (1000*(t:Int)+5)=cE a b f g d d' A1 w' tl' bq' mo si wa tr:=by
  unfold z8
  simp only [hon]
  by_cases z:Za0 (cE a b f g d d' A1 w tl bq mo si wa tr).una (sgK a b f g d' d.length s win).ans=true
  ·exact ⟨w,tl,bq,hw,by rw [if_pos z]⟩
  ·rw [if_neg z]
   by_cases y:(Za0 (sgK a b f g d' d.length s win).ans (cE a b f g d d' A w tl bq mo si wa tr).una || isNewer (cE a b f g d d' A1 w tl bq mo si wa tr) (sgK a b f g d' d.length s win))=true
   ·refine ⟨win,Zs g (dc d'.length s.num),Zs f (dc d.length s.ans),hwin,?_⟩
    rw [if_pos y,if_neg]
    ·rfl
    ·show ¬(w=0∨win=0); omega
   ·refine ⟨w,tl,bq,hw,?_⟩
    rw [if_neg y,if_neg]
    show ¬(w=0∨w=0); omega
 obtain ⟨w',tl',bq',hw',h1⟩:=h1
 refine ⟨w',tl',bq',hw',?_⟩
 rw [h1]
 have h2:Za4 (cE a b f g d d' A1 w' tl' bq' mo si wa tr) (1000*(t:Int)+5)=cE a b f g d d' A1 w' tl' bq' mo si wa tr:=by
  have hf:Zf5 (cE a b f g d d' A1 w' tl' bq' mo si wa tr)=false:=by
   show Za0 (Zs f (dc d.length A1.nxt)) (Zs f (dc d.length A1.beh))=false
   have e1:A1.nxt=A.nxt∧A1.beh=A.beh:=by rw [hA1]; split<;>exact ⟨rfl,rfl⟩
   rw [e1.1,e1.2,pst _ _ (by omega) (by omega)]
   simp; omega
  unfold Za4
  rw [if_pos (.inl hf)]
 rw [h2,←hA1]
 have h3:(cE a b f g d d' A1 w' tl' bq' mo si wa tr).state=.opn:=by show stS A1.st=_; rw [hst1]; rfl
 rw [h3]
 simp
theorem ZsA {w tl bq mo si wa tr:Int} (hst:A.st=.op) (hr:1≤A.rcv∧A.rcv≤s.num) (k:SegK hp A s) (hl:Lst hp d'):Zb1 (cE a b f g d d' A w tl bq mo si wa tr) (sgK a b f g d' d.length s win) (1000*(t:Int)+5)=cE a b f g d d' (ZcJ A s) w tl bq mo si wa tr:=by
 obtain ⟨b2,b1,b4,b16⟩:=ZjI s
 have ll:=hl.len
 have b1':bears (sgK a b f g d' d.length s win) 1=false:=by
  unfold bears
  show decide (bit (fS s) 1=1)=false
  rw [b1]; rfl
 have hS:(cE a b f g d d' A w tl bq mo si wa tr).state=.opn:=by show stS A.st=_; rw [hst]; rfl
 unfold Zb1
 rw [if_pos (.inl hS)]
 have key:Zbj (cE a b f g d d' A w tl bq mo si wa tr) (sgK a b f g d' d.length s win)=cE a b f g d d' (ZcJ A s) w tl bq mo si wa tr:=by
  rcases k.data with h | ⟨h,h1,h3⟩
  ·rw [Zj7 (by show dS d' s=[]; unfold dS; rw [if_pos h]) b1' rfl rfl]
   have e5:ZcJ A s=A:=by unfold ZcJ; rw [if_neg (by omega)]
   rw [e5]
  ·have e1:A.rcv=1:=by omega
   have hds:dS d' s=d':=by unfold dS; rw [if_neg (by omega)]
   have hpos:=hl.pos h3
   rw [Zj8 (by show (dS d' s).length≤16; rw [hds]; omega) (by rw [Zig hr.1,e1]; show Zs g (dc d'.length s.num)=_; rw [h1]) (by rw [Zig hr.1]; exact Zga _ _) rfl rfl (by
    rw [b1',if_neg (by simp)]
    show (if A.rcv=2 then d' else []).length+(dS d' s).length+0≤64
    rw [hds,e1]; simp; omega)]
   rw [b1']
   have e5:ZcJ A s={ A with rcv:=2,oa:=true }:=by unfold ZcJ; rw [if_pos h]
   rw [e5]
   have e6:Zs (gr g d'.length 1) d'.length=gr g d'.length 2:=by
    rw [ZfL (by omega),ZfL (by omega),Zcm]; rfl
   unfold cE
   simp [hds,e1,e6,hpos]
 rw [key,if_neg]
 show ¬none=some _
 simp
theorem Zq8 (r:Rep a b f g d d' A e) (hst:¬A.st=.ss) (ok:okA hd hp A=true) (os:okS hd hp A s=true) (rg:0≤g∧g≤4294967295) (hwin:48≤win∧win≤64) (l:Lst hd d) (l':Lst hp d'):Rep a b f g d d' (Zby A s t) (Zck e (cS a b f g d' d.length s win) (1000*(t:Int)+5)):=by
 obtain ⟨w,tl,bq,mo,si,wa,tr,rfl,hw,ht⟩:=r.ex
 have c:=Cod.of ok
 have hr:1≤A.rcv∧A.rcv≤2:=by
  refine ⟨?_,c.rcv⟩
  cases h:A.st with
  | ss=>exact absurd h hst
  | sc=>have:=(c.sc h).2.2; omega
  | op=>exact (c.op h).2
 have sI:(cE a b f g d d' A w tl bq mo si wa tr).state∉[State.closed,.listen,.synSent]:=Zum hst
 obtain ⟨hw0,hw1,hm⟩:=hw hst
 by_cases h01:s.kind=0∨s.kind=1
 ·have nf:ZdE (cE a b f g d d' A w tl bq mo si wa tr) (cS a b f g d' d.length s win)=false:=by
   rcases h01 with h | h
   ·exact Zl1 hr l'.len (by simp [cS,h]) (by simp [cS,Zhu,h]) rg
   ·exact Zl1 hr l'.len (by simp [cS,h]) (by simp [cS,Zhu,h]) rg
  rw [Zg1 sI nf]
  have n4:bears (cS a b f g d' d.length s win) 4=false:=by
   rcases h01 with h | h<;>simp [cS,h]
  have b2:bears (cS a b f g d' d.length s win) 2=true:=by
   rcases h01 with h | h<;>simp [cS,h]
  unfold ZbE
  rw [n4,b2,if_neg (by simp)]
  obtain ⟨st,una,nxt,beh,rcv,osyn,oa,since,wait,tries⟩:=A
  cases st with
  | ss=>simp at hst
  | sc=>
   rcases h01 with h | h
   ·have n16:bears (cS a b f g d' d.length s win) 16=false:=by simp [cS,h]
    refine ⟨w,tl,bq,mo,si,wa,tr,?_,fun _=>⟨hw0,hw1,hm⟩,fun z=>?_⟩
    ·rw [n16]; simp [cE,stS,Zby,h]
    ·simp only [Zby,h] at z ⊢; exact ht z
   ·have n16:bears (cS a b f g d' d.length s win) 16=true:=by simp [cS,h]
    refine ⟨w,tl,bq,mo,si,wa,tr,?_,fun _=>⟨hw0,hw1,hm⟩,fun z=>?_⟩
    ·rw [n16]; simp [cE,stS,Zby,h]
    ·simp [Zby,h] at z ⊢; exact ht z
  | op=>
   refine ⟨w,tl,bq,mo,si,wa,tr,?_,fun _=>⟨hw0,hw1,hm⟩,fun z=>?_⟩
   ·rcases h01 with h | h<;>simp [cE,stS,Zby,h]
   ·rcases h01 with h | h<;>· simp [Zby,h] at z ⊢; exact ht z
 ·have k:=SegK.of os h01
  have e1:=Zxi (a:=a) (b:=b) (f:=f) (g:=g) (d':=d') (n:=d.length) (win:=win) h01
  have ft:=ZrT (a:=a) (b:=b) (f:=f) (g:=g) (d:=d) (w:=w) (tl:=tl) (bq:=bq) (mo:=mo) (si:=si) (wa:=wa) (tr:=tr) (n:=d.length) (win:=win) hr c.rcv2 l' k
  obtain ⟨b2,b1,b4,b16⟩:=ZjI s
  have n4:bears (sgK a b f g d' d.length s win) 4=false:=by
   unfold bears; show decide (bit (fS s) 4=1)=false; rw [b4]; rfl
  have n2:bears (sgK a b f g d' d.length s win) 2=false:=by
   unfold bears; show decide (bit (fS s) 2=1)=false; rw [b2]; rfl
  have n16:bears (sgK a b f g d' d.length s win) 16=true:=by
   unfold bears; show decide (bit (fS s) 16=1)=true; rw [b16]; rfl
  rw [e1]
  by_cases z:A.rcv≤s.num
  ·rw [Zr2 sI (by rw [ft]; simpa using z) n4 n2 n16]
   cases h:A.st with
   | ss=>exact absurd h hst
   | sc=>
    rw [ZrN h c k]
    simp only [if_true]
    rw [ZsA (A:={ A with una:=1,st:=.op }) rfl ⟨hr.1,z⟩ ⟨k.num,k.ans,k.data⟩ l']
    have e2:Zby A s t=ZcJ { A with una:=1,st:=.op } s:=by
     unfold Zby
     rw [h]
     simp only
     rw [if_neg (by omega),if_neg (by omega)]
    rw [e2]
    have q2:=(c.sc h).2.1
    refine ⟨win,_,_,mo,si,wa,tr,rfl,fun _=>⟨hwin.1,hwin.2,hm⟩,fun y=>?_⟩
    exfalso; apply y
    unfold ZcJ
    split<;>exact q2
   | op=>
    obtain ⟨w',tl',bq',hw',gp⟩:=ZrO (a:=a) (b:=b) (f:=f) (g:=g) (d:=d) (d':=d') (w:=w) (tl:=tl) (bq:=bq) (mo:=mo) (si:=si) (wa:=wa) (tr:=tr) (t:=t) h c k l ⟨hw0,hw1⟩ hwin
    rw [gp]
    simp only [if_true]
    have e0:(if A.una<s.ans then { A with una:=s.ans } else A).st=.op∧(if A.una<s.ans then { A with una:=s.ans } else A).rcv=A.rcv∧(if A.una<s.ans then { A with una:=s.ans } else A).nxt=A.nxt:=by split<;>exact ⟨h,rfl,rfl⟩
    rw [ZsA e0.1 (by rw [e0.2.1]; exact ⟨hr.1,z⟩) ⟨k.num,by rw [e0.2.2]; exact k.ans,k.data⟩ l']
    have e2:Zby A s t=ZcJ (if A.una<s.ans then { A with una:=s.ans } else A) s:=by
     unfold Zby
     rw [h]
     simp only
     rw [if_neg (by omega)]
    rw [e2]
    refine ⟨w',tl',bq',mo,si,wa,tr,rfl,fun _=>⟨hw'.1,hw'.2,hm⟩,fun y=>?_⟩
    have e3:∀B:AE,(ZcJ B s).nxt=B.nxt∧(ZcJ B s).una=B.una∧(ZcJ B s).since=B.since∧(ZcJ B s).wait=B.wait∧(ZcJ B s).tries=B.tries:=by
     intro B; unfold ZcJ; split<;>exact ⟨rfl,rfl,rfl,rfl,rfl⟩
    obtain ⟨r1,r2,r3,r4,r5⟩:=e3 (if A.una<s.ans then { A with una:=s.ans } else A)
    rw [r1,r2] at y
    rw [r3,r4,r5]
    by_cases x:A.una<s.ans
    ·simp only [if_pos x] at y ⊢
     have:=k.ans
     have:=c.una
     have:=c.nxt
     have:=c.beh
     have:=c.op h
     omega
    ·simp only [if_neg x] at y ⊢
     exact ht y
  ·rw [Zg1 sI (by rw [ft]; simpa using z)]
   unfold ZbE
   rw [n4,n2,if_neg (by simp)]
   obtain ⟨st,una,nxt,beh,rcv,osyn,oa,since,wait,tries⟩:=A
   have z':s.num<rcv:=by simpa using z
   have k0:¬s.kind=0:=by omega
   cases st with
   | ss=>simp at hst
   | sc=>
    refine ⟨w,tl,bq,mo,si,wa,tr,?_,fun _=>⟨hw0,hw1,hm⟩,fun y=>?_⟩
    ·simp [cE,stS,Zby,z',k0]
    ·simp [Zby,k0,z'] at y ⊢; exact ht y
   | op=>
    refine ⟨w,tl,bq,mo,si,wa,tr,?_,fun _=>⟨hw0,hw1,hm⟩,fun y=>?_⟩
    ·simp [cE,stS,Zby,z',k0]
    ·simp [Zby,k0,z'] at y ⊢; exact ht y
theorem ZnZ (r:Rep a b f g d d' A e) (ok:okA hd hp A=true) (os:okS hd hp A s=true) (rf:0≤f∧f≤4294967295) (rg:0≤g∧g≤4294967295) (hwin:48≤win∧win≤64) (l:Lst hd d) (l':Lst hp d'):Rep a b f g d d' (Zby A s t) (Zck e (cS a b f g d' d.length s win) (1000*(t:Int)+5)):=by
 by_cases h:A.st=.ss
 ·exact Zup r h ok os rf
 ·exact Zq8 r h ok os rg hwin l l'
theorem ZrY {si wa tr w tl bq mo:Int} (ht:si=1000*(A.since:Int)+5∧wa=1000*(A.wait:Int)∧tr=(A.tries:Int)) (hw:0<A.wait):Zdj (cE a b f g d d' A w tl bq mo si wa tr) (1000*(t:Int)+5)=decide (A.wait≤t-A.since):=by
 unfold Zdj
 show decide (wa≤1000*(t:Int)+5-si)=_
 rw [decide_eq_decide]
 omega
theorem Zu1 {w tl bq mo si wa tr:Int} (c:Cod hd hp A) (l:Lst hd d):(cE a b f g d d' A w tl bq mo si wa tr).nxt=(cE a b f g d d' A w tl bq mo si wa tr).una↔A.nxt=A.una:=by
 show Zs f (dc d.length A.nxt)=Zs f (dc d.length A.una)↔_
 have hb:=c.beh
 have hn:=c.nxt
 have hu:=c.una
 have ll:=l.len
 refine Zxd (by omega) (by omega) (by omega) fun z=>?_
 rcases hb with h | ⟨_,h⟩
 ·omega
 ·have:=l.pos h; omega
def goS (a b f g:Int) (d:List Int) (n':Int) (x:Option AS) (y:Option Seg):Prop:=
 match x,y with
 | none,none=>True
 | some s,some sg=>∃win,48≤win∧win≤64∧sg=cS b a g f d n' s win
 | _,_=>False
theorem Znq {r:List Int} {k:Int} (h:(r.length:Int)≤k):Zbh r (some 0) (some k)=r:=by
 have:=ZhE h
 unfold Zbh at this ⊢
 have e:HT.sIx r.length 0 (some 0)=HT.sIx r.length 0 none:=by
  simp [HT.sIx]
 rw [e]
 exact this
theorem ZeB {x:Option AS×AE} {y:Option Seg×Zn} {A':AE} {e':Zn} (hA:x=(some s,A')) (hE:y=(some (cS b a g f d d'.length s win),e')) (hw:48≤win∧win≤64) (r:Rep a b f g d d' A' e'):goS a b f g d d'.length x.1 y.1∧Rep a b f g d d' x.2 y.2:=by
 subst hA hE
 exact ⟨⟨win,hw.1,hw.2,rfl⟩,r⟩
theorem Zmn {x:Option AS×AE} {y:Option Seg×Zn} {A':AE} {e':Zn} (hA:x=(none,A')) (hE:y=(none,e')) (r:Rep a b f g d d' A' e'):goS a b f g d d'.length x.1 y.1∧Rep a b f g d d' x.2 y.2:=by
 subst hA hE
 exact ⟨trivial,r⟩
theorem Zuq (r:Rep a b f g d d' A e) (ok:okA hd hp A=true) (rf:0≤f∧f≤4294967295) (l:Lst hd d) (l':Lst hp d'):goS a b f g d d'.length (goA A t).1 (zV e (1000*(t:Int)+5)).1∧Rep a b f g d d' (goA A t).2 (zV e (1000*(t:Int)+5)).2:=by
 obtain ⟨w,tl,bq,mo,si,wa,tr,rfl,hw,ht⟩:=r.ex
 have c:=Cod.of ok
 have ll:=l.len
 have ll':=l'.len
 have nu:=Zu1 (a:=a) (b:=b) (f:=f) (g:=g) (d':=d') (w:=w) (tl:=tl) (bq:=bq) (mo:=mo) (si:=si) (wa:=wa) (tr:=tr) c l
 have hwn:48≤64-((if A.rcv=2 then d' else []).length:Int)∧64-((if A.rcv=2 then d' else []).length:Int)≤64:=by
  split
  ·omega
  ·simp
 have f0:Zs f 0=f:=ZbX rf
 have stt:stS A.st=.synSent∨stS A.st=.synCome∨stS A.st=.opn:=by cases A.st<;>simp [stS]
 have hg:zV (cE a b f g d d' A w tl bq mo si wa tr) (1000*(t:Int)+5)=if ¬A.nxt=A.una∧A.wait≤t-A.since then again (cE a b f g d d' A w tl bq mo si wa tr) (1000*(t:Int)+5) else Zao (cE a b f g d d' A w tl bq mo si wa tr) (1000*(t:Int)+5):=by
  unfold zV
  have k1:¬((cE a b f g d d' A w tl bq mo si wa tr).state=.timeWait∧120000≤(1000*(t:Int)+5)-(cE a b f g d d' A w tl bq mo si wa tr).since):=by
   show ¬(stS A.st=.timeWait∧_)
   rcases stt with h | h | h<;>rw [h]<;>simp
  have k2:¬((cE a b f g d d' A w tl bq mo si wa tr).state=.closed∨(cE a b f g d d' A w tl bq mo si wa tr).state=.listen):=by
   show ¬(stS A.st=.closed∨stS A.st=.listen)
   rcases stt with h | h | h<;>rw [h]<;>simp
  show (if (if _∧_ then _ else _:Zn).state=.closed∨_ then _ else _)=_
  rw [if_neg k1,if_neg k2]
  by_cases z:A.nxt=A.una
  ·rw [if_neg (fun h=>h.1 (nu.mpr z)),if_neg (fun h=>h.1 z)]
  ·have dw:=ZrY (a:=a) (b:=b) (f:=f) (g:=g) (d:=d) (d':=d') (w:=w) (tl:=tl) (bq:=bq) (mo:=mo) (t:=t) (ht z) (c.wait.resolve_left z)
   rw [dw]
   by_cases y:A.wait≤t-A.since
   ·rw [if_pos ⟨fun h=>z (nu.mp h),by simpa using y⟩,if_pos ⟨z,y⟩]
   ·rw [if_neg (fun h=>y (by simpa using h.2)),if_neg (fun h=>y h.2)]
 have hne:¬Zs f 1=f:=Zhz (by omega)
 by_cases du:¬A.nxt=A.una∧A.wait≤t-A.since
 ·rw [if_pos du] at hg
  obtain ⟨e1,e2,e3⟩:=ht du.1
  have ntr:¬tr=6:=by have:=c.tries; omega
  have hmn:mn (2*wa) 16000=1000*((if 16<2*A.wait then 16 else 2*A.wait:Nat):Int):=by
   unfold mn
   by_cases z:16<2*A.wait
   ·rw [if_pos z,if_pos (by omega)]; rfl
   ·rw [if_neg z,if_neg (by omega)]; omega
  obtain ⟨A2,hA2⟩:∃A2:AE,A2={ A with tries:=A.tries+1,wait:=if 16<2*A.wait then 16 else 2*A.wait,since:=t }:=⟨_,rfl⟩
  have hgA:goA A t=if A.st=.op then (some ⟨4,A.una,A.rcv⟩,A2) else (some (if A.st=.ss then ⟨0,0,0⟩ else ⟨1,0,A.rcv⟩),{ A2 with osyn:=false }):=by
   unfold goA
   rw [if_pos du,hA2]
  have tm:(1000*(t:Int)+5)=1000*(A2.since:Int)+5∧mn (2*wa) 16000=1000*(A2.wait:Int)∧tr+1=(A2.tries:Int):=by
   rw [hA2]; exact ⟨rfl,hmn,by rw [e3]; rfl⟩
  have hE2:again (cE a b f g d d' A w tl bq mo si wa tr) (1000*(t:Int)+5)=if A.st=.op then (some (ZbW (cE a b f g d d' A2 w tl bq mo (1000*(t:Int)+5) (mn (2*wa) 16000) (tr+1)) (Zs f (dc d.length A.una)) (if 0<(ZaN (cE a b f g d d' A w tl bq mo si wa tr)).length then 0 else 1) (ZaN (cE a b f g d d' A w tl bq mo si wa tr))),cE a b f g d d' A2 w tl bq mo (1000*(t:Int)+5) (mn (2*wa) 16000) (tr+1)) else (some (Zbr (cE a b f g d d' A2 w tl bq mo (1000*(t:Int)+5) (mn (2*wa) 16000) (tr+1))),cE a b f g d d' { A2 with osyn:=false } w tl bq mo (1000*(t:Int)+5) (mn (2*wa) 16000) (tr+1)):=by
   unfold again
   rw [if_neg (show ¬(cE a b f g d d' A w tl bq mo si wa tr).tries=6 from ntr),hA2]
   cases h:A.st with
   | ss=>rw [if_pos (by left; show stS A.st=_; rw [h]; rfl),if_neg (by simp)]; rw [←h]; rfl
   | sc=>rw [if_pos (by right; show stS A.st=_; rw [h]; rfl),if_neg (by simp)]; rw [←h]; rfl
   | op=>rw [if_neg (by show ¬(stS A.st=_∨stS A.st=_); rw [h]; simp [stS]),if_pos rfl]; rw [←h]; rfl
  have s2:A2.st=A.st∧A2.rcv=A.rcv:=by rw [hA2]; exact ⟨rfl,rfl⟩
  rw [hgA,hg,hE2]
  cases h:A.st with
  | ss=>
   refine ZeB (win:=64) (if_neg (by simp)) (s:=⟨0,0,0⟩) (A':={ A2 with osyn:=false }) (e':=cE a b f g d d' { A2 with osyn:=false } w tl bq mo (1000*(t:Int)+5) (mn (2*wa) 16000) (tr+1)) ?_ (by omega) ⟨w,tl,bq,mo,_,_,_,rfl,fun z=>absurd (s2.1.trans h) z,fun _=>tm⟩
   rw [if_neg (by simp)]
   have:Zbr (cE a b f g d d' A2 w tl bq mo (1000*(t:Int)+5) (mn (2*wa) 16000) (tr+1))=cS b a g f d d'.length ⟨0,0,0⟩ 64:=by
    simp [Zbr,cE,cS,s2.1,h,stS]
   rw [this]
  | sc=>
   obtain ⟨q1,q2,q3⟩:=c.sc h
   refine ZeB (win:=64) (if_neg (by simp)) (s:=⟨1,0,A.rcv⟩) (A':={ A2 with osyn:=false }) (e':=cE a b f g d d' { A2 with osyn:=false } w tl bq mo (1000*(t:Int)+5) (mn (2*wa) 16000) (tr+1)) ?_ (by omega) ⟨w,tl,bq,mo,_,_,_,rfl,fun z=>hw (by rw [h]; simp),fun _=>tm⟩
   rw [if_neg (by simp)]
   have:Zbr (cE a b f g d d' A2 w tl bq mo (1000*(t:Int)+5) (mn (2*wa) 16000) (tr+1))=cS b a g f d d'.length ⟨1,0,A.rcv⟩ 64:=by
    simp [Zbr,cE,cS,s2.1,s2.2,h,stS,ZfL,q3]
   rw [this]
  | op=>
   obtain ⟨q1,q2⟩:=c.op h
   have hb:=c.beh
   have hn:=c.nxt
   have hu:=c.una
   have hne:=du.1
   have z1:A.una=1:=by omega
   have z2:A.nxt=2:=by omega
   have z3:A.beh=2:=by omega
   have hdp:0<d.length:=l.pos (by rcases hb with y | y; omega; exact y.2)
   obtain ⟨hw0,hw1,hm⟩:=hw (by rw [h]; simp)
   have ad:ZaN (cE a b f g d d' A w tl bq mo si wa tr)=d:=by
    unfold ZaN
    have o:ZL (cE a b f g d d' A w tl bq mo si wa tr).nxt (cE a b f g d d' A w tl bq mo si wa tr).una=d.length:=by
     show ZL (Zs f (dc d.length A.nxt)) (Zs f (dc d.length A.una))=_
     rw [z1,z2,ZjN (by omega) (by omega) (by omega)]
     simp only [dc]; omega
    have m:zH (cE a b f g d d' A w tl bq mo si wa tr)=16:=by
     show (if 16<mo then 16 else mo)=16
     rw [hm]; rfl
    have wr:(cE a b f g d d' A w tl bq mo si wa tr).written=d:=by
     show (if A.beh=2∧A.una≤1 then d else [])=d
     rw [if_pos ⟨z3,by omega⟩]
    rw [o,m,wr]
    unfold mn
    rw [if_neg (by omega)]
    exact ZhE (by omega)
   rw [ad]
   refine ZeB (win:=64-((if A.rcv=2 then d' else []).length:Int)) (if_pos rfl) ?_ hwn ⟨w,tl,bq,mo,_,_,_,rfl,fun z=>⟨hw0,hw1,hm⟩,fun _=>tm⟩
   rw [if_pos rfl,if_pos hdp]
   have:ZbW (cE a b f g d d' A2 w tl bq mo (1000*(t:Int)+5) (mn (2*wa) 16000) (tr+1)) (Zs f (dc d.length A.una)) 0 d=cS b a g f d d'.length ⟨4,A.una,A.rcv⟩ (64-((if A.rcv=2 then d' else []).length:Int)):=by
    simp [ZbW,cE,cS,s2.2,ZN,ZfL q2]
   rw [this]
 ·rw [if_neg du] at hg
  have hgA:goA A t=if A.st=.op then
    (if A.nxt<A.beh then (some ⟨3,A.nxt,A.rcv⟩,{ A with oa:=false,nxt:=A.beh,since:=t,wait:=1,tries:=0 })
    else if A.oa=true then (some ⟨2,A.nxt,A.rcv⟩,{ A with oa:=false }) else (none,A))
   else if A.osyn=true then (some (if A.st=.ss then ⟨0,0,0⟩ else ⟨1,0,A.rcv⟩),{ A with osyn:=false })
   else if A.oa=true then (some ⟨2,A.nxt,A.rcv⟩,{ A with oa:=false }) else (none,A):=by
   unfold goA
   rw [if_neg du]
  have hans:1≤A.rcv→zD (cE a b f g d d' A w tl bq mo si wa tr)=if A.oa=true then (some (cS b a g f d d'.length ⟨2,A.nxt,A.rcv⟩ (64-((if A.rcv=2 then d' else []).length:Int))),cE a b f g d d' { A with oa:=false } w tl bq mo si wa tr) else (none,cE a b f g d d' A w tl bq mo si wa tr):=by
   intro q
   unfold zD
   have:ZbW (cE a b f g d d' A w tl bq mo si wa tr) (cE a b f g d d' A w tl bq mo si wa tr).nxt 0 []=cS b a g f d d'.length ⟨2,A.nxt,A.rcv⟩ (64-((if A.rcv=2 then d' else []).length:Int)):=by
    simp [ZbW,cE,cS,ZN,ZfL q]
   rw [this]
   rfl
  have hoff:¬A.st=.op→ze (cE a b f g d d' A w tl bq mo si wa tr) (1000*(t:Int)+5)=(none,cE a b f g d d' A w tl bq mo si wa tr):=by
   intro h
   have z0:¬(cE a b f g d d' A w tl bq mo si wa tr).nxt=(cE a b f g d d' A w tl bq mo si wa tr).una:=by
    intro z
    have z':=nu.mp z
    cases hh:A.st with
    | ss=>have:=c.ss hh; omega
    | sc=>have:=c.sc hh; omega
    | op=>exact h hh
   unfold ze
   rw [if_pos (.inl z0)]
   rfl
  have hsyn:¬A.st=.op→zc (cE a b f g d d' A w tl bq mo si wa tr) (1000*(t:Int)+5)=if A.osyn=true then (some (cS b a g f d d'.length (if A.st=.ss then ⟨0,0,0⟩ else ⟨1,0,A.rcv⟩) 64),cE a b f g d d' { A with osyn:=false } w tl bq mo si wa tr) else (none,cE a b f g d d' A w tl bq mo si wa tr):=by
   intro h
   obtain ⟨st,una,nxt,beh,rcv,osyn,oa,since,wait,tries⟩:=A
   cases st with
   | ss=>
    obtain ⟨q1,q2,q3,q4⟩:=c.ss rfl
    simp only at q1 q2 q3 q4
    subst q1 q2 q3 q4
    cases osyn<;>simp [zc,ZdR,Zbr,cE,stS,dc,f0,hne,cS]
   | sc=>
    obtain ⟨q1,q2,q3⟩:=c.sc rfl
    simp only at q1 q2 q3
    subst q1 q2 q3
    cases osyn<;>simp [zc,ZdR,Zbr,cE,stS,dc,f0,hne,cS,ZfL]
   | op=>exact absurd rfl h
  rw [hgA,hg]
  by_cases h:A.st=.op
  ·rw [if_pos h]
   obtain ⟨q1,q2⟩:=c.op h
   have hb:=c.beh
   have hn:=c.nxt
   have hu:=c.una
   obtain ⟨hw0,hw1,hm⟩:=hw (by rw [h]; simp)
   have pos:A.beh=2→0<(d.length:Int):=by
    intro h
    rcases hb with z | ⟨_,z⟩
    ·omega
    ·have:=l.pos z; omega
   have hso:(cE a b f g d d' A w tl bq mo si wa tr).state=.opn:=by show stS A.st=_; rw [h]; rfl
   have uns:Zcl (cE a b f g d d' A w tl bq mo si wa tr)=dc d.length A.beh-dc d.length A.nxt:=ZjN (by omega) (by omega) (by omega)
   have sub:=ZjM (n:=d.length) (i:=A.beh) (j:=A.nxt) (by omega) (by omega) (by omega) (fun _=>pos (by omega))
   have more:ZdC (cE a b f g d d' A w tl bq mo si wa tr)=decide (A.nxt<A.beh):=by
    unfold ZdC ZaC hasNewFin
    rw [uns,hso]
    have:decide (0<dc d.length A.beh-dc d.length A.nxt)=decide (A.nxt<A.beh):=by rw [decide_eq_decide]; exact sub.1
    rw [this]
    simp
   have isyn:¬((cE a b f g d d' A w tl bq mo si wa tr).state=.synSent∨(cE a b f g d d' A w tl bq mo si wa tr).state=.synCome):=by rw [hso]; simp
   by_cases nb:A.nxt<A.beh
   ·have z1:A.nxt=1:=by omega
    have z2:A.beh=2:=by omega
    have z3:A.una=1:=by omega
    have hdp:=pos z2
    obtain ⟨st,una,nxt,beh,rcv,osyn,oa,since,wait,tries⟩:=A
    simp only at h z1 z2 z3 hm
    subst h z1 z2 z3 hm
    have o1:∀k:Int,0≤k→k≤17→ZL (Zs f k) (Zs f 1)=k-1:=fun k h1 h2=>Zd6 (by omega)
    have hE:Zao (cE a b f g d d' ⟨.op,1,1,2,rcv,osyn,oa,since,wait,tries⟩ w tl bq 16 si wa tr) (1000*(t:Int)+5)=(some (cS b a g f d d'.length ⟨3,1,rcv⟩ (64-((if rcv=2 then d' else []).length:Int))),cE a b f g d d' ⟨.op,1,2,2,rcv,osyn,false,t,1,0⟩ w tl bq 16 (1000*(t:Int)+5) 1000 0):=by
     unfold Zao zc
     rw [if_neg isyn,if_neg]
     ·rw [if_pos (nu.mpr rfl)]
      simp only
      have hN:Zbn { zj (cE a b f g d d' ⟨.op,1,1,2,rcv,osyn,oa,since,wait,tries⟩ w tl bq 16 si wa tr) (1000*(t:Int)+5) with owes_answer:=false } ((cE a b f g d d' ⟨.op,1,1,2,rcv,osyn,oa,since,wait,tries⟩ w tl bq 16 si wa tr).wnd-ZL (cE a b f g d d' ⟨.op,1,1,2,rcv,osyn,oa,since,wait,tries⟩ w tl bq 16 si wa tr).nxt (cE a b f g d d' ⟨.op,1,1,2,rcv,osyn,oa,since,wait,tries⟩ w tl bq 16 si wa tr).una)=(cS b a g f d d'.length ⟨3,1,rcv⟩ (64-((if rcv=2 then d' else []).length:Int)),cE a b f g d d' ⟨.op,1,2,2,rcv,osyn,false,t,1,0⟩ w tl bq 16 (1000*(t:Int)+5) 1000 0):=by
       have u1:Zcl (cE a b f g d d' ⟨.op,1,1,2,rcv,osyn,false,t,1,0⟩ w tl bq 16 (1000*(t:Int)+5) 1000 0)=d.length:=by
        show ZL (Zs f (1+d.length)) (Zs f 1)=_
        rw [o1 _ (by omega) (by omega)]; omega
       have nd:ZaC (cE a b f g d d' ⟨.op,1,1,2,rcv,osyn,false,t,1,0⟩ w tl bq 16 (1000*(t:Int)+5) 1000 0)=true:=by
        unfold ZaC
        rw [u1]
        show (decide (State.opn∈_) && _)=true
        simp; omega
       have of0:ZL (Zs f 1) (Zs f 1)=0:=by rw [o1 _ (by omega) (by omega)]; rfl
       show Zbn (cE a b f g d d' ⟨.op,1,1,2,rcv,osyn,false,t,1,0⟩ w tl bq 16 (1000*(t:Int)+5) 1000 0) (w-ZL (Zs f 1) (Zs f 1))=_
       rw [of0]
       unfold Zbn
       rw [if_pos nd]
       show Zex (cE a b f g d d' ⟨.op,1,1,2,rcv,osyn,false,t,1,0⟩ w tl bq 16 (1000*(t:Int)+5) 1000 0) (w-0)=_
       have nm:Zfo (cE a b f g d d' ⟨.op,1,1,2,rcv,osyn,false,t,1,0⟩ w tl bq 16 (1000*(t:Int)+5) 1000 0) (w-0)=d.length:=by
        unfold Zfo
        rw [u1]
        show mn3 (if (16:Int)<16 then 16 else 16) _ _=_
        unfold mn3
        rw [if_neg (show ¬(16:Int)<16 by omega)]
        have wl:(48:Int)≤w:=hw0
        have dl:(d.length:Int)≤16:=by omega
        split<;>split<;>omega
       have e2:({ cE a b f g d d' ⟨.op,1,1,2,rcv,osyn,false,t,1,0⟩ w tl bq 16 (1000*(t:Int)+5) 1000 0 with nxt:=Zs (cE a b f g d d' ⟨.op,1,1,2,rcv,osyn,false,t,1,0⟩ w tl bq 16 (1000*(t:Int)+5) 1000 0).nxt d.length }:Zn)=cE a b f g d d' ⟨.op,1,2,2,rcv,osyn,false,t,1,0⟩ w tl bq 16 (1000*(t:Int)+5) 1000 0:=by
        have:Zs (Zs f 1) d.length=Zs f (1+d.length):=Zcm _ _ _
        simp [cE,dc,this]
       unfold Zex
       rw [nm]
       simp only [e2]
       have u2:Zcl (cE a b f g d d' ⟨.op,1,2,2,rcv,osyn,false,t,1,0⟩ w tl bq 16 (1000*(t:Int)+5) 1000 0)=0:=by
        show ZL (Zs f (1+d.length)) (Zs f (1+d.length))=_
        rw [Zd6 (by omega)]; omega
       rw [u2,if_pos rfl]
       have wr:Zbh (cE a b f g d d' ⟨.op,1,1,2,rcv,osyn,false,t,1,0⟩ w tl bq 16 (1000*(t:Int)+5) 1000 0).written (some (ZL (Zs f 1) (Zs f 1))) (some (ZL (Zs f 1) (Zs f 1)+d.length))=d:=by
        rw [of0]
        show Zbh (if 2=2∧1≤1 then d else []) _ _=_
        rw [if_pos ⟨rfl,Yd _⟩]
        exact Znq (by omega)
       have sg:ZbW (cE a b f g d d' ⟨.op,1,2,2,rcv,osyn,false,t,1,0⟩ w tl bq 16 (1000*(t:Int)+5) 1000 0) (Zs f 1) 8 d=cS b a g f d d'.length ⟨3,1,rcv⟩ (64-((if rcv=2 then d' else []).length:Int)):=by
        simp [ZbW,cE,cS,ZN,ZfL q2,dc]
       refine Prod.ext ?_ rfl
       show ZbW _ (Zs f 1) 8 (Zbh _ (some (ZL (Zs f 1) (Zs f 1))) (some (ZL (Zs f 1) (Zs f 1)+d.length)))=_
       rw [wr,sg]
      rw [hN]
     ·rw [more]
      show ¬(w-ZL (Zs f 1) (Zs f 1)≤0∨_)
      rw [o1 _ (by omega) (by omega)]
      simp; omega
    rw [if_pos nb,hE]
    exact ZeB rfl rfl hwn ⟨w,tl,bq,16,_,_,_,rfl,fun _=>⟨hw0,hw1,rfl⟩,fun _=>⟨rfl,rfl,rfl⟩⟩
   ·rw [if_neg nb]
    have hE:Zao (cE a b f g d d' A w tl bq mo si wa tr) (1000*(t:Int)+5)=zD (cE a b f g d d' A w tl bq mo si wa tr):=by
     have hN:zc (cE a b f g d d' A w tl bq mo si wa tr) (1000*(t:Int)+5)=(none,cE a b f g d d' A w tl bq mo si wa tr):=by
      unfold zc
      rw [if_neg isyn,if_pos]
      right
      rw [more]; simpa using nb
     have hP:ze (cE a b f g d d' A w tl bq mo si wa tr) (1000*(t:Int)+5)=(none,cE a b f g d d' A w tl bq mo si wa tr):=by
      unfold ze
      rw [if_pos]
      ·rfl
      ·right; left
       show ¬w=0
       omega
     unfold Zao
     simp only [hN,hP]
    rw [hE,hans q2]
    by_cases oa:A.oa=true
    ·exact ZeB (if_pos oa) (if_pos oa) hwn ⟨w,tl,bq,mo,si,wa,tr,rfl,hw,ht⟩
    ·exact Zmn (if_neg oa) (if_neg oa) ⟨w,tl,bq,mo,si,wa,tr,rfl,hw,ht⟩
  ·rw [if_neg h]
   have hE:Zao (cE a b f g d d' A w tl bq mo si wa tr) (1000*(t:Int)+5)=if A.osyn=true then (some (cS b a g f d d'.length (if A.st=.ss then ⟨0,0,0⟩ else ⟨1,0,A.rcv⟩) 64),cE a b f g d d' { A with osyn:=false } w tl bq mo si wa tr) else zD (cE a b f g d d' A w tl bq mo si wa tr):=by
    unfold Zao
    rw [hsyn h]
    by_cases os:A.osyn=true
    ·rw [if_pos os,if_pos os]
    ·rw [if_neg os,if_neg os]
     simp only [hoff h]
   rw [hE]
   by_cases os:A.osyn=true
   ·exact ZeB (win:=64) (if_pos os) (if_pos os) (by omega) ⟨w,tl,bq,mo,si,wa,tr,rfl,hw,ht⟩
   ·rw [if_neg os,if_neg os]
    by_cases oa:A.oa=true
    ·have q:1≤A.rcv:=by
      cases hh:A.st with
      | ss=>have:=(c.ss hh).2.2.2; rw [oa] at this; cases this
      | sc=>have:=c.sc hh; omega
      | op=>exact absurd hh h
     rw [hans q]
     exact ZeB (if_pos oa) (if_pos oa) hwn ⟨w,tl,bq,mo,si,wa,tr,rfl,hw,ht⟩
    ·refine Zmn (if_neg oa) (e':=cE a b f g d d' A w tl bq mo si wa tr) ?_ ⟨w,tl,bq,mo,si,wa,tr,rfl,hw,ht⟩
     unfold zD
     exact if_neg oa
end
end
end My
namespace My
open PySem L2 L2.MM
inductive XE | raw | scu (o:Bool) | ae (A:AE) deriving DecidableEq
def ssA:AE:=⟨.ss,0,1,1,0,false,false,0,1,0⟩
def scA:AE:=⟨.sc,0,1,1,1,false,false,0,1,0⟩
def goX:XE→Option AS×XE
 | .raw=>(some ⟨0,0,0⟩,.ae ssA)
 | .scu _=>(some ⟨1,0,1⟩,.ae scA)
 | .ae A=>((goA A 0).1,.ae (goA A 0).2)
def ZkM (x:XE) (s:AS):XE:=match x with
 | .raw=>.raw
 | .scu _=>.scu true
 | .ae A=>.ae (Zby A s 0)
def okX:XE→Bool
 | .raw=>true
 | .scu _=>true
 | .ae A=>okA true true A
def Zm4 (x:XE) (s:AS):Bool:=match x with
 | .raw=>false
 | .scu _=>decide (s=⟨0,0,0⟩)
 | .ae A=>okA true true A && okS true true A s
def pick (es:List XE) (turn:Nat):Nat→Nat→Option (Nat×AS×List XE)
 | 0,_=>none
 | f+1,k=>match es[(turn+k) % es.length]? with
  | none=>none
  | some x=>match goX x with
   | (some s,x')=>some ((turn+k) % es.length,s,es.set ((turn+k) % es.length) x')
   | (none,_)=>pick es turn f (k+1)
structure SY where
 cs:List XE
 ss:List XE
 t0:Nat
 t1:Nat
 deriving DecidableEq
def toC (S:SY) (i:Nat) (s:AS):Option SY:=match S.cs[i]? with
 | none=>none
 | some x=>if Zm4 x s=true then some { S with cs:=S.cs.set i (ZkM x s) } else none
def toS (S:SY) (i:Nat) (s:AS):Option SY:=match S.ss[i]? with
 | some x=>if Zm4 x s=true then some { S with ss:=S.ss.set i (ZkM x s) } else none
 | none=>if i=S.ss.length∧s=⟨0,0,0⟩∧i<S.cs.length then some { S with ss:=S.ss++[.scu false] } else none
def Zhs (S:SY):Bool:=S.cs.all okX && S.ss.all okX
def Zmm (dbl:Bool) (S:SY):Option (SY×Bool):=if Zhs S=false then none else match pick S.ss S.t0 S.ss.length 0 with
 | none=>some (S,true)
 | some (i,s,es)=>match toC { S with ss:=es,t0:=i+1 } i s with
  | none=>none
  | some S1=>if dbl=true then (toC S1 i s).map fun S2=>(S2,false) else some (S1,false)
def Zml (dbl:Bool) (S:SY):Option (SY×Bool):=if Zhs S=false then none else match pick S.cs S.t1 S.cs.length 0 with
 | none=>some (S,true)
 | some (i,s,es)=>match toS { S with cs:=es,t1:=i+1 } i s with
  | none=>none
  | some S1=>if dbl=true then (toS S1 i s).map fun S2=>(S2,false) else some (S1,false)
def Zjn (dbl:Bool) (S:SY):Option (SY×Bool):=match Zmm dbl S with
 | none=>none
 | some (S1,b1)=>match Zml dbl S1 with
  | none=>none
  | some (S2,b2)=>some (S2,b1 && b2)
def Zhe (m:Nat):Nat→Nat→SY→Option SY
 | 0,_,_=>none
 | f+1,k,S=>match Zjn (decide ((m+k) % 4=0)) S with
  | none=>none
  | some (S1,true)=>some S1
  | some (S1,false)=>Zhe m f (k+1) S1
def ini (n:Nat):SY:=⟨List.replicate n .raw,[],0,0⟩
def ZcQ:XE→Bool
 | .ae A=>decide (A.st=.op) && decide (A.una=1) && decide (A.nxt=1) && decide (A.beh=1) && decide (A.rcv=1)
 | _=>false
def ZkV:XE→XE
 | .ae A=>.ae { A with beh:=2 }
 | x=>x
def Zhm (S:SY):SY:={ S with cs:=S.cs.map ZkV,ss:=S.ss.map ZkV }
def ZjD:XE→Bool
 | .ae A=>decide (A.st=.op) && decide (A.rcv=2)
 | _=>false
def ZsB (n m1:Nat):Bool:=match Zhe m1 40 0 (ini n) with
 | none=>false
 | some S=>decide (S.cs.length=n) && decide (S.ss.length=n) && S.cs.all ZcQ && S.ss.all ZcQ && Zhs S && (List.range 4).all fun m2=>match Zhe m2 40 0 (Zhm S) with
  | none=>false
  | some S2=>decide (S2.cs.length=n) && decide (S2.ss.length=n) && S2.cs.all ZjD && S2.ss.all ZjD && Zhs S2
theorem Zrb:∀n:Fin 4,∀m:Fin 4,ZsB (n.val+1) m.val=true:=by decide +kernel
end My
namespace My
open PySem L2 L2.MM
noncomputable section
def scuE (a b f g:Int) (o:Bool):Zn:=⟨a,b,.synCome,.none,f,f,f,Zs g 1,64,g,0,16,[],[],[],none,false,Zs f 1,none,o,false,false,0,1000,0⟩
def RepX (a b f g:Int) (d d':List Int) (x:XE) (e:Zn):Prop:=match x with
 | .raw=>e=newEnd a b f true
 | .scu o=>e=scuE a b f g o
 | .ae A=>Rep a b f g d d' A e
section
variable {a b f g win:Int} {d d':List Int} {x:XE} {e:Zn} {s:AS}
theorem Zw8:(1000*((0:Nat):Int)+5)=5:=by decide
theorem Zq9 (r:RepX a b f g d d' x e) (ok:okX x=true) (rf:0≤f∧f≤4294967295) (l:Lst true d) (l':Lst true d'):goS a b f g d d'.length (goX x).1 (zV e 5).1∧RepX a b f g d d' (goX x).2 (zV e 5).2:=by
 have f0:Zs f 0=f:=ZbX rf
 have f1:¬Zs f 1=f:=Zhz (by omega)
 cases x with
 | raw=>
  cases (show e=newEnd a b f true from r)
  have g1:zV (newEnd a b f true) 5=(some ⟨a,b,f,0,2,64,16,[]⟩,{ newEnd a b f true with nxt:=Zs f 1,since:=5,wait:=1000,tries:=0 }):=by
   simp [zV,Zao,zc,ZdR,newEnd,Zbr,zj]
  rw [g1]
  refine ⟨⟨64,by omega,by omega,rfl⟩,⟨0,0,0,12,5,1000,0,?_,fun z=>absurd rfl z,fun _=>⟨rfl,rfl,rfl⟩⟩⟩
  simp [newEnd,cE,ssA,stS,dc,gr,f0]
 | scu o=>
  cases (show e=scuE a b f g o from r)
  have g1:zV (scuE a b f g o) 5=(some ⟨a,b,f,Zs g 1,18,64,16,[]⟩,{ scuE a b f g false with nxt:=Zs f 1,since:=5,wait:=1000,tries:=0 }):=by
   simp [zV,Zao,zc,ZdR,scuE,Zbr,zj]
  rw [g1]
  refine ⟨⟨64,by omega,by omega,rfl⟩,⟨64,g,0,16,5,1000,0,?_,fun _=>⟨by omega,by omega,rfl⟩,fun _=>⟨rfl,rfl,rfl⟩⟩⟩
  simp [scuE,cE,scA,stS,dc,gr,f0]
 | ae A=>
  have:=Zuq (t:=0) (show Rep a b f g d d' A e from r) ok rf l l'
  rw [Zw8] at this
  exact this
theorem ZmW (r:RepX a b f g d d' x e) (ok:Zm4 x s=true) (rf:0≤f∧f≤4294967295) (rg:0≤g∧g≤4294967295) (hwin:48≤win∧win≤64) (l:Lst true d) (l':Lst true d'):RepX a b f g d d' (ZkM x s) (Zck e (cS a b f g d' d.length s win) 5):=by
 cases x with
 | raw=>cases ok
 | scu o=>
  cases (show e=scuE a b f g o from r)
  have e0:s=⟨0,0,0⟩:=of_decide_eq_true ok
  subst e0
  have o1:ZL g (Zs g 1) = -1:=ZiW (by omega)
  have g0:Zs g 0=g:=ZbX rg
  have nf:ZdE (scuE a b f g o) (cS a b f g d' d.length ⟨0,0,0⟩ win)=false:=by
   simp [ZdE,cS,Zhu,inWin,scuE,o1,g0,ZbX rg]
  rw [Zg1 (by simp [scuE]) nf]
  show ZbE _ _ _=scuE a b f g true
  simp [ZbE,cS,scuE]
 | ae A=>
  have ok':(okA true true A && okS true true A s)=true:=ok
  rw [Yl] at ok'
  have:=ZnZ (t:=0) (win:=win) (show Rep a b f g d d' A e from r) ok'.1 ok'.2 rf rg hwin l l'
  rw [Zw8] at this
  exact this
theorem Zn0 (n:Int):Zck (newEnd a b f false) (cS a b f g d' n ⟨0,0,0⟩ win) 5=scuE a b f g false:=by
 show ZaX _ _=_
 simp [ZaX,newEnd,cS,hearSyn,scuE]
structure Fx (a b:Int) (e:Zn):Prop where
 ours:e.ours=a
 theirs:e.theirs=b
 live:e.state≠.closed
 heard:e.state≠.listen
 come:e.come.length≤64
 early:e.early=[]
 wr:e.written.length≤64
theorem RepX.fx (r:RepX a b f g d d' x e) (l:Lst true d) (l':Lst true d'):Fx a b e:=by
 cases x with
 | raw=>
  cases (show e=newEnd a b f true from r)
  exact ⟨rfl,rfl,by simp [newEnd],by simp [newEnd],by simp [newEnd],rfl,by simp [newEnd]⟩
 | scu o=>
  cases (show e=scuE a b f g o from r)
  exact ⟨rfl,rfl,by simp [scuE],by simp [scuE],by simp [scuE],rfl,by simp [scuE]⟩
 | ae A=>
  obtain ⟨w,tl,bq,mo,si,wa,tr,rfl,hw,ht⟩:=(show Rep a b f g d d' A e from r).ex
  have h1:=l.len
  have h2:=l'.len
  refine ⟨rfl,rfl,?_,?_,?_,rfl,?_⟩
  ·show stS A.st≠_; cases A.st<;>simp [stS]
  ·show stS A.st≠_; cases A.st<;>simp [stS]
  ·show (if A.rcv=2 then d' else []).length≤64
   split
   ·omega
   ·simp
  ·show (if A.beh=2∧A.una≤1 then d else []).length≤64
   split
   ·omega
   ·simp
theorem Zve {A:AE} (h:(goA A 0).1=none):(goA A 0).2=A:=by
 unfold goA at h ⊢
 by_cases c1:¬A.nxt=A.una∧A.wait≤0-A.since
 ·rw [if_pos c1] at h
  split at h<;>cases h
 ·rw [if_neg c1] at h ⊢
  by_cases c2:A.st=.op
  ·rw [if_pos c2] at h ⊢
   by_cases c3:A.nxt<A.beh
   ·rw [if_pos c3] at h; cases h
   ·rw [if_neg c3] at h ⊢
    by_cases c4:A.oa=true
    ·rw [if_pos c4] at h; cases h
    ·rw [if_neg c4]
  ·rw [if_neg c2] at h ⊢
   by_cases c3:A.osyn=true
   ·rw [if_pos c3] at h; cases h
   ·rw [if_neg c3] at h ⊢
    by_cases c4:A.oa=true
    ·rw [if_pos c4] at h; cases h
    ·rw [if_neg c4]
theorem Zvd (h:(goX x).1=none):(goX x).2=x:=by
 cases x with
 | raw=>cases h
 | scu o=>cases h
 | ae A=>
  show XE.ae (goA A 0).2=.ae A
  rw [Zve h]
end
def Zsb (d:List Int):Prop:=∀z∈d,0≤z∧z≤255
theorem Zxh {a b f g n win:Int} {d':List Int} {s:AS} (ha:0≤a∧a≤65535) (hb:0≤b∧b≤65535) (rg:0≤g∧g≤4294967295) (hd:Zsb d') (hl:d'.length≤16) (hw:48≤win∧win≤64):(cS a b f g d' n s win).Ok:=by
 have p1:=Zga g (dc d'.length s.num)
 have p2:=Zga f (dc n s.ans)
 have bd:(∀z∈d',0≤z∧z≤255)∧d'.length≤16:=⟨hd,by omega⟩
 have bn:(∀z∈([]:List Int),0≤z∧z≤255)∧([]:List Int).length≤16:=⟨by simp,by simp⟩
 unfold cS
 split
 ·exact ⟨hb,ha,rg,by simp,by simp,by simp,.inr (by simp),bn⟩
 ·exact ⟨hb,ha,rg,p2,by simp,by simp,.inr (by simp),bn⟩
 ·exact ⟨hb,ha,p1,p2,by simp,by simp; omega,.inl rfl,bn⟩
 ·exact ⟨hb,ha,p1,p2,by simp,by simp; omega,.inl rfl,bd⟩
 ·exact ⟨hb,ha,p1,p2,by simp,by simp; omega,.inl rfl,bd⟩
theorem Zxg {a b f g n win:Int} {d':List Int} {s:AS}:(cS a b f g d' n s win).goal=a∧(cS a b f g d' n s win).src=b:=by
 unfold cS
 split<;>exact ⟨rfl,rfl⟩
def ZiH:SM:=(Zr (ZA ["Host"] "coming_first" (Zd 0) (Zd 1))
 (Zr (ZA ["Host"] "ends" (Zd 0) (Zl8 Zi))
 (Zr (ZA ["Host"] "latest" (Zd 0) Zl9)
 (Zr (ZA ["Host"] "untaken" (Zd 0) Zjy)
 (Zr (ZA ["Host"] "owed_reset" (Zd 0) (mC .non))
 (ZA ["Host"] "turn" (Zd 0) (mC (.int 0))))))))
def ZaQ:GM:=ZO 2 2 ZiH
def ZbT:SM:=(mIf (ZD (Zht (Zd 1) (Zz ["Host"] "untaken" (Zd 0)))) Zll ZK)
def Zcy:SM:=(Zr ZbT
 (Zma (Zz ["Host"] "untaken" (Zd 0)) (Zd 1) (Zl8 Zi)))
def zG:GM:=ZO 2 2 Zcy
def Zc3:SM:=(Zr (Z1 3 (Zlk (Zz ["Host"] "latest" (Zd 0)) (ZbA (Zc (Zd 1) (Zc (Zd 2) Zi)))))
 (ZM (ZfJ (mOr (ZD (mOp isM (Zd 3) (mC .non))) (ZD (mOp eqM (Zz ["End"] "state" (Zd 3)) (mC (.str "closed"))))) (mC .non) (Zd 3))))
def Zaf:GM:=ZO 3 4 Zc3
def ZeH:SM:=(Zr (Z1 4 (mCB Ze1 (Zc (Zd 1) (Zc (Zd 2) (Zc (Zz ["Host"] "coming_first" (Zd 0)) (Zc (Zd 3) Zi))))))
 (Zr (ZA ["Host"] "coming_first" (Zd 0) (mCB zk (Zc (Zz ["Host"] "coming_first" (Zd 0)) (Zc (mC (.int 64000)) Zi))))
 (Zr (zn (Zmc (Zz ["Host"] "ends" (Zd 0)) (Zd 4)))
 (Zr (Zlj (Zz ["Host"] "latest" (Zd 0)) (ZbA (Zc (Zd 1) (Zc (Zd 2) Zi))) (Zd 4))
 (ZM (Zd 4))))))
def ZaT:GM:=ZO 4 5 ZeH
def Zek:SM:=(mIf (ZD (mOp ZdS (mCB Zaf (Zc (Zd 0) (Zc (Zd 1) (Zc (Zd 2) Zi)))) (mC .non))) Zll ZK)
def Zfm:SM:=(Zr Zek
 (ZM (mCB ZaT (Zc (Zd 0) (Zc (Zd 1) (Zc (Zd 2) (Zc (mC (.bl true)) Zi)))))))
def ZaU:GM:=ZO 3 3 Zfm
def Zhh:SM:=(ZM (ZcI (mCB ZV (Zc (Zd 0) (Zc (mC (.int 2)) Zi))) (ZcI (ZfB (mCB ZV (Zc (Zd 0) (Zc (mC (.int 16)) Zi)))) (ZfB (mCB ZV (Zc (Zd 0) (Zc (mC (.int 4)) Zi)))))))
def Zd5:GM:=ZO 1 1 Zhh
def ZdY:SM:=(mIf (ZfK (ZD (mOp isM (Zd 2) (mC .non))) (ZfK (ZD (Zht (mOp ixM (Zd 1) (mC (.int 1))) (Zz ["Host"] "untaken" (Zd 0)))) (zR (mCB Zd5 (Zc (Zd 1) Zi))))) (Zr (Z1 2 (mCB ZaT (Zc (Zd 0) (Zc (mOp ixM (Zd 1) (mC (.int 1))) (Zc (mOp ixM (Zd 1) (mC (.int 0))) (Zc (mC (.bl false)) Zi))))))
  (zn (Zmc (Zh0 (Zz ["Host"] "untaken" (Zd 0)) (mOp ixM (Zd 1) (mC (.int 1)))) (Zd 2)))) ZK)
def Zfl:SM:=(Zr (Z1 2 (mCB Zaf (Zc (Zd 0) (Zc (mOp ixM (Zd 1) (mC (.int 1))) (Zc (mOp ixM (Zd 1) (mC (.int 0))) Zi)))))
 (Zr ZdY
 (ZM (Zd 2))))
def Zc7:GM:=ZO 2 3 Zfl
def ZbV:SM:=(mIf (Zeb (zR (mCB zN (Zc (Zd 1) Zi)))) (ZM (mC (.bl false))) ZK)
def ZfS:SM:=(mIf (Zeb (zR (mCB ZV (Zc (Zd 3) (Zc (mC (.int 4)) Zi))))) (ZA ["Host"] "owed_reset" (Zd 0) (mCB ZaO (Zc (Zd 3) Zi))) ZK)
def ZbU:SM:=(mIf (ZD (mOp ZdS (Zd 4) (mC .non))) (zn (mCB Za3 (Zc (Zd 4) (Zc (Zd 1) (Zc (Zd 2) Zi))))) ZfS)
def Zcz:SM:=(Zr ZbV
 (Zr (Z1 3 (mCB Zg8 (Zc (Zd 1) Zi)))
 (Zr (Z1 4 (mCB Zc7 (Zc (Zd 0) (Zc (Zd 3) Zi))))
 (Zr ZbU
 (ZM (mC (.bl true)))))))
def p_Host_arrives:GM:=ZO 3 5 Zcz
def Zcx:SM:=(mIf (ZD (mOp ZdS (Zz ["Host"] "owed_reset" (Zd 0)) (mC .non))) (Zr (Z1 2 (mCB ZhS (Zc (Zz ["Host"] "owed_reset" (Zd 0)) Zi)))
  (Zr (ZA ["Host"] "owed_reset" (Zd 0) (mC .non))
  (ZM (Zd 2)))) ZK)
def Zbx:SM:=(mIf (ZD (mOp gtM (mCB lenG (Zc (Zd 2) Zi)) (mC (.int 0)))) (Zr (ZA ["Host"] "turn" (Zd 0) (mOp za (Zd 5) (mC (.int 1))))
   (ZM (Zd 2))) ZK)
def Zej:SM:=(ZcH (Zci (Zc (Zd 3) Zi)) (gNm 4) (Zr (Z1 5 (mOp Zbo (mOp za (Zz ["Host"] "turn" (Zd 0)) (Zd 4)) (Zd 3)))
  (Zr (Z1 2 (mCB Zet (Zc (mOp ixM (Zz ["Host"] "ends" (Zd 0)) (Zd 5)) (Zc (Zd 1) Zi))))
  Zbx)))
def Zdv:SM:=(Zr Zcx
 (Zr (Z1 3 (mCB lenG (Zc (Zz ["Host"] "ends" (Zd 0)) Zi)))
 (Zr Zej
 (ZM (ZcO Zi)))))
def p_Host_sends:GM:=ZO 2 6 Zdv
def Zax:SM:=(mIf (ZD (ZfB (Zht (Zd 1) (Zz ["Host"] "untaken" (Zd 0))))) Zll ZK)
def Zbp:SM:=(mIf (ZD (mOp eqM (mCB lenG (Zc (Zd 2) Zi)) (mC (.int 0)))) (ZM (mC .non)) ZK)
def ZaY:SM:=(Zr Zax
 (Zr (Z1 2 (ZcP (mIn (Zh0 (Zz ["Host"] "untaken" (Zd 0)) (Zd 1))) [] (ZD (mOp ZdQ (Zz ["End"] "state" (Zd 0)) (ZbA (Zc (mC (.str "listen")) (Zc (mC (.str "syn come")) (Zc (mC (.str "closed")) Zi)))))) (Zd 0)))
 (Zr Zbp
 (Zr (zn (ZoM (Zh0 (Zz ["Host"] "untaken" (Zd 0)) (Zd 1)) (mOp ixM (Zd 2) (mC (.int 0)))))
 (ZM (mOp ixM (Zd 2) (mC (.int 0))))))))
def ZH:GM:=ZO 2 3 ZaY
def Zkd:SM:=Zr (Z1 5 (mOp Zbo (mOp za (Zz ["Host"] "turn" (Zd 0)) (Zd 4)) (Zd 3))) (Zr (Z1 2 (mCB Zet (Zc (mOp ixM (Zz ["Host"] "ends" (Zd 0)) (Zd 5)) (Zc (Zd 1) Zi)))) Zbx)
structure PQ where
 a:Int
 b:Int
 f:Int
 g:Int
 d:List Int
 d':List Int
def PQ.swap (p:PQ):PQ:=⟨p.b,p.a,p.g,p.f,p.d',p.d⟩
structure PQ.Ok (p:PQ):Prop where
 a:0≤p.a∧p.a≤65535
 b:0≤p.b∧p.b≤65535
 f:0≤p.f∧p.f≤4294967295
 g:0≤p.g∧p.g≤4294967295
 d:Lst true p.d
 d':Lst true p.d'
 bd:Zsb p.d
 bd':Zsb p.d'
theorem PQ.Ok.swap {p:PQ} (h:p.Ok):p.swap.Ok:=⟨h.b,h.a,h.g,h.f,h.d',h.d,h.bd',h.bd⟩
abbrev ZgC (p:PQ) (x:XE) (e:Zn):Prop:=RepX p.a p.b p.f p.g p.d p.d' x e
def sgO (p:PQ) (s:AS) (win:Int):Seg:=cS p.b p.a p.g p.f p.d p.d'.length s win
theorem Zjm {p:PQ} (h:p.Ok) {s:AS} {win:Int} (hw:48≤win∧win≤64):(sgO p s win).Ok:=Zxh h.b h.a h.f h.bd h.d.len hw
theorem ZAO {p:PQ} (h:p.Ok) {x:XE} {e:Zn} (r:ZgC p x e) (ok:okX x=true):match (goX x).1 with
  | none=>(zV e 5).1=none∧ZgC p x (zV e 5).2
  | some s=>∃win,(48≤win∧win≤64)∧(zV e 5).1=some (sgO p s win)∧ZgC p (goX x).2 (zV e 5).2:=by
 obtain ⟨h1,h2⟩:=Zq9 r ok h.f h.d h.d'
 cases q:(goX x).1 with
 | none=>
  rw [q] at h1
  rw [Zvd q] at h2
  cases q2:(zV e 5).1 with
  | none=>exact ⟨rfl,h2⟩
  | some sg=>rw [q2] at h1; exact h1.elim
 | some s=>
  rw [q] at h1
  cases q2:(zV e 5).1 with
  | none=>rw [q2] at h1; exact h1.elim
  | some sg=>
   rw [q2] at h1
   obtain ⟨win,w1,w2,rfl⟩:=h1
   exact ⟨win,⟨w1,w2⟩,rfl,h2⟩
structure HV (Θ:List Zn→Int→Sto) (h off cnt:Nat):Prop where
 owed:∀es t,fldK ["Host"] "owed_reset" (.ref h) (Θ es t)=.ok .non (Θ es t)
 ends:∀es t,fldK ["Host"] "ends" (.ref h) (Θ es t)=.ok (.ref (h+1)) (Θ es t)
 turn:∀es t,fldK ["Host"] "turn" (.ref h) (Θ es t)=.ok (.int t) (Θ es t)
 sturn:∀es t t',setK ["Host"] "turn" (.int t') (.ref h) (Θ es t)=some (Θ es t')
 len:∀es t,lenG [.ref (h+1)] (Θ es t)=.ok (.int (cnt:Int)) (Θ es t)
 ix:∀es t i,i<cnt→ixM (.ref (h+1)) (.int (i:Int)) (Θ es t)=.ok (.ref (10+4*(off+i))) (Θ es t)
 up:∀(es:List Zn) t j e',j<es.length→upE (Θ es t) (10+4*j) e'=Θ (es.set j e') t
 lt:∀(es:List Zn) t j,j<es.length→10+4*j+3<(Θ es t).length
def Reps (Q:Nat→PQ) (off:Nat) (xs:List XE) (es:List Zn):Prop:=∀i x,xs[i]?=some x→∃e,es[off+i]?=some e∧ZgC (Q i) x e
def Else (off cnt:Nat) (es es':List Zn):Prop:=es'.length=es.length∧∀j,¬(off≤j∧j<off+cnt)→es'[j]?=es[j]?
theorem Else.refl {off cnt:Nat} {es:List Zn}:Else off cnt es es:=⟨rfl,fun _ _=>rfl⟩
theorem Else.trans {off cnt:Nat} {es es1 es2:List Zn} (h:Else off cnt es es1) (h':Else off cnt es1 es2):Else off cnt es es2:=⟨h'.1.trans h.1,fun j hj=>(h'.2 j hj).trans (h.2 j hj)⟩
theorem Else.set {off cnt i:Nat} {es:List Zn} {e:Zn} (hi:i<cnt):Else off cnt es (es.set (off+i) e):=⟨by simp,fun j hj=>Yc (by omega)⟩
theorem Reps.set {Q:Nat→PQ} {off i:Nat} {xs:List XE} {es:List Zn} {x:XE} {e:Zn} (h:Reps Q off xs es) (hi:i<xs.length) (he:off+i<es.length) (r:ZgC (Q i) x e):Reps Q off (xs.set i x) (es.set (off+i) e):=by
 intro j y hy
 by_cases c:i=j
 ·subst c
  rw [Yg hi] at hy
  cases hy
  exact ⟨e,Yg he,r⟩
 ·rw [Yc c] at hy
  obtain ⟨e',h1,h2⟩:=h j y hy
  exact ⟨e',by rw [Yc (by omega)]; exact h1,h2⟩
theorem Reps.same {Q:Nat→PQ} {off i:Nat} {xs:List XE} {es:List Zn} {x:XE} {e:Zn} (h:Reps Q off xs es) (hx:xs[i]?=some x) (he:off+i<es.length) (r:ZgC (Q i) x e):Reps Q off xs (es.set (off+i) e):=by
 have hi:i<xs.length:=(Ya.mp hx).1
 have:=h.set hi he r
 rwa [show xs.set i x=xs by rw [←(Ya.mp hx).2]; exact Yy hi] at this
theorem ZrL {Θ:List Zn→Int→Sto} {h off cnt:Nat} (hv:HV Θ h off cnt) {es:List Zn} {turn:Int} {j:Nat} {e:Zn} (hj:es[j]?=some e) (hp:∀s,(zV e 5).1=some s→s.Put):Zet [.ref (10+4*j),.int 5] (Θ es turn)=.ok (il (Zdw e 5)) (Θ (es.set j (zV e 5).2) turn):=by
 obtain ⟨hl,rfl⟩:=Ya.mp hj
 have:=Zt3 (θ:=Θ es turn) (l:=10+4*j) (e:=es[j]) (now:=5) (hv.lt es turn j hl) hp
 rw [hv.up es turn j _ hl,hv.up es turn j _ hl,Yy] at this
 exact this
theorem Zmk {Θ:List Zn→Int→Sto} {h off cnt:Nat} (hv:HV Θ h off cnt) (hc:cnt≤8) {Q:Nat→PQ} (hQ:∀i,i<cnt→(Q i).Ok) {xs:List XE} (hx:xs.length=cnt) (hk:xs.all okX=true) (turn:Nat):∀(f k:Nat) (es:List Zn) (x2 x4 x5:Sl),k+f=cnt→off+cnt≤es.length→Reps Q off xs es→
  match pick xs turn f k with
  | none=>∃es' ρ',Zb9 (.rng 0 cnt) ((List.range cnt).map fun (i:Nat)=>D.int (0+(i:Int))) (gNm 4) Zkd (((List.range cnt).map fun (i:Nat)=>D.int (0+(i:Int))).drop k) [.val (.ref h),.val (.int 5),x2,.val (.int (cnt:Int)),x4,x5] (Θ es turn)=.ok (.nx,ρ') (Θ es' turn)∧Reps Q off xs es'∧Else off cnt es es'
  | some (i,s,xs')=>i<cnt∧xs'.length=cnt∧∃es' ρ' win,(48≤win∧win≤64)∧Zb9 (.rng 0 cnt) ((List.range cnt).map fun (i:Nat)=>D.int (0+(i:Int))) (gNm 4) Zkd (((List.range cnt).map fun (i:Nat)=>D.int (0+(i:Int))).drop k) [.val (.ref h),.val (.int 5),x2,.val (.int (cnt:Int)),x4,x5] (Θ es turn)=.ok (.rt (il (putL (sgO (Q i) s win))),ρ') (Θ es' ((i+1:Nat):Int))∧Reps Q off xs' es'∧Else off cnt es es'
 | 0,k,es,x2,x4,x5,e,hl,hr=>by
  have hit:(Src.rng 0 cnt).items (Θ es turn)=some ((List.range cnt).map fun (i:Nat)=>D.int (0+(i:Int))):=rfl
  have d0:((List.range cnt).map fun (i:Nat)=>D.int (0+(i:Int))).drop k=[]:=by
   rw [List.drop_eq_nil_iff]; simp; omega
  simp only [pick]
  refine ⟨es,[.val (.ref h),.val (.int 5),x2,.val (.int (cnt:Int)),x4,x5],?_,hr,.refl⟩
  rw [d0]
  simp only [Zb9,hit,if_true]
 | f+1,k,es,x2,x4,x5,e,hl,hr=>by
  have hit:(Src.rng 0 cnt).items (Θ es turn)=some ((List.range cnt).map fun (i:Nat)=>D.int (0+(i:Int))):=rfl
  have hla:k<((List.range cnt).map fun (i:Nat)=>D.int (0+(i:Int))).length:=by simp; omega
  have hxk:((List.range cnt).map fun (i:Nat)=>D.int (0+(i:Int)))[k]=D.int (k:Int):=by simp
  have cpos:0<cnt:=by omega
  obtain ⟨i,hi⟩:∃i,i=(turn+k) % cnt:=⟨_,rfl⟩
  have ilt:i<cnt:=by rw [hi]; exact Nat.mod_lt _ cpos
  have ilx:i<xs.length:=by omega
  have xe:xs[i]?=some xs[i]:=List.getElem?_eq_getElem ilx
  obtain ⟨en,he,re⟩:=hr i _ xe
  have okx:okX xs[i]=true:=YS.mp hk _ (List.getElem_mem ilx)
  have pg:=ZAO (hQ i ilt) re okx
  have hm:((turn:Int)+(k:Int)) % (cnt:Int)=(i:Int):=by rw [hi]; simp
  have cne:¬(cnt:Int)=0:=by omega
  have hg:gNm 4 (D.int (k:Int)) [.val (.ref h),.val (.int 5),x2,.val (.int (cnt:Int)),x4,x5]=some [.val (.ref h),.val (.int 5),x2,.val (.int (cnt:Int)),.val (.int (k:Int)),x5]:=rfl
  have sd:(∀s,(zV en 5).1=some s→s.Put)→Z1 2 (mCB Zet (Zc (mOp ixM (Zz ["Host"] "ends" (Zd 0)) (Zd 5)) (Zc (Zd 1) Zi))) [.val (.ref h),.val (.int 5),x2,.val (.int (cnt:Int)),.val (.int (k:Int)),.val (.int (i:Int))] (Θ es turn)=.ok (.nx,[.val (.ref h),.val (.int 5),.val (il (Zdw en 5)),.val (.int (cnt:Int)),.val (.int (k:Int)),.val (.int (i:Int))]) (Θ (es.set (off+i) (zV en 5).2) turn):=by
   intro hp
   have:=ZrL hv (turn:=(turn:Int)) he hp
   simp [hv.ends,hv.ix es turn i ilt,this]
  have s5:Z1 5 (mOp Zbo (mOp za (Zz ["Host"] "turn" (Zd 0)) (Zd 4)) (Zd 3)) [.val (.ref h),.val (.int 5),x2,.val (.int (cnt:Int)),.val (.int (k:Int)),x5] (Θ es turn)=.ok (.nx,[.val (.ref h),.val (.int 5),x2,.val (.int (cnt:Int)),.val (.int (k:Int)),.val (.int (i:Int))]) (Θ es turn):=by
   have c0:0<(cnt:Int):=by omega
   simp [hv.turn,hm,cpos]
  rw [Yv hla,hxk]
  simp only [pick,hx,←hi,xe]
  cases q:(goX xs[i]).1 with
  | none=>
   rw [q] at pg
   obtain ⟨g1,g2⟩:=pg
   have q':goX xs[i]=(none,(goX xs[i]).2):=by rw [←q]
   rw [q']
   simp only
   have row:Zdw en 5=[]:=by unfold Zdw; rw [g1]
   have st:Zkd [.val (.ref h),.val (.int 5),x2,.val (.int (cnt:Int)),.val (.int (k:Int)),x5] (Θ es turn)=.ok (.nx,[.val (.ref h),.val (.int 5),.val (il []),.val (.int (cnt:Int)),.val (.int (k:Int)),.val (.int (i:Int))]) (Θ (es.set (off+i) (zV en 5).2) turn):=by
    have sd':=sd (fun s hs=>by rw [g1] at hs; cases hs)
    rw [row] at sd'
    unfold Zkd
    rw [ZaZ,s5,ZW,ZaZ,sd',ZW]
    simp [Zbx]
   have el:=Else.set (off:=off) (es:=es) (e:=(zV en 5).2) ilt
   have ih:=Zmk hv hc hQ hx hk turn f (k+1) (es.set (off+i) (zV en 5).2) (.val (il [])) (.val (.int (k:Int))) (.val (.int (i:Int))) (by omega) (by simpa using hl) (hr.same xe (by omega) g2)
   simp only [Zb9,hit,if_true,hg]
   rw [st,R.bind_ok,Zbq]
   cases q3:pick xs turn f (k+1) with
   | none=>
    rw [q3] at ih
    obtain ⟨es',ρ',i1,i2,i3⟩:=ih
    exact ⟨es',ρ',i1,i2,el.trans i3⟩
   | some z=>
    obtain ⟨i',s',xs'⟩:=z
    rw [q3] at ih
    obtain ⟨j1,j2,es',ρ',win,hw,i1,i2,i3⟩:=ih
    exact ⟨j1,j2,es',ρ',win,hw,i1,i2,el.trans i3⟩
  | some s=>
   rw [q] at pg
   obtain ⟨win,hw,g1,g2⟩:=pg
   have q':goX xs[i]=(some s,(goX xs[i]).2):=by rw [←q]
   rw [q']
   simp only
   have row:Zdw en 5=putL (sgO (Q i) s win):=by unfold Zdw; rw [g1]
   have pl:0<(putL (sgO (Q i) s win)).length:=by
    cases h':putL (sgO (Q i) s win) with
    | nil=>exact absurd h' (ZhR _)
    | cons _ _=>simp
   have sd':=sd (fun s' hs=>by rw [g1] at hs; cases hs; exact (Zjm (hQ i ilt) hw).put)
   rw [row] at sd'
   have st:Zkd [.val (.ref h),.val (.int 5),x2,.val (.int (cnt:Int)),.val (.int (k:Int)),x5] (Θ es turn)=.ok (.rt (il (putL (sgO (Q i) s win))),[.val (.ref h),.val (.int 5),.val (il (putL (sgO (Q i) s win))),.val (.int (cnt:Int)),.val (.int (k:Int)),.val (.int (i:Int))]) (Θ (es.set (off+i) (zV en 5).2) ((i+1:Nat):Int)):=by
    have c1:((i+1:Nat):Int)=(i:Int)+1:=by omega
    unfold Zkd
    rw [ZaZ,s5,ZW,ZaZ,sd',ZW,c1]
    simp [Zbx,pl,hv.sturn]
   simp only [Zb9,hit,if_true,hg]
   rw [st,R.bind_ok,ZiJ]
   exact ⟨ilt,by simpa using hx,_,_,win,hw,rfl,hr.set ilx (by omega) g2,.set ilt⟩
theorem ZkE {Θ:List Zn→Int→Sto} {h off cnt:Nat} (hv:HV Θ h off cnt) (hc:cnt≤8) {Q:Nat→PQ} (hQ:∀i,i<cnt→(Q i).Ok) {xs:List XE} (hx:xs.length=cnt) (hk:xs.all okX=true) (turn:Nat) (es:List Zn) (hl:off+cnt≤es.length) (hr:Reps Q off xs es) :
  match pick xs turn xs.length 0 with
  | none=>∃es',p_Host_sends [.ref h,.int 5] (Θ es turn)=.ok (il []) (Θ es' turn)∧Reps Q off xs es'∧Else off cnt es es'
  | some (i,s,xs')=>i<cnt∧xs'.length=cnt∧∃es' win,(48≤win∧win≤64)∧p_Host_sends [.ref h,.int 5] (Θ es turn)=.ok (il (putL (sgO (Q i) s win))) (Θ es' ((i+1:Nat):Int))∧Reps Q off xs' es'∧Else off cnt es es':=by
 have lo:=Zmk hv hc hQ hx hk turn cnt 0 es .no .no .no (by omega) hl hr
 have rg:Zci (Zc (Zd 3) Zi) [.val (.ref h),.val (.int 5),.no,.val (.int (cnt:Int)),.no,.no] (Θ es turn)=.ok (.rng 0 cnt) (Θ es turn):=by simp; omega
 have hit:(Src.rng 0 cnt).items (Θ es turn)=some ((List.range cnt).map fun (i:Nat)=>D.int (0+(i:Int))):=rfl
 have e3:Zej [.val (.ref h),.val (.int 5),.no,.val (.int (cnt:Int)),.no,.no] (Θ es turn)=Zb9 (.rng 0 cnt) ((List.range cnt).map fun (i:Nat)=>D.int (0+(i:Int))) (gNm 4) Zkd (((List.range cnt).map fun (i:Nat)=>D.int (0+(i:Int))).drop 0) [.val (.ref h),.val (.int 5),.no,.val (.int (cnt:Int)),.no,.no] (Θ es turn):=by
  show ZcH (Zci (Zc (Zd 3) Zi)) (gNm 4) Zkd [.val (.ref h),.val (.int 5),.no,.val (.int (cnt:Int)),.no,.no] (Θ es turn)=_
  unfold ZcH
  rw [rg,R.bind_ok]
  simp only [hit]
  rw [Y1]
 rw [←e3] at lo
 rw [hx]
 cases q:pick xs turn cnt 0 with
 | none=>
  rw [q] at lo
  obtain ⟨es',ρ',i1,i2,i3⟩:=lo
  refine ⟨es',?_,i2,i3⟩
  simp [p_Host_sends,Zdv,Zcx,hv.owed,Zak,hv.ends,hv.len,i1,ZcR]
 | some z=>
  obtain ⟨i,s,xs'⟩:=z
  rw [q] at lo
  obtain ⟨j1,j2,es',ρ',win,hw,i1,i2,i3⟩:=lo
  refine ⟨j1,j2,es',win,hw,?_,i2,i3⟩
  simp [p_Host_sends,Zdv,Zcx,hv.owed,Zak,hv.ends,hv.len,i1]
theorem Zpt {p:PQ} (h:p.Ok) {x:XE} {e:Zn} {s:AS} {win:Int} (r:ZgC p x e) (ok:Zm4 x s=true) (hw:48≤win∧win≤64):ZgC p (ZkM x s) (Zck e (sgO p.swap s win) 5):=ZmW r ok h.f h.g hw h.d h.d'
theorem Zso {p:PQ} {s:AS} {win:Int}:(sgO p s win).goal=p.b∧(sgO p s win).src=p.a:=Zxg
structure HA (Θ:List Zn→Sto) (h:Nat) (kv:List (List Key×D)):Prop where
 latest:∀es,fldK ["Host"] "latest" (.ref h) (Θ es)=.ok (.ref (h+2)) (Θ es)
 dt:∀es,dtOf (Θ es) (.ref (h+2))=some (h+2,kv)
 up:∀(es:List Zn) j e',j<es.length→upE (Θ es) (10+4*j) e'=Θ (es.set j e')
 lt:∀(es:List Zn) j,j<es.length→10+4*j+3<(Θ es).length
section
variable {Θ:List Zn→Sto} {h:Nat} {kv:List (List Key×D)} {es:List Zn} {j:Nat} {e:Zn}
theorem ZrM (ha:HA Θ h kv) (he:es[j]?=some e) {a b:Int} (hk:valT kv [.inl a,.inl b]=some (.ref (10+4*j))) (hs:e.state≠.closed):Zaf [.ref h,.int a,.int b] (Θ es)=.ok (.ref (10+4*j)) (Θ es):=by
 obtain ⟨hl,rfl⟩:=Ya.mp he
 have g:=Zmo (ha.lt es j hl) es[j]
 rw [ha.up es j _ hl,Yy] at g
 simp [Zaf,Zc3,ha.latest,ha.dt,kt2,hk,Zak,g,hs]
theorem Zib (ha:HA Θ h kv) (he:es[j]?=some e) {s:Seg} (so:s.Ok) (hk:valT kv [.inl s.goal,.inl s.src]=some (.ref (10+4*j))) (fx:Fx s.goal s.src e):p_Host_arrives [.ref h,il (putL s),.int 5] (Θ es)=.ok (.bl true) (Θ (es.set j (Zck e s 5))):=by
 have lv:=ZrM ha he hk fx.live
 have pb:=Zjq so.put
 have pr:=ZgN so
 have ir:=ZbN pb (Θ es)
 rw [pr] at ir
 have gt:=ZiO pb pr (Θ es)
 rw [ZjH so] at gt
 obtain ⟨hl,rfl⟩:=Ya.mp he
 have ar:=Zf2 (now:=5) (ha.lt es j hl) (e:=es[j]) fx.come so (by simp [Zgq,fx.ours,fx.theirs]) (by rw [fx.early]; decide)
 rw [ha.up es j _ hl,ha.up es j _ hl,Yy] at ar
 simp [p_Host_arrives,Zcz,ZbV,ZbU,Zc7,Zfl,ZdY,ir,gt,lv,Zak,ar]
end
structure HS where
 c0:Int
 t0:Int
 rs0:List D
 kv0:List (List Key×D)
 c1:Int
 t1:Int
 rs1:List D
 kv1:List (List Key×D)
 p0:Int
 p1:Int
 u0:List D
 u1:List D
def hf (a b c:Nat) (cf turn:Int):List (Str×D):=[("coming_first",.int cf),("ends",.ref a),("latest",.ref b),("untaken",.ref c),("owed_reset",.non),("turn",.int turn)]
def stB (H:HS):Sto:=[.ins "Host" (hf 1 2 3 H.c0 H.t0),.lst H.rs0,.dT H.kv0,.dK [(.inl H.p0,.ref 8),(.inl H.p1,.ref 9)],.ins "Host" (hf 5 6 7 H.c1 H.t1),.lst H.rs1,.dT H.kv1,.dK [],.lst H.u0,.lst H.u1]
def st (H:HS) (es:List Zn):Sto:=stB H++Zaa 10 es
section
variable {H:HS} {es:List Zn}
theorem Zk1:(st H es).length=10+4*es.length:=by
 unfold st
 rw [Ym,ZfN]
 rfl
theorem ZeP {j:Nat} (hj:j<es.length) (e':Zn):upE (st H es) (10+4*j) e'=st H (es.set j e'):=Znl hj (stB H) 10 rfl e'
theorem Zf4 {j:Nat} (hj:j<es.length):10+4*j+3<(st H es).length:=by rw [Zk1]; omega
theorem ZnY (e:Zn):st H es++cells (10+4*es.length) e=st H (es++[e]):=by
 unfold st
 rw [ZeC,Zaa,Zaa,YC,Yz]
theorem Zxa:fldK ["Host"] "coming_first" (.ref 0) (st H es)=.ok (.int H.c0) (st H es):=rfl
theorem ZrV:fldK ["Host"] "ends" (.ref 0) (st H es)=.ok (.ref 1) (st H es):=rfl
theorem Zo4:fldK ["Host"] "latest" (.ref 0) (st H es)=.ok (.ref 2) (st H es):=rfl
theorem Zi8:fldK ["Host"] "untaken" (.ref 0) (st H es)=.ok (.ref 3) (st H es):=rfl
theorem Zw9:fldK ["Host"] "coming_first" (.ref 4) (st H es)=.ok (.int H.c1) (st H es):=rfl
theorem ZrU:fldK ["Host"] "ends" (.ref 4) (st H es)=.ok (.ref 5) (st H es):=rfl
theorem Zo3:fldK ["Host"] "latest" (.ref 4) (st H es)=.ok (.ref 6) (st H es):=rfl
theorem Zwp (n:Int):setK ["Host"] "coming_first" (.int n) (.ref 0) (st H es)=some (st { H with c0:=n } es):=rfl
theorem Zwo (n:Int):setK ["Host"] "coming_first" (.int n) (.ref 4) (st H es)=some (st { H with c1:=n } es):=rfl
theorem l_1:Zh2 (st H es) (.ref 1)=some (1,H.rs0):=rfl
theorem l_5:Zh2 (st H es) (.ref 5)=some (5,H.rs1):=rfl
theorem d_2:dtOf (st H es) (.ref 2)=some (2,H.kv0):=rfl
theorem d_6:dtOf (st H es) (.ref 6)=some (6,H.kv1):=rfl
theorem k_3:dkOf (st H es) (.ref 3)=some (3,[(.inl H.p0,.ref 8),(.inl H.p1,.ref 9)]):=rfl
theorem z1 (y:List D):(st H es).set 1 (.lst y)=st { H with rs0:=y } es:=rfl
theorem z5 (y:List D):(st H es).set 5 (.lst y)=st { H with rs1:=y } es:=rfl
theorem z2 (y:List (List Key×D)):(st H es).set 2 (.dT y)=st { H with kv0:=y } es:=rfl
theorem z6 (y:List (List Key×D)):(st H es).set 6 (.dT y)=st { H with kv1:=y } es:=rfl
theorem i_0:Zdk (st H es) (.ref 0)=some (0,("Host":Str),hf 1 2 3 H.c0 H.t0):=rfl
theorem i_4:Zdk (st H es) (.ref 4)=some (4,("Host":Str),hf 5 6 7 H.c1 H.t1):=rfl
end
def rsF (off cnt:Nat):List D:=(List.range cnt).map fun i=>.ref (10+4*(off+i))
theorem Zki (off cnt:Nat):rsF off (cnt+1)=rsF off cnt++[.ref (10+4*(off+cnt))]:=by
 unfold rsF
 rw [YX,List.map_append]
 rfl
theorem Zhy (off cnt:Nat):(rsF off cnt).length=cnt:=by simp [rsF]
theorem Zn5 {off cnt i:Nat} (hi:i<cnt):atI (rsF off cnt) (i:Int)=some (.ref (10+4*(off+i))):=by
 refine ZeN ?_
 unfold rsF
 rw [Yn,Je hi]
 rfl
section
variable {H:HS} {off cnt:Nat}
theorem hv0 (hr:H.rs0=rsF off cnt):HV (fun es t=>st { H with t0:=t } es) 0 off cnt where
 owed:=fun _ _=>rfl
 ends:=fun _ _=>rfl
 turn:=fun _ _=>rfl
 sturn:=fun _ _ _=>rfl
 len:=fun es t=>by
  show R.ok (D.int (H.rs0.length:Int)) _=_
  rw [hr,Zhy]
 ix:=fun es t i hi=>by
  show (match atI H.rs0 (i:Int) with | some d=>R.ok d (st { H with t0:=t } es) | none=>R.bad)=_
  rw [hr,Zn5 hi]
 up:=fun es t j e' hj=>ZeP hj e'
 lt:=fun es t j hj=>Zf4 hj
theorem hv1 (hr:H.rs1=rsF off cnt):HV (fun es t=>st { H with t1:=t } es) 4 off cnt where
 owed:=fun _ _=>rfl
 ends:=fun _ _=>rfl
 turn:=fun _ _=>rfl
 sturn:=fun _ _ _=>rfl
 len:=fun es t=>by
  show R.ok (D.int (H.rs1.length:Int)) _=_
  rw [hr,Zhy]
 ix:=fun es t i hi=>by
  show (match atI H.rs1 (i:Int) with | some d=>R.ok d (st { H with t1:=t } es) | none=>R.bad)=_
  rw [hr,Zn5 hi]
 up:=fun es t j e' hj=>ZeP hj e'
 lt:=fun es t j hj=>Zf4 hj
theorem ha0:HA (st H) 0 H.kv0:=⟨fun _=>rfl,fun _=>rfl,fun _ _ e' hj=>ZeP hj e',fun _ _ hj=>Zf4 hj⟩
theorem ha1:HA (st H) 4 H.kv1:=⟨fun _=>rfl,fun _=>rfl,fun _ _ e' hj=>ZeP hj e',fun _ _ hj=>Zf4 hj⟩
end
def Zh8 (s:Seg):Bool:=bears s 2 && (!bears s 16 && !bears s 4)
theorem ZmP {s:Seg} (θ:Sto):Zd5 [s.d] θ=.ok (.bl (Zh8 s)) θ:=by
 unfold Zh8
 cases h1:bears s 2<;>cases h2:bears s 16<;>cases h3:bears s 4<;>simp [Zd5,Zhh,h1,h2,h3]
section
variable {H:HS} {es:List Zn} {a b:Int} {act:Bool}
theorem ZwS (h:valT H.kv0 [.inl a,.inl b]=none):Zaf [.ref 0,.int a,.int b] (st H es)=.ok .non (st H es):=by
 simp [Zaf,Zc3,Zo4,d_2,kt2,h,Zak]
theorem ZwR (h:valT H.kv1 [.inl a,.inl b]=none):Zaf [.ref 4,.int a,.int b] (st H es)=.ok .non (st H es):=by
 simp [Zaf,Zc3,Zo3,d_6,kt2,h,Zak]
theorem Zkl {kv:List (List Key×D)} {k:List Key} {d:D} (h:valT kv k=none):putT kv k d=kv++[(k,d)]:=by
 unfold putT
 rw [if_neg]
 intro z
 unfold valT at h
 rw [Y3,List.find?_eq_none] at h
 obtain ⟨p,hp,hz⟩:=List.any_eq_true.mp z
 exact h p hp hz
theorem ZwQ (h:valT H.kv0 [.inl a,.inl b]=none) (h1:H.rs0.length<1000) (h2:H.kv0.length<1000):ZaT [.ref 0,.int a,.int b,.bl act] (st H es)=.ok (.ref (10+4*es.length)) (st { H with c0:=Zs H.c0 64000,rs0:=H.rs0++[.ref (10+4*es.length)],kv0:=H.kv0++[([.inl a,.inl b],.ref (10+4*es.length))] } (es++[newEnd a b H.c0 act])):=by
 have op:=Zj2 (a:=a) (b:=b) (c:=H.c0) (act:=act) (st H es)
 rw [Zk1,ZnY] at op
 have l1:H.rs0.length<100000:=by omega
 have l2:H.kv0.length<100000:=by omega
 simp [ZaT,ZeH,Zxa,op,Zwp,ZrV,l_1,z1,Zo4,d_2,kt2,Zkl h,z2,l1,l2]
theorem ZwP (h:valT H.kv1 [.inl a,.inl b]=none) (h1:H.rs1.length<1000) (h2:H.kv1.length<1000):ZaT [.ref 4,.int a,.int b,.bl act] (st H es)=.ok (.ref (10+4*es.length)) (st { H with c1:=Zs H.c1 64000,rs1:=H.rs1++[.ref (10+4*es.length)],kv1:=H.kv1++[([.inl a,.inl b],.ref (10+4*es.length))] } (es++[newEnd a b H.c1 act])):=by
 have op:=Zj2 (a:=a) (b:=b) (c:=H.c1) (act:=act) (st H es)
 rw [Zk1,ZnY] at op
 have l1:H.rs1.length<100000:=by omega
 have l2:H.kv1.length<100000:=by omega
 simp [ZaT,ZeH,Zw9,op,Zwo,ZrU,l_5,z5,Zo3,d_6,kt2,Zkl h,z6,l1,l2]
theorem Zvl (h:valT H.kv1 [.inl a,.inl b]=none) (h1:H.rs1.length<1000) (h2:H.kv1.length<1000):ZaU [.ref 4,.int a,.int b] (st H es)=.ok (.ref (10+4*es.length)) (st { H with c1:=Zs H.c1 64000,rs1:=H.rs1++[.ref (10+4*es.length)],kv1:=H.kv1++[([.inl a,.inl b],.ref (10+4*es.length))] } (es++[newEnd a b H.c1 true])):=by
 simp [ZaU,Zfm,Zek,ZwR h,Zak,ZwP h h1 h2]
def prt (H:HS) (w:Bool):Int:=if w=true then H.p1 else H.p0
def unt (H:HS) (w:Bool):List D:=if w=true then H.u1 else H.u0
def ZiD (H:HS) (w:Bool) (y:List D):HS:=if w=true then { H with u1:=y } else { H with u0:=y }
def Zjj (w:Bool):Nat:=if w=true then 9 else 8
theorem ZhJ (hp:H.p0<H.p1) (w:Bool):valD [(.inl H.p0,.ref 8),(.inl H.p1,.ref 9)] (.inl (prt H w))=some (D.ref (Zjj w)):=by
 have:¬H.p0=H.p1:=by omega
 cases w<;>simp [valD,prt,Zjj,this]
theorem l_u (w:Bool):Zh2 (st H es) (.ref (Zjj w))=some (Zjj w,unt H w):=by cases w<;>rfl
theorem Zun (w:Bool):Zbb (st H es) (.ref (Zjj w))=some (unt H w):=by cases w<;>rfl
theorem z_u (w:Bool) (y:List D):(st H es).set (Zjj w) (.lst y)=st (ZiD H w y) es:=by cases w<;>rfl
theorem Zvh {s:Seg} {w:Bool} (hp:H.p0<H.p1) (hg:s.goal=prt H w) (hc:Zh8 s=true) (h:valT H.kv0 [.inl s.goal,.inl s.src]=none) (h1:H.rs0.length<1000) (h2:H.kv0.length<1000) (h3:(unt H w).length<1000):Zc7 [.ref 0,s.d] (st H es)=.ok (.ref (10+4*es.length)) (st (ZiD { H with c0:=Zs H.c0 64000,rs0:=H.rs0++[.ref (10+4*es.length)],kv0:=H.kv0++[([.inl s.goal,.inl s.src],.ref (10+4*es.length))] } w (unt H w++[.ref (10+4*es.length)])) (es++[newEnd s.goal s.src H.c0 false])):=by
 have lv:=ZwS (es:=es) h
 have ic:=ZmP (s:=s) (st H es)
 rw [hc] at ic
 have md:=ZwQ (es:=es) (act:=false) h h1 h2
 obtain ⟨H',hH⟩:∃H':HS,H'={ H with c0:=Zs H.c0 64000,rs0:=H.rs0++[.ref (10+4*es.length)],kv0:=H.kv0++[([.inl s.goal,.inl s.src],.ref (10+4*es.length))] }:=⟨_,rfl⟩
 rw [←hH] at md ⊢
 have e1:prt H w=prt H' w:=by rw [hH]; rfl
 have e2:unt H' w=unt H w:=by rw [hH]; rfl
 have v0:=ZhJ hp w
 have v1:=ZhJ (H:=H') (by rw [hH]; exact hp) w
 rw [←e1,←hg] at v1
 rw [←hg] at v0
 have l3:(unt H w).length<100000:=by omega
 simp [Zc7,Zfl,ZdY,lv,Zak,Zi8,k_3,keyD,v0,v1,ic,md,Zh0,l_u,z_u,e2,l3]
theorem ZkS {s:Seg} {w:Bool} (so:s.Ok) (hp:H.p0<H.p1) (hg:s.goal=prt H w) (hc:Zh8 s=true) (h:valT H.kv0 [.inl s.goal,.inl s.src]=none) (h1:H.rs0.length<1000) (h2:H.kv0.length<1000) (h3:(unt H w).length<1000):p_Host_arrives [.ref 0,il (putL s),.int 5] (st H es)=.ok (.bl true) (st (ZiD { H with c0:=Zs H.c0 64000,rs0:=H.rs0++[.ref (10+4*es.length)],kv0:=H.kv0++[([.inl s.goal,.inl s.src],.ref (10+4*es.length))] } w (unt H w++[.ref (10+4*es.length)])) (es++[Zck (newEnd s.goal s.src H.c0 false) s 5])):=by
 have ef:=Zvh (es:=es) hp hg hc h h1 h2 h3
 obtain ⟨H',hH⟩:∃H':HS,H'=ZiD { H with c0:=Zs H.c0 64000,rs0:=H.rs0++[.ref (10+4*es.length)],kv0:=H.kv0++[([.inl s.goal,.inl s.src],.ref (10+4*es.length))] } w (unt H w++[.ref (10+4*es.length)]):=⟨_,rfl⟩
 rw [←hH] at ef ⊢
 have pb:=Zjq so.put
 have pr:=ZgN so
 have ir:=ZbN pb (st H es)
 rw [pr] at ir
 have gt:=ZiO pb pr (st H es)
 rw [ZjH so] at gt
 have hl:es.length<(es++[newEnd s.goal s.src H.c0 false]).length:=by simp
 have ar:=Zf2 (now:=5) (Zf4 (H:=H') hl) (e:=newEnd s.goal s.src H.c0 false) (by simp [newEnd]) so (by simp [Zgq,newEnd]) (by simp [newEnd])
 have e1:∀y:Zn,(es++[newEnd s.goal s.src H.c0 false]).set es.length y=es++[y]:=fun y=>by simp
 rw [ZeP hl,ZeP hl,e1,e1] at ar
 simp [p_Host_arrives,Zcz,ZbV,ZbU,ir,gt,ef,Zak,ar]
end
def ZfX:SM:=(mIf (ZD (mOp eqM (mOp Zbo (mOp za (Zd 1) (Zd 2)) (mC (.int 4))) (mC (.int 0)))) (zn (zC "Host" "arrives" p_Host_arrives (mOp ixM (Zd 0) (mOp Zdc (mC (.int 1)) (Zd 4))) (Zc (Zd 5) (Zc (mC (.int 5)) Zi)))) ZK)
def ZeM:SM:=(mIf (ZD (mOp neM (Zd 5) (ZcO Zi))) (Zr (Z1 3 (mC (.bl false)))
    (Zr (zn (zC "Host" "arrives" p_Host_arrives (mOp ixM (Zd 0) (mOp Zdc (mC (.int 1)) (Zd 4))) (Zc (Zd 5) (Zc (mC (.int 5)) Zi))))
    ZfX)) ZK)
def ZfW:SM:=(ZcH (Zci (Zc (mC (.int 2)) Zi)) (gNm 4) (Zr (Z1 5 (zC "Host" "sends" p_Host_sends (mOp ixM (Zd 0) (Zd 4)) (Zc (mC (.int 5)) Zi)))
   ZeM))
def ZfV:SM:=(mIf (zR (Zd 3)) (ZM (mC (.bl true))) ZK)
def Ziv:SM:=(ZcH (Zci (Zc (mC (.int 40)) Zi)) (gNm 2) (Zr (Z1 3 (mC (.bl true)))
  (Zr ZfW
  ZfV)))
def ZkR:SM:=(Zr Ziv
 (ZM (mC (.bl false))))
def l_flow:GM:=ZO 2 6 ZkR
structure CF where
 n:Nat
 M:Nat→Int
 w:Nat→Bool
 p0:Int
 p1:Int
 F0:Int
 F1:Int
 d:Nat→List Int
 d':Nat→List Int
def CF.prt (c:CF) (i:Nat):Int:=if c.w i=true then c.p1 else c.p0
def CF.Q (c:CF) (i:Nat):PQ:=⟨c.M i,c.prt i,Zs c.F1 (64000*(i:Int)),Zs c.F0 (64000*(i:Int)),c.d i,c.d' i⟩
structure CF.Ok (c:CF):Prop where
 n:c.n≤4
 pq:∀i,i<c.n→(c.Q i).Ok
 p:c.p0<c.p1
 inj:∀i j,i<c.n→j<c.n→c.M i=c.M j→i=j
def kvF (K:Nat→List Key) (off m:Nat):List (List Key×D):=(List.range m).map fun i=>(K i,.ref (10+4*(off+i)))
theorem Zh3 (K:Nat→List Key) (off m:Nat):kvF K off (m+1)=kvF K off m++[(K m,.ref (10+4*(off+m)))]:=by
 unfold kvF
 rw [YX,List.map_append]
 rfl
theorem Zmg (K:Nat→List Key) (off m:Nat):(kvF K off m).length=m:=by simp [kvF]
theorem Zh5 {K:Nat→List Key} {off m:Nat} {k:List Key} (h:∀j,j<m→K j≠k):valT (kvF K off m) k=none:=by
 unfold valT
 rw [Y3,List.find?_eq_none]
 intro p hp
 obtain ⟨j,hj,rfl⟩:=List.mem_map.mp hp
 have:=h j (Jg.mp hj)
 simp [this]
theorem ZmL {xs:List (List Key×D)} {k:List Key} {d:D} (h:valT xs k=none):valT (xs++[(k,d)]) k=some d:=by
 unfold valT at h ⊢
 rw [Y3] at h
 rw [List.find?_append,h]
 simp
theorem ZmM {xs ys:List (List Key×D)} {k:List Key} {d:D} (h:valT xs k=some d):valT (xs++ys) k=some d:=by
 unfold valT at h ⊢
 rw [List.find?_append]
 cases q:xs.find? (fun kv=>decide (kv.1=k)) with
 | none=>rw [q] at h; cases h
 | some z=>rw [q] at h; exact h
theorem Zh4 {K:Nat→List Key} {off i:Nat}:∀{m:Nat},(∀j,j<m→K j=K i→j=i)→i<m→valT (kvF K off m) (K i)=some (.ref (10+4*(off+i)))
 | 0,_,h=>absurd h (YV _)
 | m+1,hK,h=>by
  rw [Zh3]
  by_cases c:i=m
  ·subst c
   exact ZmL (Zh5 fun j hj z=>by have:=hK j (by omega) z; omega)
  ·exact ZmM (Zh4 (fun j hj z=>hK j (by omega) z) (by omega))
def K0 (c:CF) (i:Nat):List Key:=[.inl (c.prt i),.inl (c.M i)]
def K1 (c:CF) (i:Nat):List Key:=[.inl (c.M i),.inl (c.prt i)]
theorem Zpv {c:CF} (ok:c.Ok) {i j:Nat} (hi:i<c.n) (hj:j<c.n) (h:K0 c j=K0 c i):j=i:=by
 have:c.M j=c.M i:=by
  have h:=h
  unfold K0 at h
  injection h with _ h
  injection h with h _
  exact Sum.inl.inj h
 exact ok.inj j i hj hi this
theorem Zpu {c:CF} (ok:c.Ok) {i j:Nat} (hi:i<c.n) (hj:j<c.n) (h:K1 c j=K1 c i):j=i:=by
 have:c.M j=c.M i:=by
  have h:=h
  unfold K1 at h
  injection h with h _
  exact Sum.inl.inj h
 exact ok.inj j i hj hi this
def hs (c:CF) (U:Bool→Nat→List D) (m t0 t1:Nat):HS:=⟨Zs c.F0 (64000*(m:Int)),(t0:Int),rsF c.n m,kvF (K0 c) c.n m,Zs c.F1 (64000*(c.n:Int)),(t1:Int),rsF 0 c.n,kvF (K1 c) 0 c.n,c.p0,c.p1,U false m,U true m⟩
def Th (c:CF) (U:Bool→Nat→List D) (S:SY) (es:List Zn):Sto:=st (hs c U S.ss.length S.t0 S.t1) es
structure UOk (c:CF) (m0:Nat) (U:Bool→Nat→List D):Prop where
 suc:∀b m,m0≤m→m<c.n→U b (m+1)=if c.w m=b then U b m++[.ref (10+4*(c.n+m))] else U b m
 len:∀b m,m≤c.n→(U b m).length<1000
structure Inv (c:CF) (m0:Nat) (S:SY) (es:List Zn):Prop where
 n:S.cs.length=c.n
 m0:m0≤S.ss.length
 m:S.ss.length≤c.n
 len:es.length=c.n+S.ss.length
 cs:Reps c.Q 0 S.cs es
 ss:Reps (fun i=>(c.Q i).swap) c.n S.ss es
theorem Reps.of {Q:Nat→PQ} {off:Nat} {xs:List XE} {es es':List Zn} (h:Reps Q off xs es) (e:∀i,i<xs.length→es'[off+i]?=es[off+i]?):Reps Q off xs es':=fun i x hx=>by
 obtain ⟨e0,h1,h2⟩:=h i x hx
 exact ⟨e0,(e i (Ya.mp hx).1).trans h1,h2⟩
section
variable {c:CF} {m0:Nat} {U:Bool→Nat→List D} {S S':SY} {es:List Zn} {i:Nat} {s:AS} {win:Int}
theorem ZnL (ok:c.Ok) (I:Inv c m0 S es) (h:toC S i s=some S') (hw:48≤win∧win≤64):∃es',p_Host_arrives [.ref 4,il (putL (sgO (c.Q i).swap s win)),.int 5] (Th c U S es)=.ok (.bl true) (Th c U S' es')∧Inv c m0 S' es':=by
 unfold toC at h
 cases hx:S.cs[i]? with
 | none=>rw [hx] at h; cases h
 | some x=>
  rw [hx] at h
  simp only at h
  by_cases okx:Zm4 x s=true
  ·rw [if_pos okx] at h
   cases h
   obtain ⟨e,he,re⟩:=I.cs i x hx
   have hi:i<S.cs.length:=(Ya.mp hx).1
   have hin:i<c.n:=by rw [←I.n]; exact hi
   have po:=ok.pq i hin
   have tg:=Zso (p:=(c.Q i).swap) (s:=s) (win:=win)
   have hk:valT (hs c U S.ss.length S.t0 S.t1).kv1 [.inl (sgO (c.Q i).swap s win).goal,.inl (sgO (c.Q i).swap s win).src]=some (.ref (10+4*(0+i))):=by
    rw [tg.1,tg.2]
    exact Zh4 (K:=K1 c) (off:=0) (i:=i) (fun j hj z=>Zpu ok hin hj z) hin
   have fx:=re.fx po.d po.d'
   have ar:=Zib (ha1 (H:=hs c U S.ss.length S.t0 S.t1)) he (Zjm po.swap hw) hk (by rw [tg.1,tg.2]; exact fx)
   have l1:0+i<es.length:=by rw [I.len]; omega
   exact ⟨_,ar,⟨by simpa using I.n,I.m0,I.m,by rw [YL]; exact I.len,I.cs.set hi l1 (Zpt po re okx hw),I.ss.of fun j hj=>Yc (by omega)⟩⟩
  ·rw [if_neg okx] at h
   cases h
theorem ZnK (ok:c.Ok) (uo:UOk c m0 U) (I:Inv c m0 S es) (h:toS S i s=some S') (hw:48≤win∧win≤64):∃es',p_Host_arrives [.ref 0,il (putL (sgO (c.Q i) s win)),.int 5] (Th c U S es)=.ok (.bl true) (Th c U S' es')∧Inv c m0 S' es':=by
 unfold toS at h
 have tg:=Zso (p:=c.Q i) (s:=s) (win:=win)
 cases hx:S.ss[i]? with
 | some x=>
  rw [hx] at h
  simp only at h
  by_cases okx:Zm4 x s=true
  ·rw [if_pos okx] at h
   cases h
   obtain ⟨e,he,re⟩:=I.ss i x hx
   have hi:i<S.ss.length:=(Ya.mp hx).1
   have hin:i<c.n:=Yh hi I.m
   have po:=ok.pq i hin
   have hk:valT (hs c U S.ss.length S.t0 S.t1).kv0 [.inl (sgO (c.Q i) s win).goal,.inl (sgO (c.Q i) s win).src]=some (.ref (10+4*(c.n+i))):=by
    rw [tg.1,tg.2]
    exact Zh4 (K:=K0 c) (off:=c.n) (i:=i) (fun j hj z=>Zpv ok hin (Yh hj I.m) z) hi
   have fx:=re.fx po.swap.d po.swap.d'
   have ar:=Zib (ha0 (H:=hs c U S.ss.length S.t0 S.t1)) he (Zjm po hw) hk (by rw [tg.1,tg.2]; exact fx)
   have l1:c.n+i<es.length:=by rw [I.len]; omega
   have hin':=I.n
   refine ⟨es.set (c.n+i) (Zck e (sgO (c.Q i) s win) 5),?_,⟨I.n,by simpa using I.m0,by simpa using I.m,by simpa using I.len,I.cs.of fun j hj=>Yc (by omega),I.ss.set hi l1 (Zpt (p:=(c.Q i).swap) po.swap re okx hw)⟩⟩
   show _=R.ok _ (st (hs c U (S.ss.set i (ZkM x s)).length S.t0 S.t1) _)
   rw [YL]
   exact ar
  ·rw [if_neg okx] at h
   cases h
 | none=>
  rw [hx] at h
  simp only at h
  by_cases q:i=S.ss.length∧s=⟨0,0,0⟩∧i<S.cs.length
  ·rw [if_pos q] at h
   cases h
   obtain ⟨q1,q2,q3⟩:=q
   subst q2
   have hin:i<c.n:=by rw [←I.n]; exact q3
   have po:=ok.pq i hin
   have so:=Zjm po (s:=⟨0,0,0⟩) hw
   have hg:(sgO (c.Q i) ⟨0,0,0⟩ win).goal=prt (hs c U S.ss.length S.t0 S.t1) (c.w i):=by rw [tg.1]; rfl
   have hk:valT (hs c U S.ss.length S.t0 S.t1).kv0 [.inl (sgO (c.Q i) ⟨0,0,0⟩ win).goal,.inl (sgO (c.Q i) ⟨0,0,0⟩ win).src]=none:=by
    rw [tg.1,tg.2]
    exact Zh5 (K:=K0 c) (off:=c.n) fun j hj z=>by have:=Zpv ok hin (by omega) (show K0 c j=K0 c i from z); omega
   have ul:=uo.len (c.w i) S.ss.length I.m
   have hu:unt (hs c U S.ss.length S.t0 S.t1) (c.w i)=U (c.w i) S.ss.length:=by cases c.w i<;>rfl
   have m4:=ok.n
   have ar:=ZkS (es:=es) so ok.p hg (by simp [Zh8,sgO,cS]) hk (by show (rsF _ _).length<_; rw [Zhy]; omega) (by show (kvF _ _ _).length<_; rw [Zmg]; omega) (by rw [hu]; exact ul)
   have el:es.length=c.n+i:=by rw [I.len,q1]
   have e1:Zck (newEnd (sgO (c.Q i) ⟨0,0,0⟩ win).goal (sgO (c.Q i) ⟨0,0,0⟩ win).src (hs c U S.ss.length S.t0 S.t1).c0 false) (sgO (c.Q i) ⟨0,0,0⟩ win) 5=scuE (c.Q i).b (c.Q i).a (c.Q i).g (c.Q i).f false:=by
    rw [tg.1,tg.2,←q1]
    exact Zn0 _
   rw [e1,el,hu] at ar
   refine ⟨es++[scuE (c.Q i).b (c.Q i).a (c.Q i).g (c.Q i).f false],?_,⟨I.n,?_,?_,?_,I.cs.of fun j hj=>?_,?_⟩⟩
   ·have key:ZiD { hs c U S.ss.length S.t0 S.t1 with c0:=Zs (hs c U S.ss.length S.t0 S.t1).c0 64000,rs0:=(hs c U S.ss.length S.t0 S.t1).rs0++[.ref (10+4*(c.n+i))],kv0:=(hs c U S.ss.length S.t0 S.t1).kv0++[([.inl (sgO (c.Q i) ⟨0,0,0⟩ win).goal,.inl (sgO (c.Q i) ⟨0,0,0⟩ win).src],.ref (10+4*(c.n+i)))] } (c.w i) (U (c.w i) S.ss.length++[.ref (10+4*(c.n+i))])=hs c U (S.ss.length+1) S.t0 S.t1:=by
     rw [tg.1,tg.2]
     have s0:=uo.suc false i (by rw [q1]; exact I.m0) hin
     have s1:=uo.suc true i (by rw [q1]; exact I.m0) hin
     have c1:Zs (Zs c.F0 (64000*(i:Int))) 64000=Zs c.F0 (64000*((i+1:Nat):Int)):=by
      rw [Zcm]
      congr 1
      try omega
     rw [←q1]
     unfold hs
     rw [s0,s1,Zki,Zh3,←c1]
     cases hc:c.w i with
     | true=>rw [hc] at s0 s1; simp [ZiD]; rfl
     | false=>rw [hc] at s0 s1; simp [ZiD]; rfl
    rw [key] at ar
    show _=R.ok _ (st (hs c U (S.ss++[XE.scu false]).length S.t0 S.t1) _)
    rw [show (S.ss++[XE.scu false]).length=S.ss.length+1 by simp]
    exact ar
   ·have:=I.m0; simp; omega
   ·simp; omega
   ·simp; omega
   ·have:=I.n; rw [Yu (by omega)]
   ·intro j x hj
    by_cases cj:j<S.ss.length
    ·rw [Yu cj] at hj
     obtain ⟨e,h1,h2⟩:=I.ss j x hj
     exact ⟨e,by rw [Yu (by omega)]; exact h1,h2⟩
    ·have hj':=(Ya.mp hj).1
     rw [Ym,Y7] at hj'
     have je:j=i:=by omega
     subst je
     rw [YA (by omega),show j-S.ss.length=0 by omega] at hj
     cases hj
     exact ⟨scuE (c.Q j).b (c.Q j).a (c.Q j).g (c.Q j).f false,by rw [YA (by omega),show c.n+j-es.length=0 by omega]; rfl,rfl⟩
  ·rw [if_neg q] at h
   cases h
end
def fB:SM:=Zr (Z1 5 (zC "Host" "sends" p_Host_sends (mOp ixM (Zd 0) (Zd 4)) (Zc (mC (.int 5)) Zi))) ZeM
def fsl (num k:Int) (still:Bool) (j:Int) (x5:Sl):List Sl:=[.val (.lst [.ref 0,.ref 4]),.val (.int num),.val (.int k),.val (.bl still),.val (.int j),x5]
theorem ZoG {H:HS} {es:List Zn} {m:Str} {f:GM} {fo:EM} {fs:AM} {ρ:List Sl} (hd:fo ρ (st H es)=.ok (.ref 0) (st H es)) (hl:(hf 1 2 3 H.c0 H.t0).lookup m=none):zC "Host" m f fo fs ρ (st H es)=(fs ρ (st H es)).bind fun vs θ=>f (.ref 0::vs) θ:=Zgj hd i_0 hl
theorem Zu2 {H:HS} {es:List Zn} {m:Str} {f:GM} {fo:EM} {fs:AM} {ρ:List Sl} (hd:fo ρ (st H es)=.ok (.ref 4) (st H es)) (hl:(hf 5 6 7 H.c1 H.t1).lookup m=none):zC "Host" m f fo fs ρ (st H es)=(fs ρ (st H es)).bind fun vs θ=>f (.ref 4::vs) θ:=Zgj hd i_4 hl
theorem Zkj:atI [D.ref 0,D.ref 4] 0=some (.ref 0):=rfl
theorem Zuw:atI [D.ref 0,D.ref 4] 1=some (.ref 4):=rfl
section
variable {c:CF} {m0:Nat} {U:Bool→Nat→List D} {S S':SY} {es:List Zn} {num k:Int} {still b:Bool} {x5:Sl}
theorem Zn2 (H:HS) (es:List Zn):zC "Host" "sends" p_Host_sends (mOp ixM (Zd 0) (Zd 4)) (Zc (mC (.int 5)) Zi) (fsl num k still 0 x5) (st H es)=p_Host_sends [.ref 0,.int 5] (st H es):=by
 rw [ZoG (by simp [fsl,Zkj]) rfl]
 simp
theorem Zn1 (H:HS) (es:List Zn):zC "Host" "sends" p_Host_sends (mOp ixM (Zd 0) (Zd 4)) (Zc (mC (.int 5)) Zi) (fsl num k still 1 x5) (st H es)=p_Host_sends [.ref 4,.int 5] (st H es):=by
 rw [Zu2 (by simp [fsl,Zuw]) rfl]
 simp
theorem Zxm (H:HS) (es:List Zn) (r:D):zC "Host" "arrives" p_Host_arrives (mOp ixM (Zd 0) (mOp Zdc (mC (.int 1)) (Zd 4))) (Zc (Zd 5) (Zc (mC (.int 5)) Zi)) (fsl num k still 0 (.val r)) (st H es)=p_Host_arrives [.ref 4,r,.int 5] (st H es):=by
 rw [Zu2 (by simp [fsl,Zuw]) rfl]
 simp [fsl]
theorem Zxl (H:HS) (es:List Zn) (r:D):zC "Host" "arrives" p_Host_arrives (mOp ixM (Zd 0) (mOp Zdc (mC (.int 1)) (Zd 4))) (Zc (Zd 5) (Zc (mC (.int 5)) Zi)) (fsl num k still 1 (.val r)) (st H es)=p_Host_arrives [.ref 0,r,.int 5] (st H es):=by
 rw [ZoG (by simp [fsl,Zkj]) rfl]
 simp [fsl]
theorem Zmr {j:Int} {θ θ':Sto} (h:zC "Host" "sends" p_Host_sends (mOp ixM (Zd 0) (Zd 4)) (Zc (mC (.int 5)) Zi) (fsl num k still j x5) θ=.ok (il []) θ'):fB (fsl num k still j x5) θ=.ok (.nx,fsl num k still j (.val (il []))) θ':=by
 have e:Z1 5 (zC "Host" "sends" p_Host_sends (mOp ixM (Zd 0) (Zd 4)) (Zc (mC (.int 5)) Zi)) (fsl num k still j x5) θ=.ok (.nx,fsl num k still j (.val (il []))) θ':=by
  rw [ZnF,h]
  rfl
 unfold fB
 rw [ZaZ,e,ZW]
 simp [ZeM,fsl,ZcR]
theorem ZhD {j:Int} {row:List Int} (hr:row≠[]) {θ θ1 θ2 θ3:Sto} (h:zC "Host" "sends" p_Host_sends (mOp ixM (Zd 0) (Zd 4)) (Zc (mC (.int 5)) Zi) (fsl num k still j x5) θ=.ok (il row) θ1)
  (h2:zC "Host" "arrives" p_Host_arrives (mOp ixM (Zd 0) (mOp Zdc (mC (.int 1)) (Zd 4))) (Zc (Zd 5) (Zc (mC (.int 5)) Zi)) (fsl num k false j (.val (il row))) θ1=.ok (.bl true) θ2)
  (h3:if (num+k) % 4=0 then zC "Host" "arrives" p_Host_arrives (mOp ixM (Zd 0) (mOp Zdc (mC (.int 1)) (Zd 4))) (Zc (Zd 5) (Zc (mC (.int 5)) Zi)) (fsl num k false j (.val (il row))) θ2=.ok (.bl true) θ3 else θ3=θ2):fB (fsl num k still j x5) θ=.ok (.nx,fsl num k false j (.val (il row))) θ3:=by
 have e:Z1 5 (zC "Host" "sends" p_Host_sends (mOp ixM (Zd 0) (Zd 4)) (Zc (mC (.int 5)) Zi)) (fsl num k still j x5) θ=.ok (.nx,fsl num k still j (.val (il row))) θ1:=by
  rw [ZnF,h]
  rfl
 have e3:Z1 3 (mC (.bl false)) (fsl num k still j (.val (il row))) θ1=.ok (.nx,fsl num k false j (.val (il row))) θ1:=by simp [fsl]
 have t1:ZD (mOp neM (Zd 5) (ZcO Zi)) (fsl num k still j (.val (il row))) θ1=.ok true θ1:=by simp [fsl,ZcR,hr]
 have x2:zn (zC "Host" "arrives" p_Host_arrives (mOp ixM (Zd 0) (mOp Zdc (mC (.int 1)) (Zd 4))) (Zc (Zd 5) (Zc (mC (.int 5)) Zi))) (fsl num k false j (.val (il row))) θ1=.ok (.nx,fsl num k false j (.val (il row))) θ2:=by
  rw [ZnG,h2]
  rfl
 have x1:ZfX (fsl num k false j (.val (il row))) θ2=.ok (.nx,fsl num k false j (.val (il row))) θ3:=by
  have t2:ZD (mOp eqM (mOp Zbo (mOp za (Zd 1) (Zd 2)) (mC (.int 4))) (mC (.int 0))) (fsl num k false j (.val (il row))) θ2=.ok (decide ((num+k) % 4=0)) θ2:=by simp [fsl]
  unfold ZfX
  rw [ZvW,t2,R.bind_ok]
  by_cases q:(num+k) % 4=0
  ·rw [if_pos q] at h3
   rw [decide_eq_true q,if_pos rfl,ZnG,h3]
   rfl
  ·rw [if_neg q] at h3
   rw [decide_eq_false q,if_neg (by simp),h3]
   rfl
 unfold fB
 rw [ZaZ,e,ZW]
 unfold ZeM
 rw [ZvW,t1,R.bind_ok,if_pos rfl,ZaZ,e3,ZW,ZaZ,x2,ZW,x1]
theorem ZoW (ok:c.Ok) (I:Inv c m0 S es) (h:Zmm (decide ((num+k) % 4=0)) S=some (S',b)):∃es' y5,fB (fsl num k still 0 x5) (Th c U S es)=.ok (.nx,fsl num k (still && b) 0 y5) (Th c U S' es')∧Inv c m0 S' es':=by
 unfold Zmm at h
 by_cases ks:Zhs S=false
 ·rw [if_pos ks] at h; cases h
 rw [if_neg ks] at h
 have kk:S.cs.all okX=true∧S.ss.all okX=true:=by
  have:Zhs S=true:=by cases q:Zhs S<;>simp_all
  unfold Zhs at this
  rwa [Yl] at this
 have hn:=ok.n
 have hm:=I.m
 have sn:=ZkE (hv0 (H:=hs c U S.ss.length S.t0 S.t1) (off:=c.n) (cnt:=S.ss.length) rfl) (by omega) (Q:=fun i=>(c.Q i).swap) (fun i hi=>(ok.pq i (by omega)).swap) rfl kk.2 S.t0 es (by rw [I.len]; omega) I.ss
 cases hp:pick S.ss S.t0 S.ss.length 0 with
 | none=>
  rw [hp] at h sn
  cases h
  obtain ⟨es',s1,s2,s3⟩:=sn
  have s1':zC "Host" "sends" p_Host_sends (mOp ixM (Zd 0) (Zd 4)) (Zc (mC (.int 5)) Zi) (fsl num k still 0 x5) (Th c U S es)=.ok (il []) (Th c U S es'):=(Zn2 _ _).trans s1
  refine ⟨es',.val (il []),?_,⟨I.n,I.m0,I.m,s3.1.trans I.len,I.cs.of fun j hj=>s3.2 _ (by have:=I.n; omega),s2⟩⟩
  rw [Jk]
  exact Zmr s1'
 | some z=>
  obtain ⟨i,s,xs'⟩:=z
  rw [hp] at h sn
  obtain ⟨j1,j2,es1,win,hw,s1,s2,s3⟩:=sn
  have I1:Inv c m0 { S with ss:=xs',t0:=i+1 } es1:=⟨I.n,by show m0≤xs'.length; rw [j2]; exact I.m0,by show xs'.length≤_; rw [j2]; exact I.m,by show es1.length=_+xs'.length; rw [j2]; exact s3.1.trans I.len,I.cs.of fun j hj=>s3.2 _ (by have:=I.n; omega),s2⟩
  have s1':zC "Host" "sends" p_Host_sends (mOp ixM (Zd 0) (Zd 4)) (Zc (mC (.int 5)) Zi) (fsl num k still 0 x5) (Th c U S es)=.ok (il (putL (sgO (c.Q i).swap s win))) (Th c U { S with ss:=xs',t0:=i+1 } es1):=by
   refine (Zn2 _ _).trans (s1.trans ?_)
   show R.ok _ (st (hs c U S.ss.length (i+1) S.t1) es1)=R.ok _ (st (hs c U xs'.length (i+1) S.t1) es1)
   rw [j2]
  simp only at h
  cases hC:toC { S with ss:=xs',t0:=i+1 } i s with
  | none=>rw [hC] at h; cases h
  | some S1=>
   rw [hC] at h
   obtain ⟨es2,a1,I2⟩:=ZnL (U:=U) ok I1 hC hw
   have a1':zC "Host" "arrives" p_Host_arrives (mOp ixM (Zd 0) (mOp Zdc (mC (.int 1)) (Zd 4))) (Zc (Zd 5) (Zc (mC (.int 5)) Zi)) (fsl num k false 0 (.val (il (putL (sgO (c.Q i).swap s win))))) (Th c U { S with ss:=xs',t0:=i+1 } es1)=.ok (.bl true) (Th c U S1 es2):=(Zxm _ _ _).trans a1
   simp only at h
   by_cases q:(num+k) % 4=0
   ·rw [if_pos (decide_eq_true q)] at h
    cases hC2:toC S1 i s with
    | none=>rw [hC2] at h; cases h
    | some S2=>
     rw [hC2] at h
     cases h
     obtain ⟨es3,a2,I3⟩:=ZnL (U:=U) ok I2 hC2 hw
     refine ⟨es3,.val (il (putL (sgO (c.Q i).swap s win))),?_,I3⟩
     rw [Y0]
     exact ZhD (ZhR _) s1' a1' (by rw [if_pos q]; exact (Zxm _ _ _).trans a2)
   ·rw [if_neg (by simpa using q)] at h
    cases h
    refine ⟨es2,.val (il (putL (sgO (c.Q i).swap s win))),?_,I2⟩
    rw [Y0]
    exact ZhD (ZhR _) s1' a1' (by rw [if_neg q])
theorem ZoV (ok:c.Ok) (uo:UOk c m0 U) (I:Inv c m0 S es) (h:Zml (decide ((num+k) % 4=0)) S=some (S',b)):∃es' y5,fB (fsl num k still 1 x5) (Th c U S es)=.ok (.nx,fsl num k (still && b) 1 y5) (Th c U S' es')∧Inv c m0 S' es':=by
 unfold Zml at h
 by_cases ks:Zhs S=false
 ·rw [if_pos ks] at h; cases h
 rw [if_neg ks] at h
 have kk:S.cs.all okX=true∧S.ss.all okX=true:=by
  have:Zhs S=true:=by cases q:Zhs S<;>simp_all
  unfold Zhs at this
  rwa [Yl] at this
 have hn:=ok.n
 have hm:=I.m
 have sn:=ZkE (hv1 (H:=hs c U S.ss.length S.t0 S.t1) (off:=0) (cnt:=c.n) rfl) (by omega) (Q:=c.Q) (fun i hi=>ok.pq i hi) I.n kk.1 S.t1 es (by rw [I.len]; omega) I.cs
 cases hp:pick S.cs S.t1 S.cs.length 0 with
 | none=>
  rw [hp] at h sn
  cases h
  obtain ⟨es',s1,s2,s3⟩:=sn
  have s1':zC "Host" "sends" p_Host_sends (mOp ixM (Zd 0) (Zd 4)) (Zc (mC (.int 5)) Zi) (fsl num k still 1 x5) (Th c U S es)=.ok (il []) (Th c U S es'):=(Zn1 _ _).trans s1
  refine ⟨es',.val (il []),?_,⟨I.n,I.m0,I.m,s3.1.trans I.len,s2,I.ss.of fun j hj=>s3.2 _ (by omega)⟩⟩
  rw [Jk]
  exact Zmr s1'
 | some z=>
  obtain ⟨i,s,xs'⟩:=z
  rw [hp] at h sn
  obtain ⟨j1,j2,es1,win,hw,s1,s2,s3⟩:=sn
  have I1:Inv c m0 { S with cs:=xs',t1:=i+1 } es1:=⟨j2,I.m0,I.m,s3.1.trans I.len,s2,I.ss.of fun j hj=>s3.2 _ (by omega)⟩
  have s1':zC "Host" "sends" p_Host_sends (mOp ixM (Zd 0) (Zd 4)) (Zc (mC (.int 5)) Zi) (fsl num k still 1 x5) (Th c U S es)=.ok (il (putL (sgO (c.Q i) s win))) (Th c U { S with cs:=xs',t1:=i+1 } es1):=(Zn1 _ _).trans s1
  simp only at h
  cases hC:toS { S with cs:=xs',t1:=i+1 } i s with
  | none=>rw [hC] at h; cases h
  | some S1=>
   rw [hC] at h
   obtain ⟨es2,a1,I2⟩:=ZnK ok uo I1 hC hw
   have a1':zC "Host" "arrives" p_Host_arrives (mOp ixM (Zd 0) (mOp Zdc (mC (.int 1)) (Zd 4))) (Zc (Zd 5) (Zc (mC (.int 5)) Zi)) (fsl num k false 1 (.val (il (putL (sgO (c.Q i) s win))))) (Th c U { S with cs:=xs',t1:=i+1 } es1)=.ok (.bl true) (Th c U S1 es2):=(Zxl _ _ _).trans a1
   simp only at h
   by_cases q:(num+k) % 4=0
   ·rw [if_pos (decide_eq_true q)] at h
    cases hC2:toS S1 i s with
    | none=>rw [hC2] at h; cases h
    | some S2=>
     rw [hC2] at h
     cases h
     obtain ⟨es3,a2,I3⟩:=ZnK ok uo I2 hC2 hw
     refine ⟨es3,.val (il (putL (sgO (c.Q i) s win))),?_,I3⟩
     rw [Y0]
     exact ZhD (ZhR _) s1' a1' (by rw [if_pos q]; exact (Zxl _ _ _).trans a2)
   ·rw [if_neg (by simpa using q)] at h
    cases h
    refine ⟨es2,.val (il (putL (sgO (c.Q i) s win))),?_,I2⟩
    rw [Y0]
    exact ZhD (ZhR _) s1' a1' (by rw [if_neg q])
theorem ZAH {ρ ρ1 ρ2:List Sl} {θ θ1 θ2:Sto} {B:SM} (h0:B (ρ.set 4 (.val (.int 0))) θ=.ok (.nx,ρ1) θ1) (h1:B (ρ1.set 4 (.val (.int 1))) θ1=.ok (.nx,ρ2) θ2):ZcH (Zci (Zc (mC (.int 2)) Zi)) (gNm 4) B ρ θ=.ok (.nx,ρ2) θ2:=by
 have rg:Zci (Zc (mC (.int 2)) Zi) ρ θ=.ok (.rng 0 2) θ:=by simp
 have it:∀θ,(Src.rng 0 2).items θ=some [.int 0,.int 1]:=fun _=>rfl
 have g0:gNm 4 (D.int 0) ρ=some (ρ.set 4 (.val (.int 0))):=rfl
 have g1:gNm 4 (D.int 1) ρ1=some (ρ1.set 4 (.val (.int 1))):=rfl
 unfold ZcH
 rw [rg,R.bind_ok]
 simp only [it,Zb9,if_true,g0,g1,h0,h1,R.bind_ok,Zbq]
def flB:SM:=Zr (Z1 3 (mC (.bl true))) (Zr ZfW ZfV)
theorem Zn6 (ok:c.Ok) (uo:UOk c m0 U) (I:Inv c m0 S es) (h:Zjn (decide ((num+k) % 4=0)) S=some (S',b)) (x3 x4:Sl):∃es' ρ',flB [.val (.lst [.ref 0,.ref 4]),.val (.int num),.val (.int k),x3,x4,x5] (Th c U S es)=.ok ((if b=true then .rt (.bl true) else .nx),ρ') (Th c U S' es')∧Inv c m0 S' es'∧∃y3 y4 y5,ρ'=[.val (.lst [.ref 0,.ref 4]),.val (.int num),.val (.int k),y3,y4,y5]:=by
 unfold Zjn at h
 cases q0:Zmm (decide ((num+k) % 4=0)) S with
 | none=>rw [q0] at h; cases h
 | some z0=>
  obtain ⟨S1,b1⟩:=z0
  rw [q0] at h
  simp only at h
  cases q1:Zml (decide ((num+k) % 4=0)) S1 with
  | none=>rw [q1] at h; cases h
  | some z1=>
   obtain ⟨S2,b2⟩:=z1
   rw [q1] at h
   cases h
   obtain ⟨es1,y5,r1,I1⟩:=ZoW (U:=U) (still:=true) (x5:=x5) ok I q0
   obtain ⟨es2,z5,r2,I2⟩:=ZoV (U:=U) (still:=true && b1) (x5:=y5) ok uo I1 q1
   have e3:ZfW [.val (.lst [.ref 0,.ref 4]),.val (.int num),.val (.int k),.val (.bl true),x4,x5] (Th c U S es)=.ok (.nx,fsl num k (true && b1 && b2) 1 z5) (Th c U S' es2):=ZAH (B:=fB) r1 r2
   have e1:Z1 3 (mC (.bl true)) [.val (.lst [.ref 0,.ref 4]),.val (.int num),.val (.int k),x3,x4,x5] (Th c U S es)=.ok (.nx,[.val (.lst [.ref 0,.ref 4]),.val (.int num),.val (.int k),.val (.bl true),x4,x5]) (Th c U S es):=by simp
   refine ⟨es2,fsl num k (true && b1 && b2) 1 z5,?_,I2,_,_,_,rfl⟩
   unfold flB
   rw [ZaZ,e1,ZW,ZaZ,e3,ZW]
   cases b1<;>cases b2<;>simp [ZfV,fsl]
end
theorem Zi7 {c:CF} {m0:Nat} {U:Bool→Nat→List D} {num:Int} {m1:Nat} (ok:c.Ok) (uo:UOk c m0 U) (hm:num % 4=(m1:Int)) (all:List D) (hall:all=(List.range 40).map fun (i:Nat)=>D.int (0+(i:Int))):∀(f k:Nat) (S S':SY) (es:List Zn) (x2 x3 x4 x5:Sl),f+k=40→Inv c m0 S es→Zhe m1 f k S=some S'→∃es' ρ',Zb9 (.rng 0 40) all (gNm 2) flB (all.drop k) [.val (.lst [.ref 0,.ref 4]),.val (.int num),x2,x3,x4,x5] (Th c U S es)=.ok (.rt (.bl true),ρ') (Th c U S' es')∧Inv c m0 S' es'
 | 0,k,S,S',es,x2,x3,x4,x5,_,_,h=>by cases h
 | f+1,k,S,S',es,x2,x3,x4,x5,hf,I,h=>by
  have hit:∀θ,(Src.rng 0 40).items θ=some all:=fun θ=>by rw [hall]; rfl
  have hla:k<all.length:=by rw [hall]; simp; omega
  have hxk:all[k]=D.int (k:Int):=by simp [hall]
  have hg:gNm 2 (D.int (k:Int)) [.val (.lst [.ref 0,.ref 4]),.val (.int num),x2,x3,x4,x5]=some [.val (.lst [.ref 0,.ref 4]),.val (.int num),.val (.int (k:Int)),x3,x4,x5]:=rfl
  have dd:decide ((num+(k:Int)) % 4=0)=decide ((m1+k) % 4=0):=by rw [decide_eq_decide]; omega
  unfold Zhe at h
  rw [←dd] at h
  cases q:Zjn (decide ((num+(k:Int)) % 4=0)) S with
  | none=>rw [q] at h; cases h
  | some z=>
   obtain ⟨S1,b⟩:=z
   rw [q] at h
   obtain ⟨es1,ρ',r1,I1,y3,y4,y5,rfl⟩:=Zn6 (U:=U) (x5:=x5) ok uo I q x3 x4
   rw [Yv hla,hxk]
   simp only [Zb9,hit,if_true,hg]
   rw [r1,R.bind_ok]
   cases b with
   | true=>
    cases h
    exact ⟨es1,_,by rw [if_pos rfl,ZiJ],I1⟩
   | false=>
    rw [if_neg (by simp),Zbq]
    exact Zi7 ok uo hm all hall f (k+1) S1 S' es1 _ _ _ _ (by omega) I1 h
theorem Zmq {c:CF} {m0:Nat} {U:Bool→Nat→List D} {num:Int} {m1:Nat} {S S':SY} {es:List Zn} (ok:c.Ok) (uo:UOk c m0 U) (hm:num % 4=(m1:Int)) (I:Inv c m0 S es) (h:Zhe m1 40 0 S=some S'):∃es',l_flow [.lst [.ref 0,.ref 4],.int num] (Th c U S es)=.ok (.bl true) (Th c U S' es')∧Inv c m0 S' es':=by
 obtain ⟨all,hall⟩:∃all:List D,all=(List.range 40).map fun (i:Nat)=>D.int (0+(i:Int)):=⟨_,rfl⟩
 obtain ⟨es',ρ',r,I'⟩:=Zi7 (U:=U) ok uo hm all hall 40 0 S S' es .no .no .no .no rfl I h
 rw [Y1] at r
 refine ⟨es',?_,I'⟩
 have rg:Zci (Zc (mC (.int 40)) Zi) [.val (.lst [.ref 0,.ref 4]),.val (.int num),.no,.no,.no,.no] (Th c U S es)=.ok (.rng 0 40) (Th c U S es):=by simp
 have hit:(Src.rng 0 40).items (Th c U S es)=some all:=by rw [hall]; rfl
 have e5:Ziv [.val (.lst [.ref 0,.ref 4]),.val (.int num),.no,.no,.no,.no] (Th c U S es)=.ok (.rt (.bl true),ρ') (Th c U S' es'):=by
  show ZcH (Zci (Zc (mC (.int 40)) Zi)) (gNm 2) flB _ _=_
  unfold ZcH
  rw [rg,R.bind_ok]
  simp only [hit]
  exact r
 simp [l_flow,ZkR,e5]
end
end My
namespace PySem.W.Fast
def tw15627302289369837600:=0
def tw17315133643662609472:=0
def tw6235188142958627904:=0
def tw8294278322032497728:=0
def tw15354890680575420480:=0
def tw16525282178175055008:=0
def tw9063304166740553888:=0
def tw7844575590570382528:=0
def tw17965417951202026784:=0
def tw13207431462610583840:=0
def tw14016754500375175488:=0
def tw17804566369820906880:=0
def tw9051216535802227072:=0
def tw1215642150920864160:=0
def tw18093477066278259104:=0
def tw17348005068421199264:=0
def tw17834011940266679776:=0
def tw12056689744244172288:=0
def tw17512098306674454016:=0
def tw10334694405739680288:=0
def tw176605186248222240:=0
def tw7146877970002126368:=0
def tw14034547921126683168:=0
def tw5835061137902898752:=0
def tw6311870167376284256:=0
def tw1350329364900565600:=0
def tw15180418937145089632:=0
def tw7088958410444078688:=0
def tw1393853589502364320:=0
def tw9684931997674123936:=0
def tw9050648926380129952:=0
def tw8330294860228608736:=0
def tw16273468991979719424:=0
def tw8925022143565425408:=0
def tw2111800238820674336:=0
def tw14984649597238674240:=0
def tw2712907956264027008:=0
def tw11582163301698323521:=0
def tw3622553659219987553:=0
def tw8760243427805927649:=0
def tw9197645964288006401:=0
def tw12358719489230115105:=0
def tw7083697148487856481:=0
def tw11941756607600981345:=0
def tw6106503690913839457:=0
def tw8654016649724745185:=0
def tw6293970805633255937:=0
def tw14382319998220048897:=0
def tw13045276062298676737:=0
def tw11353150584586909217:=0
def tw4038864231852449345:=0
def tw2563958547742116449:=0
def tw18121344250403000065:=0
def tw12424211879336410881:=0
def tw13140459357933547329:=0
def tw1831894300516438881:=0
def tw1345983211260894049:=0
def tw15363200651080332161:=0
def tw4472004796187435937:=0
def tw7775192781253976001:=0
def tw14671211225440349121:=0
def tw7953410152994201569:=0
def tw7493026282952355809:=0
def tw4229608145074943969:=0
def tw1688163689694688258:=0
def tw5353047325664900098:=0
def tw11387119506257749026:=0
def tw16721770820772668514:=0
def tw8303848603545335938:=0
def tw12909695863853795490:=0
def tw8736689826260862114:=0
def tw16522001252023704770:=0
def tw1581817715451707618:=0
def tw9860056528971128034:=0
def tw11857373439404108034:=0
def tw14645577738598480130:=0
def tw14964960084864806210:=0
def tw15696540982480851298:=0
def tw9901765178968933762:=0
def tw12281374162919762338:=0
def tw6637207243718446530:=0
def tw5225805046872676834:=0
def tw3356823165333851682:=0
def tw4818129180601133634:=0
def tw13386392207910183522:=0
def tw2519282525828770434:=0
def tw2142485988606272226:=0
def tw6570294448796932898:=0
def tw18254732542762617698:=0
def tw364624859253849954:=0
def tw167734404962868162:=0
def tw9157431787500594211:=0
def tw5664089946122147907:=0
def tw8328759337707109507:=0
def tw18053677021159771331:=0
def tw15240640972925206755:=0
def tw7757030888411431139:=0
def tw12668871416556744995:=0
def tw3845123477501029699:=0
def tw17342460582057261379:=0
def tw15244263310041809283:=0
def tw7418037710167383491:=0
def tw16358645198773895619:=0
def tw12856400243452394979:=0
def tw13584502623032357411:=0
def tw4030578054421202467:=0
def tw17557464731619090979:=0
def tw11105285704960700963:=0
def tw12501518239539429955:=0
def tw15431844620960821827:=0
def tw12002639219134212771:=0
def tw9571416009151038115:=0
def tw7624533594729046723:=0
def tw9883314804369207011:=0
def tw9859521583144761091:=0
def tw16674645785745393443:=0
def tw285877342620262179:=0
def tw6274880889900888899:=0
def tw17146860720227797859:=0
def tw15653319069763260291:=0
def tw13936767734724244516:=0
def tw7008031146237084740:=0
def tw12608511818665626724:=0
def tw14870817831011098948:=0
def tw16383530194957916484:=0
def tw6890070064115180932:=0
def tw2050357325453857220:=0
def tw6922381903775495620:=0
def tw6465578027950074372:=0
def tw1414499648333188772:=0
def tw6208699067574270724:=0
def tw17609617891643532100:=0
def tw6860564437310502724:=0
def tw14234688636766164900:=0
def tw17774262078877214660:=0
def tw5353205404817589253:=0
def tw12395575772173769733:=0
def tw5385755573013063685:=0
def tw5900375763335575557:=0
def tw12120875443074321445:=0
def tw664705745219669029:=0
def tw14536438474614329381:=0
def tw17246925676070555749:=0
def tw13669967889385047173:=0
def tw11421192411747093765:=0
def tw10635444054605731141:=0
def tw13865161753244087653:=0
def tw3659287071331108197:=0
def tw11324137598709264741:=0
def tw1046453433146535301:=0
def tw17504196759740122533:=0
def tw8218615275634920901:=0
def tw16792095280505285061:=0
def tw5191452990347425253:=0
def tw17421861198394003045:=0
def tw9404867553563548261:=0
def tw499517175983524453:=0
def tw18315105680910415461:=0
def tw7266060338280086181:=0
def tw11649374502688138949:=0
def tw3004802803087410917:=0
def tw14003543543931174629:=0
def tw3382012385319113605:=0
def tw15285960946946891749:=0
def tw11123236381822432262:=0
def tw10984965210669642822:=0
def tw5788634634766257318:=0
def tw197361190501186790:=0
def tw14920566244032678150:=0
def tw13083855643992102150:=0
def tw18102941226340460806:=0
def tw1807627241403774342:=0
def tw8813415020115859910:=0
def tw15818530122997864902:=0
def tw17814711981750717062:=0
def tw15020335600726734470:=0
def tw10435155327116392102:=0
def tw15148223397291171558:=0
def tw11404180881283141382:=0
def tw18321752768068746086:=0
def tw898660322025124774:=0
def tw18255235194339298246:=0
def tw6003886109487389638:=0
def tw10094627511314172902:=0
def tw14843430087330671687:=0
def tw6137235078001051879:=0
def tw14542487104492209415:=0
def tw7181153208360865031:=0
def tw6784602528036314375:=0
def tw5055586637119821095:=0
def tw7471006773421694247:=0
def tw15410061951522169127:=0
def tw9661013583036908871:=0
def tw7827957516844673351:=0
def tw10013641787630339399:=0
def tw16330702260123080103:=0
def tw4147917996976382439:=0
def tw16790959198202192423:=0
def tw15696789303790085799:=0
def tw2103071496624024231:=0
def tw12534606649317602983:=0
def tw2200336519859485415:=0
def tw10099774195486793511:=0
def tw14175859964186081063:=0
def tw15102408396614480711:=0
def tw16409487992415778631:=0
def tw5649102335846944615:=0
def tw1542528588763571111:=0
def tw16161035718834565031:=0
def tw9182443658605424551:=0
def tw2880811089429346247:=0
def tw10903142561171854279:=0
def tw15659182139810386952:=0
def tw255106838462562408:=0
def tw15404406789035025544:=0
def tw8787215332234534056:=0
def tw15647469670221222088:=0
def tw10453621354345539848:=0
def tw5824625172435351816:=0
def tw4846922881715632424:=0
def tw18230350687452318056:=0
def tw12335306906459079080:=0
def tw12391984296665347496:=0
def tw10067316312951989704:=0
def tw10250464393862461896:=0
def tw3259319632460947944:=0
def tw7723404313483357672:=0
def tw12154940377275235848:=0
def tw10709574396060111464:=0
def tw12958091683609879176:=0
def tw9358593132000801480:=0
def tw2333224645344220904:=0
def tw2868867020533378824:=0
def tw14373979727551993640:=0
def tw8026712858458415944:=0
def tw17867635338932092776:=0
def tw16957519075783783400:=0
def tw10397006238066456617:=0
def tw10136843142760692841:=0
def tw15603929293890879657:=0
def tw12273139911897874601:=0
def tw14472036892328272041:=0
def tw4904232870570351785:=0
def tw1716833381585854729:=0
def tw13127962266739123465:=0
def tw14626980344559264073:=0
def tw9051420248222186857:=0
def tw460382461980144009:=0
def tw11105213971930379657:=0
def tw15679242925573833129:=0
def tw13339764608956132809:=0
def tw4903400681769404937:=0
def tw5358965597725840905:=0
def tw8803488303745936041:=0
def tw13531745323315737257:=0
def tw5411833166681892585:=0
def tw13967838372306122505:=0
def tw15110664868207535913:=0
def tw16788007990790890313:=0
def tw3362819063656596297:=0
def tw4298858223661519721:=0
def tw643800393008914281:=0
def tw5231865421980819337:=0
def tw1793632093927025577:=0
def tw5528708190897437609:=0
def tw5574428470446862346:=0
def tw47226078170492970:=0
def tw2934847809241115690:=0
def tw7788699846494128202:=0
def tw8942459705235858506:=0
def tw11650178105794200682:=0
def tw12905634069503973482:=0
def tw4538396340152436874:=0
def tw17897674654853702826:=0
def tw9377844891084703914:=0
def tw16194559336696404138:=0
def tw10044001043329956106:=0
def tw15867072980907801898:=0
def tw14717749173415774570:=0
def tw12004398459559144906:=0
def tw3056657781921904074:=0
def tw6984464344751035914:=0
def tw12274216035492235818:=0
def tw10970233722688926250:=0
def tw5555285251939069642:=0
def tw11000366808973088682:=0
def tw14191851102772370378:=0
def tw17590638345376567274:=0
def tw14935843716676400139:=0
def tw7991082788950595595:=0
def tw17432350921341470763:=0
def tw2001344118052141131:=0
def tw2871940871040049291:=0
def tw1007527963889543339:=0
def tw5002012820685251755:=0
def tw7492567283147114731:=0
def tw1402298554421448939:=0
def tw3752606060705224939:=0
def tw6936138001917996299:=0
def tw11009495362561051947:=0
def tw14211797984599862635:=0
def tw5648323402082770443:=0
def tw17540210803045886507:=0
def tw3928520801216512619:=0
def tw9641847683074314891:=0
def tw8366913300806548171:=0
def tw6619462316877213387:=0
def tw8227695311539431147:=0
def tw1937525274231795531:=0
def tw12408820358782483339:=0
def tw2610402751506798507:=0
def tw2854068772611578795:=0
def tw15403579703852645323:=0
def tw3275216515044434923:=0
def tw1861149892356520972:=0
def tw17539516708526636044:=0
def tw11974521521303658540:=0
def tw14480881747123152972:=0
def tw49612948993053804:=0
def tw2359242985844243660:=0
def tw9286666033229790444:=0
def tw205666625817071948:=0
def tw7540437036159837548:=0
def tw4353544381235464620:=0
def tw8938723539478772268:=0
def tw11916470714625920620:=0
def tw10039645381686764140:=0
def tw14873642290842060396:=0
def tw6676741708329905772:=0
def tw111053344650027660:=0
def tw490731694309343948:=0
def tw15542744308638395148:=0
def tw15918063392672637740:=0
def tw11100895391137327916:=0
def tw8106074706429608844:=0
def tw6956438823194436524:=0
def tw16738940984362978220:=0
def tw17113206194644765644:=0
def tw3379434354070000620:=0
def tw12323138871150797804:=0
def tw2132336084787012749:=0
def tw5126555477221558445:=0
def tw2942222880297874637:=0
def tw1010214730726749421:=0
def tw5393305545641185517:=0
def tw2182314034211558669:=0
def tw11815528641795576077:=0
def tw1327004125481737645:=0
def tw6582939107614083533:=0
def tw5114381198053903853:=0
def tw11040933700549871117:=0
def tw7712486154353884685:=0
def tw14131658558676620909:=0
def tw1110450389746355885:=0
def tw7126779571664690925:=0
def tw15789888663245983629:=0
def tw261156854444503981:=0
def tw16429032729719662509:=0
def tw3170806128282355661:=0
def tw3466031901320164333:=0
def tw15075998635217316910:=0
def tw4484516782130572430:=0
def tw1384600068166799502:=0
def tw12242588230866398446:=0
def tw13228441612161362222:=0
def tw15831484931511933262:=0
def tw14499289858158586190:=0
def tw17571287538034480494:=0
def tw7195991430210144622:=0
def tw8813487826248609166:=0
def tw10414329486222356878:=0
def tw15673611652144905646:=0
def tw921511337205984686:=0
def tw14432888234541226478:=0
def tw10612470647558279694:=0
def tw13829589354093789742:=0
def tw14096558083076118094:=0
def tw6643255957914039918:=0
def tw6521575385790763630:=0
def tw2906540861134860974:=0
def tw5674018910551759598:=0
def tw8341144068789981966:=0
def tw3276916319076850478:=0
def tw3932493834365608750:=0
def tw13510187876582209326:=0
def tw10532808010041797486:=0
def tw2581873023392849838:=0
def tw4229394817408498799:=0
def tw2594431424934133903:=0
def tw12899767030312292559:=0
def tw16780639279946278127:=0
def tw14266085790740664559:=0
def tw8229346867550549263:=0
def tw9461356249185081679:=0
def tw2100310586841644463:=0
def tw15507270487631558063:=0
def tw9032815244757704143:=0
def tw17949110080099253807:=0
def tw8653173409238266511:=0
def tw4501539402404979343:=0
def tw5107739554678107791:=0
def tw15545533845697488559:=0
def tw287151398086135503:=0
def tw390504318984845007:=0
def tw18230678167221436143:=0
def tw7790209343170250543:=0
def tw956863345755394863:=0
def tw1855155809821044527:=0
def tw2642612295013793647:=0
def tw3756501721458152335:=0
def tw6359095424154054575:=0
def tw9348465571648725935:=0
def tw17423888685360812015:=0
def tw14000470839594045423:=0
def tw2890110234019982319:=0
def tw12429752170177396719:=0
def tw6306260768044809264:=0
def tw1708754728340080720:=0
def tw4532154646177503312:=0
def tw12001763383148689584:=0
def tw1380475094256019632:=0
def tw3985448332297614576:=0
def tw1223583156776566000:=0
def tw6084448406213509392:=0
def tw15634403194401900816:=0
def tw4797682207087556944:=0
def tw2599576338231542192:=0
def tw6651591944029499824:=0
def tw6586285696717760976:=0
def tw2711939277011287504:=0
def tw10622130303624805872:=0
def tw6759247994157183504:=0
def tw13557431430611031728:=0
def tw1212498596041261808:=0
def tw3992946282262248272:=0
def tw12414322928663543632:=0
def tw10044645560247500624:=0
def tw11705787179594004336:=0
def tw15487802712172281776:=0
def tw2564512721540407313:=0
def tw6461803397228357649:=0
def tw7368403061952359505:=0
def tw17927412938189370481:=0
def tw7556819789679136945:=0
def tw6071330530404921521:=0
def tw6598395646526952689:=0
def tw14944817433443190033:=0
def tw12405262559495931185:=0
def tw2833406453257940305:=0
def tw5072122079413149041:=0
def tw8818305687460477329:=0
def tw180867673836773841:=0
def tw1725293574712377841:=0
def tw11185643296286097937:=0
def tw17270376129083247153:=0
def tw12811247445365005873:=0
def tw11468057677475092113:=0
def tw12636112873570674353:=0
def tw9056650958877373105:=0
def tw15538167080591314673:=0
def tw3838435142753410833:=0
def tw520323083678100369:=0
def tw11658551889409285041:=0
def tw3484791072317197297:=0
def tw9998064637689237586:=0
def tw2228796358525020402:=0
def tw8969897675973374226:=0
def tw14445327993447275794:=0
def tw17255999744582011314:=0
def tw16601983025071974866:=0
def tw5103542767577019890:=0
def tw180693143163064946:=0
def tw6691843509284787826:=0
def tw16312909015270580850:=0
def tw15228115681137735314:=0
def tw7453986151412976274:=0
def tw10524958397102482066:=0
def tw2549895961981655730:=0
def tw11431615321413059346:=0
def tw465645953711339378:=0
def tw15965721228234488690:=0
def tw5630597158161198994:=0
def tw9960685588776688594:=0
def tw1035993089240310770:=0
def tw15473149870918461459:=0
def tw9051053311592215603:=0
def tw17418415871479902259:=0
def tw11581214019293353043:=0
def tw6328626214592308339:=0
def tw18054943106793237619:=0
def tw13294087802038665363:=0
def tw602784102644889779:=0
def tw13776463904826214611:=0
def tw14051615369637660947:=0
def tw1084309576203486515:=0
def tw1875630007697463699:=0
def tw7810392469200057843:=0
def tw16886871713865275987:=0
def tw5754221828287139443:=0
def tw3613734000811377331:=0
def tw17764100390168245971:=0
def tw3124879160210930419:=0
def tw5482506826106331987:=0
def tw13089252173481637843:=0
def tw2972337862995967955:=0
def tw17722300961041564659:=0
def tw11855147403708223475:=0
def tw13923561210350687219:=0
def tw6559192935182206996:=0
def tw15141545486888153140:=0
def tw15146889161641932852:=0
def tw12229245051366304820:=0
def tw13467735156938001492:=0
def tw11519729473926230100:=0
def tw8662418029637664884:=0
def tw862122555487992948:=0
def tw17902254015461836948:=0
def tw8935244603097680116:=0
def tw3986295492021457140:=0
def tw3624567386337216788:=0
def tw1218714465594719508:=0
def tw502303224999828820:=0
def tw18440905208599685652:=0
def tw6132274572696853044:=0
def tw10374800046542879284:=0
def tw14066879290191701588:=0
def tw12112772984459368052:=0
def tw10696553659981021844:=0
def tw2716075996492226228:=0
def tw18366514744249017012:=0
def tw16143384287370178228:=0
def tw5585372625158414132:=0
def tw18189416149466535828:=0
def tw7062034910758523828:=0
def tw15513891127725303796:=0
def tw13603733446328212597:=0
def tw8914497028215664757:=0
def tw12376200077951126677:=0
def tw3666739178853234837:=0
def tw7684408034329201845:=0
def tw14155077181892611317:=0
def tw15044165442781383957:=0
def tw6013958279181183253:=0
def tw17859025962158505237:=0
def tw6368783602228063509:=0
def tw5895518509706026293:=0
def tw15047327862593715509:=0
def tw10656387808908857685:=0
def tw11423658060864776533:=0
def tw12450468323689447861:=0
def tw472580937164301781:=0
def tw12066317820774274517:=0
def tw6142381696530914901:=0
def tw13134579847524306517:=0
def tw6102497847915185813:=0
def tw14006105181098888885:=0
def tw11810655838231833397:=0
def tw13328302928157622069:=0
def tw8919434822532168533:=0
def tw5026120525677014901:=0
def tw6794040852498339733:=0
def tw9506116229628170165:=0
def tw15449752394546271157:=0
def tw17866426695999942581:=0
def tw16590429601877458869:=0
def tw2856010713851668437:=0
def tw1427692588998355925:=0
def tw11975159756635919349:=0
def tw8470629407135703126:=0
def tw11716137665441768534:=0
def tw2970205394538407126:=0
def tw2113763529077553398:=0
def tw7424067184769248534:=0
def tw3600622990471370134:=0
def tw11926458763392925078:=0
def tw16866723787669564822:=0
def tw10355708052250081718:=0
def tw15487076688540956150:=0
def tw16033000868457594422:=0
def tw10685555172670672470:=0
def tw10056275626742305366:=0
def tw15734002615370438390:=0
def tw11294755797910427414:=0
def tw7256359948094514966:=0
def tw6550222052366566262:=0
def tw14492968881676700534:=0
def tw12085216283247228822:=0
def tw4410366857613770646:=0
def tw6693226438990603190:=0
def tw8803323619334119382:=0
def tw2649358665856478166:=0
def tw13163749698890057751:=0
def tw16502117091642957943:=0
def tw11487727145849712759:=0
def tw5309451589339370647:=0
def tw13651034271110267063:=0
def tw5213433171867378871:=0
def tw6277669847235694871:=0
def tw3660577207354301751:=0
def tw102222198542883159:=0
def tw10318432008153035127:=0
def tw16262248835877139831:=0
def tw11261524724592693655:=0
def tw10453035982865641911:=0
def tw5693715162072236471:=0
def tw17624696969094286807:=0
def tw18217204869357956663:=0
def tw1096790392616027767:=0
def tw9226104838702334615:=0
def tw4328667777409926807:=0
def tw17055687449335493271:=0
def tw499428652117492407:=0
def tw6771844209765977783:=0
def tw382845100975691447:=0
def tw5334218309190301431:=0
def tw7978024375142148919:=0
def tw4828486648923267895:=0
def tw14313648681407568759:=0
def tw8053320332062123895:=0
def tw3140148771734533144:=0
def tw2402260756815967256:=0
def tw5234988693919849592:=0
def tw10783823059458085080:=0
def tw13575201424667343064:=0
def tw8770521682479197432:=0
def tw1566235805048242456:=0
def tw726000483109142808:=0
def tw18230992779804107064:=0
def tw773577198950781272:=0
def tw17620604619063610776:=0
def tw3204607861022561720:=0
def tw10432164932208704952:=0
def tw2679679831668020664:=0
def tw14163763966721789400:=0
def tw16924060247242313176:=0
def tw11393046196713063960:=0
def tw7581449536575758872:=0
def tw2183852269670448760:=0
def tw15119490782595637912:=0
def tw12999099527305456280:=0
def tw1385287497013812984:=0
def tw16148343536265797432:=0
def tw6136885195876953912:=0
def tw18126564110753545112:=0
def tw387131793561021336:=0
def tw15379921857700356024:=0
def tw5089024465691002937:=0
def tw14246505586664567897:=0
def tw14487403554352436345:=0
def tw13145367129568516217:=0
def tw10683735423020248217:=0
def tw13779263452629726361:=0
def tw13804798935951124665:=0
def tw11438230197954200761:=0
def tw11821762100931502361:=0
def tw4365493827170500953:=0
def tw13777932743724010841:=0
def tw6779309848148986297:=0
def tw15523121177349983705:=0
def tw17665695003846056409:=0
def tw17638671410065423865:=0
def tw13483399832975688185:=0
def tw1571004453024032281:=0
def tw18204383470963404377:=0
def tw5475281172051639993:=0
def tw17527865827823990489:=0
def tw15365409562610551513:=0
def tw6926808292274429657:=0
def tw13355115495296687865:=0
def tw18302575815269700377:=0
def tw14401609482429036409:=0
def tw1226860267002873753:=0
def tw10573848073041796089:=0
def tw7954706944473883641:=0
def tw2302204634553322714:=0
def tw810365996010033434:=0
def tw7520314034506126650:=0
def tw9747727052351789434:=0
def tw14706784710941704634:=0
def tw14408177301547423226:=0
def tw9376332125682618938:=0
def tw9256767042926923354:=0
def tw12314483954587334330:=0
def tw16078843929429946074:=0
def tw16618542030936424154:=0
def tw4596667405443039994:=0
def tw5020846074387043098:=0
def tw11251078658529066874:=0
def tw13238400526661155738:=0
def tw8528052657631735802:=0
def tw3523666551526391802:=0
def tw17269379799866160155:=0
def tw4292113043025357915:=0
def tw7663604783338041531:=0
def tw8019596270711806299:=0
def tw4776983245768112571:=0
def tw16759310398385938907:=0
def tw1222848331054410235:=0
def tw2115654197627712091:=0
def tw5637577475459736219:=0
def tw7814107738643279579:=0
def tw14702283700499199739:=0
def tw169093593685335867:=0
def tw10484293345636297531:=0
def tw4170145883010729819:=0
def tw6763445969548301147:=0
def tw18018005935234900859:=0
def tw497831554520648603:=0
def tw15430296238596406171:=0
def tw754105758254993436:=0
def tw5671487919944547356:=0
def tw959660515974276188:=0
def tw1730546799279409276:=0
def tw7780581996493098108:=0
def tw9012577552221124764:=0
def tw15380359843463887004:=0
def tw16438483734265761980:=0
def tw945117823348187356:=0
def tw6566262729566459164:=0
def tw11738183184382605596:=0
def tw13486899543560608156:=0
def tw910152415986850300:=0
def tw15389704022382946876:=0
def tw14029799014596685404:=0
def tw1235788533100597884:=0
def tw11271281764660309628:=0
def tw7407802676011016924:=0
def tw10162984837518140316:=0
def tw15156659911780217852:=0
def tw200517437141021725:=0
def tw4262788791916422205:=0
def tw17659196133073512509:=0
def tw12895614182255087773:=0
def tw8923576315708832925:=0
def tw17014016826418933949:=0
def tw9755476507506001085:=0
def tw8339038787192918333:=0
def tw861064354295787837:=0
def tw6475197989197763965:=0
def tw7308339493444920765:=0
def tw10241443663632361981:=0
def tw3959645832040378909:=0
def tw9308248544620686013:=0
def tw12467738924889750205:=0
def tw2923600009105342173:=0
def tw9663338547888855869:=0
def tw4057979000623223613:=0
def tw16628110156305494909:=0
def tw15430704833617040285:=0
def tw6029819790110024605:=0
def tw16452255025048045501:=0
def tw5703852107684192286:=0
def tw1000836162073505822:=0
def tw11283545061272032318:=0
def tw6005482930956892286:=0
def tw2320284138309649566:=0
def tw168572696701690014:=0
def tw169107978450020542:=0
def tw12290641138408612030:=0
def tw17045559117485742334:=0
def tw5386336592854485278:=0
def tw15680570010928791902:=0
def tw8587925277991915870:=0
def tw2447634961737541054:=0
def tw15309607275247669822:=0
def tw13280472118415893150:=0
def tw13797768058816157342:=0
def tw5419562033742772894:=0
def tw14901850123318597342:=0
def tw4426145887595616990:=0
def tw9918101167366296414:=0
def tw10193353183937041278:=0
def tw1496379158805264254:=0
def tw2003552974259174302:=0
def tw6283733439170722718:=0
def tw5272314667731360702:=0
def tw3968998638336431070:=0
def tw15679921210864041982:=0
def tw13755648208561179711:=0
def tw1497931363407800383:=0
def tw3184621357765178463:=0
def tw459677080123599967:=0
def tw3968309853596723359:=0
def tw12325104562492779807:=0
def tw9421332196325448063:=0
def tw18171013750252857727:=0
def tw571713089180995103:=0
def tw10008360523403478591:=0
def tw4318880238667952703:=0
def tw9935708811003259679:=0
def tw2063196845434260287:=0
def tw6388617539602449311:=0
def tw17466845972861342623:=0
def tw17610673399067429890:=0
end PySem.W.Fast
namespace My
open PySem L2 L2.MM
noncomputable section
def Zfw:SM:=(mIf (mOr (ZD (mOp ZdS (zC "Host" "listens" zG (mOp ixM (Zd 1) (mC (.int 0))) (Zc (Zd 3) Zi)) (mC .non))) (ZD (mOp ZdS (zC "Host" "taken_end" ZH (mOp ixM (Zd 1) (mC (.int 0))) (Zc (Zd 3) Zi)) (mC .non)))) (ZM (mC (.bl false))) ZK)
def Zji:SM:=(ZcH (mIn (Zd 2)) (gNm 3) Zfw)
def b_l_law_3:SM:=(ZcH (Zci (Zc (mOp za (mC (.int 1)) (mOp Zbo (mCB ZaR (Zc (Zd 0) (Zc (mC (.int 4)) Zi))) (mC (.int 4)))) Zi)) (gNm 5) (Zr (Z1 6 (mOp za (mOp ZcY (mC (.int 100)) (Zd 5)) (mOp Zbo (mCB ZaR (Zc (Zd 0) (Zc (mOp za (mC (.int 5)) (Zd 5)) Zi))) (mC (.int 100)))))
  (Zr (Z1 7 (mOp ixM (Zd 2) (mOp Zbo (mCB ZaR (Zc (Zd 0) (Zc (mOp za (mC (.int 10)) (Zd 5)) Zi))) (mC (.int 2)))))
  (Zc1 4 (ZbA (Zc (zC "Host" "calls" ZaU (mOp ixM (Zd 1) (mC (.int 1))) (Zc (Zd 6) (Zc (Zd 7) Zi))) (Zc (Zd 7) Zi)))))))
def Zg4:SM:=(mIf (Zeb (zR (mCB l_flow (Zc (Zd 1) (Zc (mCB ZaR (Zc (Zd 0) (Zc (mC (.int 15)) Zi))) Zi))))) (ZM (mC (.bl false))) ZK)
def Zg3:SM:=(mIf (mOr (ZD (mOp isM (Zd 10) (mC .non))) (mOr (ZD (mOp neM (mCB Zes (Zc (Zd 10) Zi)) (mC (.str "open")))) (ZD (mOp neM (mCB Zes (Zc (mOp ixM (Zd 9) (mC (.int 0))) Zi)) (mC (.str "open")))))) (ZM (mC (.bl false))) ZK)
def b_l_law_6:SM:=(ZcH (mIn (ZcP (mIn (Zd 4)) [3] (ZD (mOp eqM (mOp ixM (Zd 0) (mC (.int 1))) (Zd 1))) (Zd 0))) (gNm 9) (Zr (Z1 10 (zC "Host" "taken_end" ZH (mOp ixM (Zd 1) (mC (.int 0))) (Zc (Zd 3) Zi)))
   (Zr Zg3
   (Zc1 8 (ZbA (Zc (mOp ixM (Zd 9) (mC (.int 0))) (Zc (Zd 10) Zi)))))))
def Zfv:SM:=(mIf (ZD (mOp ZdS (zC "Host" "taken_end" ZH (mOp ixM (Zd 1) (mC (.int 0))) (Zc (Zd 3) Zi)) (mC .non))) (ZM (mC (.bl false))) ZK)
def b_l_law_8:SM:=(ZcH (mIn (Zd 2)) (gNm 3) (Zr (mFreeze 4 b_l_law_6)
  Zfv))
def b_l_law_9:SM:=(ZcH (Zci (Zc (mCB lenG (Zc (Zd 8) Zi)) Zi)) (gNm 5) (Zr (mFreeze 8 (zn (mCB p_write (Zc (mOp ixM (mOp ixM (Zd 8) (Zd 5)) (mC (.int 0))) (Zc (mOp ZcY (ZcO (Zc (Zd 5) Zi)) (mOp za (mC (.int 1)) (mOp Zbo (mCB ZaR (Zc (Zd 0) (Zc (mOp za (mC (.int 20)) (Zd 5)) Zi))) (mC (.int 16))))) Zi)))))
  (mFreeze 8 (zn (mCB p_write (Zc (mOp ixM (mOp ixM (Zd 8) (Zd 5)) (mC (.int 1))) (Zc (mOp ZcY (ZcO (Zc (mOp za (mC (.int 50)) (Zd 5)) Zi)) (mOp za (mC (.int 1)) (mOp Zbo (mCB ZaR (Zc (Zd 0) (Zc (mOp za (mC (.int 30)) (Zd 5)) Zi))) (mC (.int 16))))) Zi)))))))
def b_l_law_10:SM:=(mIf (Zeb (zR (mCB l_flow (Zc (Zd 1) (Zc (mCB ZaR (Zc (Zd 0) (Zc (mC (.int 16)) Zi))) Zi))))) (ZM (mC (.bl false))) ZK)
def ZfU:SM:=(mIf (ZD (mOp neM (mCB ZdP (Zc (mOp ixM (mOp ixM (Zd 8) (Zd 5)) (mC (.int 1))) (Zc (mC (.int 99)) Zi))) (mOp ZcY (ZcO (Zc (Zd 5) Zi)) (mOp za (mC (.int 1)) (mOp Zbo (mCB ZaR (Zc (Zd 0) (Zc (mOp za (mC (.int 20)) (Zd 5)) Zi))) (mC (.int 16))))))) (ZM (mC (.bl false))) ZK)
def ZfT:SM:=(mIf (ZD (mOp neM (mCB ZdP (Zc (mOp ixM (mOp ixM (Zd 8) (Zd 5)) (mC (.int 0))) (Zc (mC (.int 99)) Zi))) (mOp ZcY (ZcO (Zc (mOp za (mC (.int 50)) (Zd 5)) Zi)) (mOp za (mC (.int 1)) (mOp Zbo (mCB ZaR (Zc (Zd 0) (Zc (mOp za (mC (.int 30)) (Zd 5)) Zi))) (mC (.int 16))))))) (ZM (mC (.bl false))) ZK)
def Ziu:SM:=(ZcH (Zci (Zc (mCB lenG (Zc (Zd 8) Zi)) Zi)) (gNm 5) (Zr (mFreeze 8 ZfU)
  (mFreeze 8 ZfT)))
def ZjV:SM:=(Zr (Z1 1 (ZcO (Zc (mCB (mkG "Host" ZaQ) (Zc (mCB ZaR (Zc (Zd 0) (Zc (mC (.int 0)) Zi))) Zi)) (Zc (mCB (mkG "Host" ZaQ) (Zc (mOp Zdc (mOp Zdc (mC (.int 4294967296)) (mC (.int 1))) (mOp Zbo (mCB ZaR (Zc (Zd 0) (Zc (mC (.int 1)) Zi))) (mC (.int 100000)))) Zi)) Zi))))
 (Zr (Z1 2 (ZcO (Zc (mOp Zbo (mCB ZaR (Zc (Zd 0) (Zc (mC (.int 2)) Zi))) (mC (.int 30000))) (Zc (mOp za (mC (.int 30000)) (mOp Zbo (mCB ZaR (Zc (Zd 0) (Zc (mC (.int 3)) Zi))) (mC (.int 30000)))) Zi))))
 (Zr Zji
 (Zr (ZeA 4 Zi)
 (Zr b_l_law_3
 (Zr Zg4
 (Zr (ZeA 8 Zi)
 (Zr b_l_law_8
 (Zr (mFreeze 8 b_l_law_9)
 (Zr b_l_law_10
 (Zr (mFreeze 8 Ziu)
 (ZM (mC (.bl true))))))))))))))
def Zmf:GM:=ZO 1 11 ZjV
section
variable (n:Nat) (w:Nat→Bool)
def Za9 (b:Bool):List Nat:=(List.range n).filter fun i=>w i == b
def Lp:List Nat:=Za9 n w false++Za9 n w true
def pos40 (i:Nat):Nat:=(Lp n w).findIdx (fun z=>z == i)
end
section
variable {n:Nat} {w:Nat→Bool}
theorem fl_mem {b:Bool} {i:Nat}:i∈Za9 n w b↔i<n∧w i=b:=by
 unfold Za9
 rw [YT,Jg]
 simp
theorem Lp_mem {i:Nat}:i∈Lp n w↔i<n:=by
 unfold Lp
 rw [YK,fl_mem,fl_mem]
 cases w i<;>simp
theorem Zmp (w:Nat→Bool):∀l:List Nat,(l.filter fun i=>w i == false).length+(l.filter fun i=>w i == true).length=l.length
 | []=>rfl
 | x::l=>by
  have:=Zmp w l
  cases h:w x<;>simp [Jl,h] at this ⊢<;>omega
theorem Zg5:(Lp n w).length=n:=by
 unfold Lp Za9
 rw [Ym,Zmp,Y4]
theorem Zvr:(Lp n w).Pairwise (fun a b=>a≠b):=by
 have r:(List.range n).Pairwise (fun a b=>a≠b):=List.nodup_range
 unfold Lp
 rw [List.pairwise_append]
 refine ⟨r.filter _,r.filter _,fun a ha b hb z=>?_⟩
 subst z
 have h1:=(fl_mem.mp ha).2
 have h2:=(fl_mem.mp hb).2
 rw [h1] at h2
 cases h2
theorem Zjr {i:Nat} (hi:i<n):pos40 n w i<n:=by
 have:=List.findIdx_lt_length_of_exists (xs:=Lp n w) (p:=fun z=>z == i) ⟨i,Lp_mem.mpr hi,by simp⟩
 rw [Zg5] at this
 exact this
theorem Zoi {i:Nat} (hi:i<n):(Lp n w)[pos40 n w i]?=some i:=by
 have h:=Zjr (w:=w) hi
 have hl:pos40 n w i<(Lp n w).length:=by rw [Zg5]; exact h
 have:=List.findIdx_getElem (xs:=Lp n w) (p:=fun z=>z == i) (w:=hl)
 rw [List.getElem?_eq_getElem hl]
 congr 1
 show (Lp n w)[(Lp n w).findIdx (fun z=>z == i)]=i
 simpa using this
theorem Zk5 {k i:Nat} (h:(Lp n w)[k]?=some i):i<n∧pos40 n w i=k:=by
 have hi:i<n:=Lp_mem.mp (List.mem_of_getElem? h)
 refine ⟨hi,?_⟩
 have h2:=Zoi (w:=w) hi
 obtain ⟨l1,e1⟩:=Ya.mp h
 obtain ⟨l2,e2⟩:=Ya.mp h2
 have pw:=List.pairwise_iff_getElem.mp (Zvr (n:=n) (w:=w))
 rcases Nat.lt_trichotomy (pos40 n w i) k with q | q | q
 ·exact absurd (e2.trans e1.symm) (pw _ _ l2 l1 q)
 ·exact q
 ·exact absurd (e1.trans e2.symm) (pw _ _ l1 l2 q)
end
theorem ZrA (x k:Int) (h:0≤k∧k≤100) (θ:Sto):ZcY (il [x]) (.int k) θ=.ok (il (List.replicate k.toNat x)) θ:=by
 show ZcY (.lst [.int x]) (.int k) θ=_
 rw [Zgh,if_pos (by simp [BIG]; omega)]
 congr 1
 unfold il
 congr 1
 induction k.toNat with
 | zero=>rfl
 | succ n ih=>rw [Yx,Yx,YG,ih]; rfl
theorem ZmD {p:PQ} (h:p.Ok) {x:XE} {e:Zn} (r:ZgC p x e) (o:ZcQ x=true):ZgC p (ZkV x) (ZdO e p.d):=by
 cases x with
 | raw=>cases o
 | scu q=>cases o
 | ae A=>
  obtain ⟨st,una,nxt,beh,rcv,osyn,oa,since,wait,tries⟩:=A
  simp only [ZcQ,Yl,decide_eq_true_eq] at o
  obtain ⟨⟨⟨⟨o1,o2⟩,o3⟩,o4⟩,o5⟩:=o
  subst o1 o2 o3 o4 o5
  obtain ⟨w,tl,bq,mo,si,wa,tr,rfl,hw,ht⟩:=(show Rep p.a p.b p.f p.g p.d p.d' _ e from r).ex
  have dl:=h.d.len
  have c1:Zbh p.d none (some (64-((0:Nat):Int)))=p.d:=ZhE (by omega)
  have pp:Zs (Zs p.f 1) p.d.length=Zs p.f (1+p.d.length):=Zcm _ _ _
  refine (⟨w,tl,bq,mo,si,wa,tr,?_,hw,ht⟩:Rep p.a p.b p.f p.g p.d p.d' ⟨.op,1,1,2,1,osyn,oa,since,wait,tries⟩ _)
  simp [ZdO,Zgv,Zj0,cE,stS,dc,pp] at c1 ⊢
  simp [c1,pp]
theorem Zps {p:PQ} {x:XE} {e:Zn} (r:ZgC p x e) (o:ZjD x=true):e.come=p.d':=by
 cases x with
 | raw=>cases o
 | scu q=>cases o
 | ae A=>
  obtain ⟨w,tl,bq,mo,si,wa,tr,rfl,hw,ht⟩:=(show Rep p.a p.b p.f p.g p.d p.d' A e from r).ex
  simp only [ZjD,Yl,decide_eq_true_eq] at o
  show (if A.rcv=2 then p.d' else [])=_
  rw [if_pos o.2]
theorem Zpr {p:PQ} {x:XE} {e:Zn} (r:ZgC p x e) (o:ZcQ x=true):e.state=.opn:=by
 cases x with
 | raw=>cases o
 | scu q=>cases o
 | ae A=>
  obtain ⟨w,tl,bq,mo,si,wa,tr,rfl,hw,ht⟩:=(show Rep p.a p.b p.f p.g p.d p.d' A e from r).ex
  simp only [ZcQ,Yl,decide_eq_true_eq] at o
  show stS A.st=_
  rw [o.1.1.1.1]
  rfl
def sA (c0 c1:Int):Sto:=[.ins "Host" (hf 1 2 3 c0 0),.lst [],.dT [],.dK [],.ins "Host" (hf 5 6 7 c1 0),.lst [],.dT [],.dK []]
def sB (c0 c1 p0:Int):Sto:=[.ins "Host" (hf 1 2 3 c0 0),.lst [],.dT [],.dK [(.inl p0,.ref 8)],.ins "Host" (hf 5 6 7 c1 0),.lst [],.dT [],.dK [],.lst []]
theorem Zvc (c0:Int):mkG "Host" ZaQ [.int c0] []=.ok (.ref 0) [.ins "Host" (hf 1 2 3 c0 0),.lst [],.dT [],.dK []]:=rfl
theorem Zvb (c0 c1:Int):mkG "Host" ZaQ [.int c1] [.ins "Host" (hf 1 2 3 c0 0),.lst [],.dT [],.dK []]=.ok (.ref 4) (sA c0 c1):=rfl
section
variable {c0 c1 p0 p1:Int}
theorem ZAo:zG [.ref 0,.int p0] (sA c0 c1)=.ok .non (sB c0 c1 p0):=by
 have a1:∀θ,θ=sA c0 c1→fldK ["Host"] "untaken" (.ref 0) θ=.ok (.ref 3) θ:=by rintro _ rfl; rfl
 have v:valD [] (.inl p0)=none:=rfl
 have k1:dkOf (sA c0 c1) (.ref 3)=some (3,[]):=rfl
 have k2:dkOf (sA c0 c1++[Cell.lst []]) (.ref 3)=some (3,[]):=rfl
 have a2:fldK ["Host"] "untaken" (.ref 0) (sA c0 c1++[Cell.lst []])=.ok (.ref 3) (sA c0 c1++[Cell.lst []]):=rfl
 have l:(sA c0 c1).length=8:=rfl
 have u:∀d,putD [] (.inl p0) d=[(.inl p0,d)]:=fun _=>rfl
 have z:(sA c0 c1++[Cell.lst []]).set 3 (.dK [(.inl p0,.ref 8)])=sB c0 c1 p0:=rfl
 simp [zG,Zcy,ZbT,a1,k1,keyD,v,a2,k2,l,u,z]
def H0 (c0 c1 p0 p1:Int):HS:=⟨c0,0,[],[],c1,0,[],[],p0,p1,[],[]⟩
theorem ZAn (h:p0<p1):zG [.ref 0,.int p1] (sB c0 c1 p0)=.ok .non (st (H0 c0 c1 p0 p1) []):=by
 have a1:fldK ["Host"] "untaken" (.ref 0) (sB c0 c1 p0)=.ok (.ref 3) (sB c0 c1 p0):=rfl
 have ne:¬p0=p1:=by omega
 have v:valD [((.inl p0:Key),D.ref 8)] (.inl p1)=none:=by simp [valD,ne]
 have k1:dkOf (sB c0 c1 p0) (.ref 3)=some (3,[(.inl p0,.ref 8)]):=rfl
 have k2:dkOf (sB c0 c1 p0++[Cell.lst []]) (.ref 3)=some (3,[(.inl p0,.ref 8)]):=rfl
 have a2:fldK ["Host"] "untaken" (.ref 0) (sB c0 c1 p0++[Cell.lst []])=.ok (.ref 3) (sB c0 c1 p0++[Cell.lst []]):=rfl
 have l:(sB c0 c1 p0).length=9:=rfl
 have u:∀d,putD [((.inl p0:Key),D.ref 8)] (.inl p1) d=[(.inl p0,.ref 8),(.inl p1,d)]:=fun d=>by simp [putD,ne]
 have z:(sB c0 c1 p0++[Cell.lst []]).set 3 (.dK [(.inl p0,.ref 8),(.inl p1,.ref 9)])=st (H0 c0 c1 p0 p1) []:=rfl
 simp [zG,Zcy,ZbT,a1,k1,keyD,v,a2,k2,l,u,z]
end
open Classical in
theorem Zmu {S:Src} {all:List D} {tst:D→Sto→R Bool} {elt:D→Sto→R D} {θ:Sto} (p:D→Bool) (hS:S.items θ=some all):∀(xs acc:List D),(∀x∈xs,tst x θ=.ok (p x) θ∧elt x θ=.ok x θ)→acc.length+xs.length≤BIG→ZdT S all tst elt xs acc θ=.ok (.lst (acc++xs.filter p)) θ
 | [],acc,_,hl=>by
  unfold ZdT
  rw [if_pos ⟨hS,by simpa using hl⟩,List.filter_nil,YC]
 | x::xs,acc,h,hl=>by
  obtain ⟨h1,h2⟩:=h x (Ys)
  have h':∀y∈xs,tst y θ=.ok (p y) θ∧elt y θ=.ok y θ:=fun y hy=>h y (Yq _ hy)
  unfold ZdT
  rw [if_pos hS,h1,R.bind_ok]
  rw [Yb] at hl
  cases hp:p x with
  | true=>
   rw [if_pos rfl,h2,R.bind_ok,Zmu p hS xs (acc++[x]) h' (by rw [Ym,Y7]; omega),YN hp,Yz]
   rfl
  | false=>
   rw [if_neg (by simp),Zmu p hS xs acc h' (by omega),YM (by simp [hp])]
theorem ZgF {θ:Sto} {un:List (Key×D)} {k:Nat} {p:Int} (h1:fldK ["Host"] "untaken" (.ref 0) θ=.ok (.ref 3) θ) (h2:dkOf θ (.ref 3)=some (3,un)) (h3:valD un (.inl p)=some (.ref k)) (h4:Zbb θ (.ref k)=some []):ZH [.ref 0,.int p] θ=.ok .non θ:=by
 have it:∀(tst:TMr) (elt:EM) (y:Sl),ZcP (mIn (Zh0 (Zz ["Host"] "untaken" (Zd 0)) (Zd 1))) [] tst elt [.val (.ref 0),.val (.int p),y] θ=.ok (.lst []) θ:=by
  intro tst elt y
  simp [ZcP,Zh0,h1,h2,keyD,h3,mIn,seqOf,h4,Src.items,ZdT]
 have ln:lenG [.lst []] θ=.ok (.int 0) θ:=rfl
 simp [ZH,ZaY,Zax,Zbp,h1,h2,keyD,h3,it,ln]
theorem ZmO {H:HS} {es:List Zn} {w:Bool} {j:Nat} {r:List D} (hp:H.p0<H.p1) (hu:unt H w=.ref (10+4*j)::r) (hl:r.length<1000) (ho:∀d∈unt H w,∃j' e',d=.ref (10+4*j')∧es[j']?=some e'∧e'.state=.opn):ZH [.ref 0,.int (prt H w)] (st H es)=.ok (.ref (10+4*j)) (st (ZiD H w r) es):=by
 have v:=ZhJ hp w
 have it:∀y:Sl,ZcP (mIn (Zh0 (Zz ["Host"] "untaken" (Zd 0)) (Zd 1))) [] (ZD (mOp ZdQ (Zz ["End"] "state" (Zd 0)) (ZbA (Zc (mC (.str "listen")) (Zc (mC (.str "syn come")) (Zc (mC (.str "closed")) Zi)))))) (Zd 0) [.val (.ref 0),.val (.int (prt H w)),y] (st H es)=.ok (.lst (unt H w)) (st H es):=by
  intro y
  have src:mIn (Zh0 (Zz ["Host"] "untaken" (Zd 0)) (Zd 1)) [.val (.ref 0),.val (.int (prt H w)),y] (st H es)=.ok (.seq (.ref (Zjj w))) (st H es):=by
   simp [mIn,Zh0,Zi8,k_3,keyD,v,seqOf,Zun]
  have hS:Src.items (st H es) (.seq (.ref (Zjj w)))=some (unt H w):=by simp [Src.items,seqOf,Zun]
  unfold ZcP
  rw [src,R.bind_ok]
  simp only [hS]
  have hb:(unt H w).length≤BIG:=by rw [hu]; simp [BIG]; omega
  rw [if_pos hb,Zmu (fun _=>true) hS (unt H w) []]
  ·rw [YU,List.filter_eq_self.mpr (by simp)]
  ·intro x hx
   obtain ⟨j',e',rfl,he,hs⟩:=ho x hx
   obtain ⟨hlj,rfl⟩:=Ya.mp he
   have g:=Zmo (Zf4 (H:=H) hlj) es[j']
   rw [ZeP hlj,Yy] at g
   constructor
   ·simp [inEnv,g,hs]
   ·simp [inEnv]
  ·simpa using hb
 have ln:lenG [.lst (unt H w)] (st H es)=.ok (.int ((unt H w).length:Int)) (st H es):=rfl
 have nz:¬((unt H w).length:Int)=0:=by rw [hu]; simp; omega
 have x0:∀θ:Sto,ixM (.lst (unt H w)) (.int 0) θ=.ok (.ref (10+4*j)) θ:=by
  intro θ
  rw [ZhF,hu,show (0:Int)=((0:Nat):Int) from rfl,ZeN (j:=0) (v:=D.ref (10+4*j)) rfl]
 have lu:=l_u (H:=H) (es:=es) w
 rw [hu] at lu
 obtain ⟨uu,huu⟩:∃uu,uu=unt H w:=⟨_,rfl⟩
 rw [←huu] at it ln nz x0
 have nz2:¬uu=[]:=by rw [huu,hu]; simp
 have b1:Zax [.val (.ref 0),.val (.int (prt H w)),.no] (st H es)=.ok (.nx,[.val (.ref 0),.val (.int (prt H w)),.no]) (st H es):=by
  simp [Zax,Zi8,k_3,keyD,v]
 have b:ZaY [.val (.ref 0),.val (.int (prt H w)),.no] (st H es)=.ok (.rt (.ref (10+4*j)),[.val (.ref 0),.val (.int (prt H w)),.val (.lst uu)]) (st (ZiD H w r) es):=by
  unfold ZaY
  rw [ZaZ,b1,ZW,ZaZ,ZnF,it,R.bind_ok,ZW]
  simp [Zbp,Zi8,k_3,keyD,v,ln,nz,nz2,ZoM,Zh0,lu,x0,z_u]
 simp [ZH,b]
def sl (ns:List Int) (p0 p1:Int) (x3 x4 x5 x6 x7 x8 x9 x10:Sl):List Sl:=[.val (.scr ns),.val (.lst [.ref 0,.ref 4]),.val (.lst [.int p0,.int p1]),x3,x4,x5,x6,x7,x8,x9,x10]
theorem Zw6 {ns:List Int} {p0 p1:Int} {x3 x4 x5 x6 x7 x8 x9 x10:Sl} {ρ1 ρ2:List Sl} {B:SM} {θ θ1 θ2:Sto} (h0:B (sl ns p0 p1 (.val (.int p0)) x4 x5 x6 x7 x8 x9 x10) θ=.ok (.nx,ρ1) θ1) (h1:B (ρ1.set 3 (.val (.int p1))) θ1=.ok (.nx,ρ2) θ2):ZcH (mIn (Zd 2)) (gNm 3) B (sl ns p0 p1 x3 x4 x5 x6 x7 x8 x9 x10) θ=.ok (.nx,ρ2) θ2:=by
 have src:mIn (Zd 2) (sl ns p0 p1 x3 x4 x5 x6 x7 x8 x9 x10) θ=.ok (.seq (.lst [.int p0,.int p1])) θ:=by simp [mIn,sl]
 have it:∀θ,Src.items θ (.seq (.lst [.int p0,.int p1]))=some [.int p0,.int p1]:=fun _=>rfl
 have g0:gNm 3 (D.int p0) (sl ns p0 p1 x3 x4 x5 x6 x7 x8 x9 x10)=some (sl ns p0 p1 (.val (.int p0)) x4 x5 x6 x7 x8 x9 x10):=rfl
 have g1:gNm 3 (D.int p1) ρ1=some (ρ1.set 3 (.val (.int p1))):=rfl
 unfold ZcH
 rw [src,R.bind_ok]
 simp only [it,Zb9,if_true,g0,g1,h0,h1,R.bind_ok,Zbq]
theorem Zlm {ns:List Int} {c0 c1 p0 p1:Int} (h:p0<p1) (x4 x5 x6 x7 x8 x9 x10:Sl):Zji (sl ns p0 p1 .no x4 x5 x6 x7 x8 x9 x10) (sA c0 c1)=.ok (.nx,sl ns p0 p1 (.val (.int p1)) x4 x5 x6 x7 x8 x9 x10) (st (H0 c0 c1 p0 p1) []):=by
 have ta:ZH [.ref 0,.int p0] (sB c0 c1 p0)=.ok .non (sB c0 c1 p0):=ZgF (un:=[(.inl p0,.ref 8)]) (k:=8) rfl rfl (by simp [valD]) rfl
 have tb:ZH [.ref 0,.int p1] (st (H0 c0 c1 p0 p1) [])=.ok .non (st (H0 c0 c1 p0 p1) []):=ZgF (k:=9) Zi8 k_3 (ZhJ (H:=H0 c0 c1 p0 p1) h true) rfl
 refine Zw6 (ρ1:=sl ns p0 p1 (.val (.int p0)) x4 x5 x6 x7 x8 x9 x10) (θ1:=sB c0 c1 p0) ?_ ?_
 ·have m1:zC "Host" "listens" zG (mOp ixM (Zd 1) (mC (.int 0))) (Zc (Zd 3) Zi) (sl ns p0 p1 (.val (.int p0)) x4 x5 x6 x7 x8 x9 x10) (sA c0 c1)=.ok .non (sB c0 c1 p0):=by
   rw [Zgj (θ1:=sA c0 c1) (d:=.ref 0) (l:=0) (gs:=hf 1 2 3 c0 0) (by simp [sl,Zkj]) rfl rfl]
   simp [sl,ZAo]
  have m2:zC "Host" "taken_end" ZH (mOp ixM (Zd 1) (mC (.int 0))) (Zc (Zd 3) Zi) (sl ns p0 p1 (.val (.int p0)) x4 x5 x6 x7 x8 x9 x10) (sB c0 c1 p0)=.ok .non (sB c0 c1 p0):=by
   rw [Zgj (θ1:=sB c0 c1 p0) (d:=.ref 0) (l:=0) (gs:=hf 1 2 3 c0 0) (by simp [sl,Zkj]) rfl rfl]
   simp [sl,ta]
  simp [Zfw,m1,m2,Zak]
 ·have m1:zC "Host" "listens" zG (mOp ixM (Zd 1) (mC (.int 0))) (Zc (Zd 3) Zi) (sl ns p0 p1 (.val (.int p1)) x4 x5 x6 x7 x8 x9 x10) (sB c0 c1 p0)=.ok .non (st (H0 c0 c1 p0 p1) []):=by
   rw [Zgj (θ1:=sB c0 c1 p0) (d:=.ref 0) (l:=0) (gs:=hf 1 2 3 c0 0) (by simp [sl,Zkj]) rfl rfl]
   simp [sl,ZAn h]
  have m2:zC "Host" "taken_end" ZH (mOp ixM (Zd 1) (mC (.int 0))) (Zc (Zd 3) Zi) (sl ns p0 p1 (.val (.int p1)) x4 x5 x6 x7 x8 x9 x10) (st (H0 c0 c1 p0 p1) [])=.ok .non (st (H0 c0 c1 p0 p1) []):=by
   rw [ZoG (by simp [sl,Zkj]) rfl]
   simp [sl,tb]
  show Zfw (sl ns p0 p1 (.val (.int p1)) x4 x5 x6 x7 x8 x9 x10) _=_
  simp [Zfw,m1,m2,Zak]
def pB (c:CF) (b:Bool):Int:=if b=true then c.p1 else c.p0
structure Zsa (ns:List Int) (c:CF):Prop where
 n:(c.n:Int)=1+mix ns 4 % 4
 M:∀i:Nat,c.M i=100*(i:Int)+mix ns (5+(i:Int)) % 100
 w:∀i:Nat,c.w i=decide (mix ns (10+(i:Int)) % 2=1)
 d:∀i:Nat,c.d i=List.replicate (1+mix ns (20+(pos40 c.n c.w i:Int)) % 16).toNat (pos40 c.n c.w i:Int)
 d':∀i:Nat,c.d' i=List.replicate (1+mix ns (30+(pos40 c.n c.w i:Int)) % 16).toNat (50+(pos40 c.n c.w i:Int))
def Zja (c:CF) (i:Nat):D:=.tup [.ref (10+4*i),.int (c.prt i)]
def ZQ (c:CF) (k:Nat):List D:=(List.range k).map (Zja c)
def ZfH (c:CF) (k:Nat):List Zn:=(List.range k).map fun i=>newEnd (c.M i) (c.prt i) (Zs c.F1 (64000*(i:Int))) true
def Hc (c:CF) (U:Bool→Nat→List D) (k:Nat):HS:={ hs c U 0 0 0 with c1:=Zs c.F1 (64000*(k:Int)),rs1:=rsF 0 k,kv1:=kvF (K1 c) 0 k }
theorem Zku (c:CF) (k:Nat):(ZfH c k).length=k:=by simp [ZfH]
section
variable {ns:List Int} {c:CF} {U:Bool→Nat→List D}
theorem Zpj (lc:Zsa ns c) (ok:c.Ok) (x3:Sl):∃x5 x6 x7,b_l_law_3 (sl ns c.p0 c.p1 x3 (.own []) .no .no .no .no .no .no) (st (Hc c U 0) [])=.ok (.nx,sl ns c.p0 c.p1 x3 (.own (ZQ c c.n)) x5 x6 x7 .no .no .no) (st (hs c U 0 0 0) (ZfH c c.n)):=by
 have n4:=ok.n
 obtain ⟨ρ1,θ1,h1,x5,x6,x7,hρ1,hθ1⟩:=for_rng (fi:=Zci (Zc (mOp za (mC (.int 1)) (mOp Zbo (mCB ZaR (Zc (Zd 0) (Zc (mC (.int 4)) Zi))) (mC (.int 4)))) Zi)) (body:=(Zr (Z1 6 (mOp za (mOp ZcY (mC (.int 100)) (Zd 5)) (mOp Zbo (mCB ZaR (Zc (Zd 0) (Zc (mOp za (mC (.int 5)) (Zd 5)) Zi))) (mC (.int 100)))))
  (Zr (Z1 7 (mOp ixM (Zd 2) (mOp Zbo (mCB ZaR (Zc (Zd 0) (Zc (mOp za (mC (.int 10)) (Zd 5)) Zi))) (mC (.int 2)))))
  (Zc1 4 (ZbA (Zc (zC "Host" "calls" ZaU (mOp ixM (Zd 1) (mC (.int 1))) (Zc (Zd 6) (Zc (Zd 7) Zi))) (Zc (Zd 7) Zi))))))) (k:=5) (ρ:=sl ns c.p0 c.p1 x3 (.own []) .no .no .no .no .no .no) (θ:=st (Hc c U 0) []) (lo:=0) (n:=c.n)
  (fun k ρ θ=>∃x5 x6 x7,ρ=sl ns c.p0 c.p1 x3 (.own (ZQ c k)) x5 x6 x7 .no .no .no∧θ=st (Hc c U k) (ZfH c k)) (by
   have:=lc.n
   have h0:0≤1+mix ns 4 % 4:=by omega
   have e:(1+mix ns 4 % 4).toNat=c.n:=by omega
   have h9:1+mix ns 4 % 4≤100000:=by omega
   simp [sl,←lc.n]; try omega) ⟨_,_,_,rfl,rfl⟩ (by
   rintro k ρ θ hk ⟨x5,x6,x7,rfl,rfl⟩
   have e1:(sl ns c.p0 c.p1 x3 (.own (ZQ c k)) x5 x6 x7 .no .no .no).set 5 (.val (.int (0+(k:Int))))=sl ns c.p0 c.p1 x3 (.own (ZQ c k)) (.val (.int (k:Int))) x6 x7 .no .no .no:=by simp [sl]
   have hn:valT (Hc c U k).kv1 [.inl (c.M k),.inl (c.prt k)]=none:=Zh5 (K:=K1 c) fun j hj z=>by have:=Zpu ok hk (by omega) (show K1 c j=K1 c k from z); omega
   have cl:=Zvl (H:=Hc c U k) (es:=ZfH c k) (a:=c.M k) (b:=c.prt k) hn (by show (rsF 0 k).length<1000; rw [Zhy]; omega) (by show (kvF (K1 c) 0 k).length<1000; rw [Zmg]; omega)
   have e2:({ Hc c U k with c1:=Zs (Hc c U k).c1 64000,rs1:=(Hc c U k).rs1++[.ref (10+4*k)],kv1:=(Hc c U k).kv1++[([.inl (c.M k),.inl (c.prt k)],.ref (10+4*k))] }:HS)=Hc c U (k+1):=by
    have p1:Zs (Zs c.F1 (64000*(k:Int))) 64000=Zs c.F1 (64000*((k+1:Nat):Int)):=by
     rw [Zcm]
     congr 1
     try omega
    unfold Hc
    rw [Zki,Zh3,Y5,←p1]
    rfl
   have e3:ZfH c k++[newEnd (c.M k) (c.prt k) (Hc c U k).c1 true]=ZfH c (k+1):=by
    unfold ZfH
    rw [YX,List.map_append]
    rfl
   rw [Zku,e2,e3] at cl
   have mb:∀x:Int,ZgD 100 x:=fun x=>.inl (by omega)
   have a1:100*(k:Int)+mix ns (5+(k:Int)) % 100=c.M k:=by rw [lc.M]
   have a2:∀θ:Sto,ixM (il [c.p0,c.p1]) (.int (mix ns (10+(k:Int)) % 2)) θ=.ok (.int (c.prt k)) θ:=by
    intro θ
    unfold CF.prt
    rw [lc.w]
    by_cases q:mix ns (10+(k:Int)) % 2=1
    ·rw [q]; simp
    ·have q0:mix ns (10+(k:Int)) % 2=0:=by omega
     rw [q0]; simp
   have mm:∀ρ:List Sl,ρ[1]?=some (Sl.val (.lst [.ref 0,.ref 4]))→ρ[6]?=some (Sl.val (.int (c.M k)))→ρ[7]?=some (Sl.val (.int (c.prt k)))→zC "Host" "calls" ZaU (mOp ixM (Zd 1) (mC (.int 1))) (Zc (Zd 6) (Zc (Zd 7) Zi)) ρ (st (Hc c U k) (ZfH c k))=.ok (.ref (10+4*k)) (st (Hc c U (k+1)) (ZfH c (k+1))):=by
    intro ρ h1 h6 h7
    rw [←cl,Zu2 (by simp [h1,Zuw]) rfl]
    simp [h6,h7]
   have dl:(ZQ c k).length<100000:=by simp [ZQ]; omega
   refine ⟨sl ns c.p0 c.p1 x3 (.own (ZQ c (k+1))) (.val (.int (k:Int))) (.val (.int (c.M k))) (.val (.int (c.prt k))) .no .no .no,st (Hc c U (k+1)) (ZfH c (k+1)),?_,_,_,_,rfl,rfl⟩
   have e4:ZQ c (k+1)=ZQ c k++[.tup [.ref (10+4*k),.int (c.prt k)]]:=by
    unfold ZQ
    rw [YX,List.map_append]
    rfl
   rw [e1,e4]
   obtain ⟨dk,hdk⟩:∃x,x=ZQ c k:=⟨_,rfl⟩
   rw [←hdk] at dl ⊢
   unfold sl
   simp [mb,a1,a2,mm,dl]) (by rintro k ρ θ ⟨x5,x6,x7,rfl,rfl⟩; simp [sl])
 subst hρ1 hθ1
 exact ⟨x5,x6,x7,h1⟩
theorem ZrI (c:CF):Inv c 0 (ini c.n) (ZfH c c.n) where
 n:=by simp [ini]
 m0:=YB _
 m:=YB _
 len:=Zku c c.n
 cs:=by
  intro i x hx
  have hi:i<c.n:=by
   have:=(Ya.mp hx).1
   simpa [ini] using this
  have:x=.raw:=by
   have:=(Ya.mp hx).2
   simp [ini] at this
   exact this.symm
  subst this
  refine ⟨newEnd (c.M i) (c.prt i) (Zs c.F1 (64000*(i:Int))) true,?_,rfl⟩
  unfold ZfH
  rw [Y5,Yn,Je hi]
  rfl
 ss:=by
  intro i x hx
  simp [ini] at hx
def srv (c:CF) (i:Nat):D:=.ref (10+4*(c.n+i))
def U1 (c:CF) (b:Bool) (m:Nat):List D:=((List.range m).filter fun i=>c.w i == b).map (srv c)
theorem Zv2 (c:CF) (h:c.n≤4):UOk c 0 (U1 c) where
 suc:=fun b m _ _=>by
  unfold U1
  rw [YX,List.filter_append,List.map_append]
  by_cases q:c.w m=b
  ·rw [if_pos q]
   simp [q,srv]
  ·rw [if_neg q]
   simp [q]
 len:=fun b m hm=>by
  unfold U1
  have:=YI (fun i=>c.w i == b) (List.range m)
  rw [Y4] at this
  rw [List.length_map]
  omega
def UV (c:CF) (V:Bool→List Nat):Bool→Nat→List D:=fun b _=>(V b).map (srv c)
def Zda (V:Bool→List Nat) (b:Bool) (r:List Nat):Bool→List Nat:=fun b'=>if b'=b then r else V b'
theorem Zkc {H:HS} {es:List Zn} {j:Nat} (h:∃e,es[j]?=some e∧e.state=.opn):Zes [.ref (10+4*j)] (st H es)=.ok (.str "open") (st H es):=by
 obtain ⟨e,he,ho⟩:=h
 obtain ⟨hlj,rfl⟩:=Ya.mp he
 have g:=ZqW (θ:=st H es) (l:=10+4*j) (e:=es[j]) (Zf4 hlj)
 rw [ZeP hlj,Yy,ho] at g
 exact g
def Opn (c:CF) (es:List Zn):Prop:=∀i,i<c.n→(∃e,es[i]?=some e∧e.state=.opn)∧∃e,es[c.n+i]?=some e∧e.state=.opn
def prF (c:CF) (i:Nat):D:=.tup [.ref (10+4*i),.ref (10+4*(c.n+i))]
theorem Zvk {ns:List Int} {c:CF} (ok:c.Ok) (b:Bool) (x5 x6 x7 x8 x9 x10:Sl) (θ:Sto):ZcP (mIn (Zd 4)) [3] (ZD (mOp eqM (mOp ixM (Zd 0) (mC (.int 1))) (Zd 1))) (Zd 0) (sl ns c.p0 c.p1 (.val (.int (pB c b))) (.val (.lst (ZQ c c.n))) x5 x6 x7 x8 x9 x10) θ=.ok (.lst ((Za9 c.n c.w b).map (Zja c))) θ:=by
 have n4:=ok.n
 have src:mIn (Zd 4) (sl ns c.p0 c.p1 (.val (.int (pB c b))) (.val (.lst (ZQ c c.n))) x5 x6 x7 x8 x9 x10) θ=.ok (.seq (.lst (ZQ c c.n))) θ:=by simp [mIn,sl]
 have hS:Src.items θ (.seq (.lst (ZQ c c.n)))=some (ZQ c c.n):=rfl
 have hb:(ZQ c c.n).length≤BIG:=by simp [ZQ,BIG]; omega
 have ie:∀x,inEnv [3] (sl ns c.p0 c.p1 (.val (.int (pB c b))) (.val (.lst (ZQ c c.n))) x5 x6 x7 x8 x9 x10) x=[.val x,.val (.int (pB c b))]:=fun x=>rfl
 unfold ZcP
 rw [src,R.bind_ok]
 simp only [hS,ie]
 rw [if_pos hb,Zmu (fun d=>match d with | .tup [_,.int z]=>decide (z=pB c b) | _=>false) hS (ZQ c c.n) []]
 ·rw [YU]
  unfold ZQ Za9
  rw [List.filter_map]
  have hp:=ok.p
  congr 3
  refine List.filter_congr fun i _=>?_
  show decide ((if c.w i=true then c.p1 else c.p0)=if b=true then c.p1 else c.p0)=_
  cases c.w i<;>cases b<;>simp<;>omega
 ·intro x hx
  obtain ⟨i,hi,rfl⟩:=List.mem_map.mp hx
  constructor
  ·simp [Zja]
  ·simp
 ·simpa using hb
theorem ZlC {ns:List Int} {c:CF} (ok:c.Ok) (b:Bool) {V:Bool→List Nat} (hV:V b=Za9 c.n c.w b) {es:List Zn} (ho:Opn c es) (pre:List Nat) (hpre:pre.length≤4) (t0 t1:Nat) (x5 x6 x7 x9 x10:Sl) :
  ∃y9 y10,b_l_law_6 (sl ns c.p0 c.p1 (.val (.int (pB c b))) (.val (.lst (ZQ c c.n))) x5 x6 x7 (.own (pre.map (prF c))) x9 x10) (st (hs c (UV c V) c.n t0 t1) es)=.ok (.nx,sl ns c.p0 c.p1 (.val (.int (pB c b))) (.val (.lst (ZQ c c.n))) x5 x6 x7 (.own ((pre++Za9 c.n c.w b).map (prF c))) y9 y10) (st (hs c (UV c (Zda V b [])) c.n t0 t1) es):=by
 have n4:=ok.n
 have fll:(Za9 c.n c.w b).length≤4:=by
  have:=YI (fun i=>c.w i == b) (List.range c.n)
  rw [Y4] at this
  unfold Za9
  omega
 have r:=Zo0 (F:=Zja c) (fE:=ZcP (mIn (Zd 4)) [3] (ZD (mOp eqM (mOp ixM (Zd 0) (mC (.int 1))) (Zd 1))) (Zd 0)) (body:=(Zr (Z1 10 (zC "Host" "taken_end" ZH (mOp ixM (Zd 1) (mC (.int 0))) (Zc (Zd 3) Zi)))
   (Zr Zg3
   (Zc1 8 (ZbA (Zc (mOp ixM (Zd 9) (mC (.int 0))) (Zc (Zd 10) Zi))))))) (k:=9) (ρ:=sl ns c.p0 c.p1 (.val (.int (pB c b))) (.val (.lst (ZQ c c.n))) x5 x6 x7 (.own (pre.map (prF c))) x9 x10) (θ:=st (hs c (UV c V) c.n t0 t1) es) (θ0:=st (hs c (UV c V) c.n t0 t1) es)
  (fun rem ρ θ=>∃done y9 y10,done++rem=Za9 c.n c.w b∧ρ=sl ns c.p0 c.p1 (.val (.int (pB c b))) (.val (.lst (ZQ c c.n))) x5 x6 x7 (.own ((pre++done).map (prF c))) y9 y10∧θ=st (hs c (UV c (Zda V b rem)) c.n t0 t1) es) (fun _=>False) (Za9 c.n c.w b) (Zvk ok b _ _ _ _ _ _ _)
  ⟨[],x9,x10,rfl,by rw [YC],by
   have:Zda V b (Za9 c.n c.w b)=V:=by
    funext b'
    unfold Zda
    by_cases q:b'=b
    ·rw [if_pos q,q,hV]
    ·rw [if_neg q]
   rw [this]⟩ (by
   rintro x r ρ θ ⟨done,y9,y10,hd,rfl,rfl⟩
   left
   have hx:∀y∈x::r,y<c.n:=fun y hy=>(fl_mem.mp (show y∈Za9 c.n c.w b by rw [←hd]; exact Yj _ hy)).1
   have ll:done.length+(r.length+1)≤4:=by
    have:=congrArg List.length hd
    rw [Ym,Yb] at this
    omega
   have hu:unt (hs c (UV c (Zda V b (x::r))) c.n t0 t1) b=.ref (10+4*(c.n+x))::r.map (srv c):=by cases b<;>rfl
   have tk:=ZmO (H:=hs c (UV c (Zda V b (x::r))) c.n t0 t1) (es:=es) (w:=b) (j:=c.n+x) (r:=r.map (srv c)) ok.p hu (by rw [List.length_map]; omega) (by
    intro d hd'
    rw [show unt (hs c (UV c (Zda V b (x::r))) c.n t0 t1) b=(x::r).map (srv c) by cases b<;>rfl] at hd'
    obtain ⟨i,hi,rfl⟩:=List.mem_map.mp hd'
    obtain ⟨e,h1,h2⟩:=(ho i (hx i hi)).2
    exact ⟨c.n+i,e,rfl,h1,h2⟩)
   have e1:ZiD (hs c (UV c (Zda V b (x::r))) c.n t0 t1) b (r.map (srv c))=hs c (UV c (Zda V b r)) c.n t0 t1:=by cases b<;>rfl
   have e2:prt (hs c (UV c (Zda V b (x::r))) c.n t0 t1) b=pB c b:=rfl
   rw [e1,e2] at tk
   have mm:∀ρ:List Sl,ρ[1]?=some (Sl.val (.lst [.ref 0,.ref 4]))→ρ[3]?=some (Sl.val (.int (pB c b)))→zC "Host" "taken_end" ZH (mOp ixM (Zd 1) (mC (.int 0))) (Zc (Zd 3) Zi) ρ (st (hs c (UV c (Zda V b (x::r))) c.n t0 t1) es)=.ok (.ref (10+4*(c.n+x))) (st (hs c (UV c (Zda V b r)) c.n t0 t1) es):=by
    intro ρ h1 h3
    rw [←tk,ZoG (by simp [h1,Zkj]) rfl]
    simp [h3]
   have sc:=Zkc (H:=hs c (UV c (Zda V b r)) c.n t0 t1) (es:=es) (j:=x) (ho x (hx x (Ys))).1
   have ss:=Zkc (H:=hs c (UV c (Zda V b r)) c.n t0 t1) (es:=es) (j:=c.n+x) (ho x (hx x (Ys))).2
   have nn:∀θ:Sto,neM (.str "open") (.str "open") θ=.ok (.bl false) θ:=fun θ=>(ZoF .opn .opn).trans (by simp)
   have pl:((pre++done).map (prF c)).length<100000:=by simp; omega
   obtain ⟨pd,hpd⟩:∃pd,pd=(pre++done).map (prF c):=⟨_,rfl⟩
   have e5:(pre++(done++[x])).map (prF c)=pd++[.tup [.ref (10+4*x),.ref (10+4*(c.n+x))]]:=by
    rw [hpd,←Yz,List.map_append]
    rfl
   rw [←hpd] at pl ⊢
   refine ⟨sl ns c.p0 c.p1 (.val (.int (pB c b))) (.val (.lst (ZQ c c.n))) x5 x6 x7 (.own (pd++[.tup [.ref (10+4*x),.ref (10+4*(c.n+x))]])) (.val (Zja c x)) (.val (.ref (10+4*(c.n+x)))),st (hs c (UV c (Zda V b r)) c.n t0 t1) es,?_,done++[x],_,_,by rw [Yz]; exact hd,by rw [e5],rfl⟩
   unfold sl Zja
   simp [mm,Zg3,Zak,sc,ss,nn,pl]) (by rintro r ρ θ ⟨done,y9,y10,hd,rfl,rfl⟩; simp [sl])
 rcases r with ⟨ρ',θ',h1,done,y9,y10,hd,rfl,rfl⟩ | ⟨_,_,_,_,f⟩
 ·rw [YC] at hd
  subst hd
  exact ⟨y9,y10,h1⟩
 ·exact f.elim
theorem ZlD {ns:List Int} {c:CF} (ok:c.Ok) (b:Bool) {V:Bool→List Nat} (hV:V b=[]) (es:List Zn) (t0 t1:Nat) (x4 x5 x6 x7 x8 x9 x10:Sl):Zfv (sl ns c.p0 c.p1 (.val (.int (pB c b))) x4 x5 x6 x7 x8 x9 x10) (st (hs c (UV c V) c.n t0 t1) es)=.ok (.nx,sl ns c.p0 c.p1 (.val (.int (pB c b))) x4 x5 x6 x7 x8 x9 x10) (st (hs c (UV c V) c.n t0 t1) es):=by
 have hu:unt (hs c (UV c V) c.n t0 t1) b=[]:=by
  have:unt (hs c (UV c V) c.n t0 t1) b=(V b).map (srv c):=by cases b<;>rfl
  rw [this,hV]
  rfl
 have tk:ZH [.ref 0,.int (pB c b)] (st (hs c (UV c V) c.n t0 t1) es)=.ok .non (st (hs c (UV c V) c.n t0 t1) es):=ZgF (k:=Zjj b) Zi8 k_3 (ZhJ (H:=hs c (UV c V) c.n t0 t1) ok.p b) (by rw [Zun,hu])
 have mm:zC "Host" "taken_end" ZH (mOp ixM (Zd 1) (mC (.int 0))) (Zc (Zd 3) Zi) (sl ns c.p0 c.p1 (.val (.int (pB c b))) x4 x5 x6 x7 x8 x9 x10) (st (hs c (UV c V) c.n t0 t1) es)=.ok .non (st (hs c (UV c V) c.n t0 t1) es):=by
  rw [ZoG (by simp [sl,Zkj]) rfl]
  simp [sl,tk]
 simp [Zfv,mm,Zak]
theorem ZnM {ns:List Int} {c:CF} (ok:c.Ok) {es:List Zn} (ho:Opn c es) (t0 t1:Nat) (x3 x5 x6 x7 x9 x10:Sl) :
  ∃y3 y4 y9 y10,b_l_law_8 (sl ns c.p0 c.p1 x3 (.own (ZQ c c.n)) x5 x6 x7 (.own []) x9 x10) (st (hs c (UV c (Za9 c.n c.w)) c.n t0 t1) es)=.ok (.nx,sl ns c.p0 c.p1 y3 y4 x5 x6 x7 (.own ((Lp c.n c.w).map (prF c))) y9 y10) (st (hs c (UV c (fun _=>[])) c.n t0 t1) es):=by
 obtain ⟨u9,u10,h1⟩:=ZlC (ns:=ns) ok false (V:=Za9 c.n c.w) rfl ho [] (by simp) t0 t1 x5 x6 x7 x9 x10
 have g1:=ZlD (ns:=ns) ok false (V:=Zda (Za9 c.n c.w) false []) rfl es t0 t1 (.val (.lst (ZQ c c.n))) x5 x6 x7 (.own (([]++Za9 c.n c.w false).map (prF c))) u9 u10
 have fll:(Za9 c.n c.w false).length≤4:=by
  have:=YI (fun i=>c.w i == false) (List.range c.n)
  rw [Y4] at this
  have:=ok.n
  unfold Za9
  omega
 obtain ⟨v9,v10,h2⟩:=ZlC (ns:=ns) ok true (V:=Zda (Za9 c.n c.w) false []) rfl ho ([]++Za9 c.n c.w false) (by simpa using fll) t0 t1 x5 x6 x7 u9 u10
 have g2:=ZlD (ns:=ns) ok true (V:=Zda (Zda (Za9 c.n c.w) false []) true []) rfl es t0 t1 (.val (.lst (ZQ c c.n))) x5 x6 x7 (.own (([]++Za9 c.n c.w false++Za9 c.n c.w true).map (prF c))) v9 v10
 have e0:Zda (Zda (Za9 c.n c.w) false []) true []=fun _=>[]:=by
  funext b'
  cases b'<;>rfl
 rw [e0] at h2 g2
 refine ⟨.val (.int (pB c true)),.val (.lst (ZQ c c.n)),v9,v10,?_⟩
 show ZcH (mIn (Zd 2)) (gNm 3) (Zr (mFreeze 4 b_l_law_6) Zfv) _ _=.ok (.nx,sl ns c.p0 c.p1 (.val (.int (pB c true))) (.val (.lst (ZQ c c.n))) x5 x6 x7 (.own (([]++Za9 c.n c.w false++Za9 c.n c.w true).map (prF c))) v9 v10) _
 refine Zw6 (θ1:=st (hs c (UV c (Zda (Za9 c.n c.w) false [])) c.n t0 t1) es) (ρ1:=sl ns c.p0 c.p1 (.val (.int c.p0)) (.val (.lst (ZQ c c.n))) x5 x6 x7 (.own (([]++Za9 c.n c.w false).map (prF c))) u9 u10) ?_ ?_
 ·rw [ZaZ]
  have:mFreeze 4 b_l_law_6 (sl ns c.p0 c.p1 (.val (.int c.p0)) (.own (ZQ c c.n)) x5 x6 x7 (.own []) x9 x10) (st (hs c (UV c (Za9 c.n c.w)) c.n t0 t1) es)=_:=h1
  rw [this,ZW]
  exact g1
 ·rw [ZaZ]
  have:mFreeze 4 b_l_law_6 (sl ns c.p0 c.p1 (.val (.int c.p1)) (.val (.lst (ZQ c c.n))) x5 x6 x7 (.own (([]++Za9 c.n c.w false).map (prF c))) u9 u10) (st (hs c (UV c (Zda (Za9 c.n c.w) false [])) c.n t0 t1) es)=_:=h2
  show Zg7 (mFreeze 4 b_l_law_6 (sl ns c.p0 c.p1 (.val (.int c.p1)) (.val (.lst (ZQ c c.n))) x5 x6 x7 (.own (([]++Za9 c.n c.w false).map (prF c))) u9 u10) _) _=_
  rw [this,ZW]
  exact g2
end
def wB:SM:=(Zr (mFreeze 8 (zn (mCB p_write (Zc (mOp ixM (mOp ixM (Zd 8) (Zd 5)) (mC (.int 0))) (Zc (mOp ZcY (ZcO (Zc (Zd 5) Zi)) (mOp za (mC (.int 1)) (mOp Zbo (mCB ZaR (Zc (Zd 0) (Zc (mOp za (mC (.int 20)) (Zd 5)) Zi))) (mC (.int 16))))) Zi)))))
  (mFreeze 8 (zn (mCB p_write (Zc (mOp ixM (mOp ixM (Zd 8) (Zd 5)) (mC (.int 1))) (Zc (mOp ZcY (ZcO (Zc (mOp za (mC (.int 50)) (Zd 5)) Zi)) (mOp za (mC (.int 1)) (mOp Zbo (mCB ZaR (Zc (Zd 0) (Zc (mOp za (mC (.int 30)) (Zd 5)) Zi))) (mC (.int 16))))) Zi))))))
section
variable {ns:List Int} {c:CF}
theorem Zkb {H:HS} {es:List Zn} {j:Nat} {e:Zn} (he:es[j]?=some e) (hw:e.written.length≤64) (r:List Int):∃d,p_write [.ref (10+4*j),il r] (st H es)=.ok d (st H (es.set j (ZdO e r))):=by
 obtain ⟨hlj,rfl⟩:=Ya.mp he
 have g:=ZqT (θ:=st H es) (l:=10+4*j) (e:=es[j]) (Zf4 hlj) hw r
 rw [ZeP hlj,ZeP hlj,Yy] at g
 exact ⟨_,g⟩
theorem ZlL {H:HS} {es:List Zn} {j:Nat} {e:Zn} (he:es[j]?=some e) (n:Int):ZdP [.ref (10+4*j),.int n] (st H es)=.ok (il (e.come.take n.toNat)) (st H (es.set j (ZiR e n))):=by
 obtain ⟨hlj,rfl⟩:=Ya.mp he
 have g:=Zt4 (θ:=st H es) (l:=10+4*j) (e:=es[j]) (n:=n) (Zf4 hlj)
 rw [ZeP hlj,ZeP hlj,Yy] at g
 exact g
def GX (c:CF) (k i:Nat) (x:XE):XE:=if pos40 c.n c.w i<k then ZkV x else x
structure Wr (c:CF) (S:SY) (k:Nat) (es:List Zn):Prop where
 len:es.length=c.n+c.n
 cs:∀i x,S.cs[i]?=some x→∃e,es[i]?=some e∧ZgC (c.Q i) (GX c k i x) e
 ss:∀i x,S.ss[i]?=some x→∃e,es[c.n+i]?=some e∧ZgC (c.Q i).swap (GX c k i x) e
theorem ZvZ (ok:c.Ok) {S:SY} {k i:Nat} {es:List Zn} (hn:S.cs.length=c.n) (hm:S.ss.length=c.n) (oc:S.cs.all ZcQ=true) (os:S.ss.all ZcQ=true) (W:Wr c S k es) (h:(Lp c.n c.w)[k]?=some i) :
  ∃e1 e2,es[i]?=some e1∧es[c.n+i]?=some e2∧e1.written.length≤64∧e2.written.length≤64∧Wr c S (k+1) ((es.set i (ZdO e1 (c.d i))).set (c.n+i) (ZdO e2 (c.d' i))):=by
 obtain ⟨hi,hp⟩:=Zk5 h
 have i1:i<S.cs.length:=by omega
 have i2:i<S.ss.length:=by omega
 have x1:=List.getElem?_eq_getElem i1
 have x2:=List.getElem?_eq_getElem i2
 have po:=ok.pq i hi
 obtain ⟨e1,h1,r1⟩:=W.cs i _ x1
 obtain ⟨e2,h2,r2⟩:=W.ss i _ x2
 have l1:i<es.length:=(Ya.mp h1).1
 have l2:c.n+i<es.length:=(Ya.mp h2).1
 have o1:ZcQ S.cs[i]=true:=YS.mp oc _ (List.getElem_mem i1)
 have o2:ZcQ S.ss[i]=true:=YS.mp os _ (List.getElem_mem i2)
 have g0:∀x,GX c k i x=x:=fun x=>by unfold GX; rw [if_neg (by omega)]
 have g1:∀x,GX c (k+1) i x=ZkV x:=fun x=>by unfold GX; rw [if_pos (by omega)]
 rw [g0] at r1 r2
 have gn:∀j x,j<c.n→j≠i→GX c (k+1) j x=GX c k j x:=by
  intro j x hj q
  have:pos40 c.n c.w j≠k:=by
   intro z
   have a:=Zoi (w:=c.w) hj
   rw [z,h] at a
   cases a
   exact q rfl
  unfold GX
  by_cases z:pos40 c.n c.w j<k
  ·rw [if_pos z,if_pos (by omega)]
  ·rw [if_neg z,if_neg (by omega)]
 refine ⟨e1,e2,h1,h2,(r1.fx po.d po.d').wr,(r2.fx po.swap.d po.swap.d').wr,⟨by simpa using W.len,?_,?_⟩⟩
 ·intro j x hj
  have jn:j<c.n:=by have:=(Ya.mp hj).1; omega
  rw [Yc (by omega)]
  by_cases q:j=i
  ·subst q
   rw [x1] at hj
   cases hj
   exact ⟨_,Yg l1,by rw [g1]; exact ZmD po r1 o1⟩
  ·obtain ⟨e,a1,a2⟩:=W.cs j x hj
   exact ⟨e,by rw [Yc (by omega)]; exact a1,by rw [gn j x jn q]; exact a2⟩
 ·intro j x hj
  have jn:j<c.n:=by have:=(Ya.mp hj).1; omega
  by_cases q:j=i
  ·subst q
   rw [x2] at hj
   cases hj
   exact ⟨_,Yg (by rw [YL]; exact l2),by rw [g1]; exact ZmD (p:=(c.Q j).swap) po.swap r2 o2⟩
  ·obtain ⟨e,a1,a2⟩:=W.ss j x hj
   exact ⟨e,by rw [Yc (by omega),Yc (by omega)]; exact a1,by rw [gn j x jn q]; exact a2⟩
theorem Zkn {k i:Nat} (h:(Lp c.n c.w)[k]?=some i) (θ:Sto):ixM (.lst ((Lp c.n c.w).map (prF c))) (.int (k:Int)) θ=.ok (.tup [.ref (10+4*i),.ref (10+4*(c.n+i))]) θ:=by
 rw [ZhF,ZeN (j:=k) (v:=prF c i)]
 ·rfl
 ·rw [Yn,h]
  rfl
theorem ZmK (lc:Zsa ns c) (ok:c.Ok) {S:SY} (hn:S.cs.length=c.n) (hm:S.ss.length=c.n) (oc:S.cs.all ZcQ=true) (os:S.ss.all ZcQ=true) (H:HS) {es:List Zn} (W:Wr c S 0 es) (x3 x4 x5 x6 x7 x9 x10:Sl) :
  ∃y5 es',mFreeze 8 b_l_law_9 (sl ns c.p0 c.p1 x3 x4 x5 x6 x7 (.own ((Lp c.n c.w).map (prF c))) x9 x10) (st H es)=.ok (.nx,sl ns c.p0 c.p1 x3 x4 y5 x6 x7 (.val (.lst ((Lp c.n c.w).map (prF c)))) x9 x10) (st H es')∧Wr c S c.n es':=by
 have n4:=ok.n
 obtain ⟨ρ1,θ1,h1,y5,es',hρ1,hθ1,W1⟩:=for_rng (fi:=Zci (Zc (mCB lenG (Zc (Zd 8) Zi)) Zi)) (body:=wB) (k:=5) (ρ:=sl ns c.p0 c.p1 x3 x4 x5 x6 x7 (.val (.lst ((Lp c.n c.w).map (prF c)))) x9 x10) (θ:=st H es) (lo:=0) (n:=c.n)
  (fun k ρ θ=>∃y5 es',ρ=sl ns c.p0 c.p1 x3 x4 y5 x6 x7 (.val (.lst ((Lp c.n c.w).map (prF c)))) x9 x10∧θ=st H es'∧Wr c S k es') (by
   have ln:lenG [.lst ((Lp c.n c.w).map (prF c))] (st H es)=.ok (.int (c.n:Int)) (st H es):=by
    have:lenG [.lst ((Lp c.n c.w).map (prF c))] (st H es)=.ok (.int (((Lp c.n c.w).map (prF c)).length:Int)) (st H es):=rfl
    rw [this,List.length_map,Zg5]
   obtain ⟨ps,hps⟩:∃ps,ps=(Lp c.n c.w).map (prF c):=⟨_,rfl⟩
   rw [←hps] at ln ⊢
   simp [sl,ln]; try omega) ⟨x5,es,rfl,rfl,W⟩ (by
   rintro k ρ θ hk ⟨y5,es',rfl,rfl,W⟩
   have hkl:k<(Lp c.n c.w).length:=by rw [Zg5]; exact hk
   have hL:=List.getElem?_eq_getElem hkl
   obtain ⟨i,hi⟩:∃i,i=(Lp c.n c.w)[k]:=⟨_,rfl⟩
   rw [←hi] at hL
   obtain ⟨hin,hpos⟩:=Zk5 hL
   obtain ⟨e1,e2,h1,h2,w1,w2,W'⟩:=ZvZ ok hn hm oc os W hL
   have l1:i<es'.length:=(Ya.mp h1).1
   obtain ⟨d1,k1⟩:=Zkb (H:=H) h1 w1 (c.d i)
   obtain ⟨d2,k2⟩:=Zkb (H:=H) (es:=es'.set i (ZdO e1 (c.d i))) (j:=c.n+i) (e:=e2) (by rw [Yc (by omega)]; exact h2) w2 (c.d' i)
   have m1:=fun θ=>ZrA (k:Int) (1+mix ns (20+(k:Int)) % 16) (by omega) θ
   have m2:=fun θ=>ZrA (50+(k:Int)) (1+mix ns (30+(k:Int)) % 16) (by omega) θ
   have q1:List.replicate (1+mix ns (20+(k:Int)) % 16).toNat (k:Int)=c.d i:=by rw [lc.d,hpos]
   have q2:List.replicate (1+mix ns (30+(k:Int)) % 16).toNat (50+(k:Int))=c.d' i:=by rw [lc.d',hpos]
   rw [q1] at m1
   rw [q2] at m2
   have px:=fun θ=>Zkn (c:=c) hL θ
   obtain ⟨ps,hps⟩:∃ps,ps=(Lp c.n c.w).map (prF c):=⟨_,rfl⟩
   rw [←hps] at px ⊢
   refine ⟨sl ns c.p0 c.p1 x3 x4 (.val (.int (k:Int))) x6 x7 (.val (.lst ps)) x9 x10,st H ((es'.set i (ZdO e1 (c.d i))).set (c.n+i) (ZdO e2 (c.d' i))),?_,_,_,rfl,rfl,W'⟩
   have e1':(sl ns c.p0 c.p1 x3 x4 y5 x6 x7 (.val (.lst ps)) x9 x10).set 5 (.val (.int (0+(k:Int))))=sl ns c.p0 c.p1 x3 x4 (.val (.int (k:Int))) x6 x7 (.val (.lst ps)) x9 x10:=by simp [sl]
   rw [e1']
   unfold sl wB
   simp [px,m1,m2,k1,k2,-Zgh,-ZoS]) (by rintro k ρ θ ⟨y5,es',rfl,rfl,_⟩; simp [sl])
 subst hρ1 hθ1
 exact ⟨y5,es',h1,W1⟩
def rB:SM:=Zr (mFreeze 8 ZfU) (mFreeze 8 ZfT)
theorem Zn8 (lc:Zsa ns c) (ok:c.Ok) (H:HS) {es:List Zn} (D1:∀i,i<c.n→(∃e,es[i]?=some e∧e.come=c.d' i)∧∃e,es[c.n+i]?=some e∧e.come=c.d i) (x3 x4 x5 x6 x7 x9 x10:Sl) :
  ∃ρ' es',mFreeze 8 Ziu (sl ns c.p0 c.p1 x3 x4 x5 x6 x7 (.val (.lst ((Lp c.n c.w).map (prF c)))) x9 x10) (st H es)=.ok (.nx,ρ') (st H es'):=by
 have n4:=ok.n
 obtain ⟨ρ1,θ1,h1,y5,es',hρ1,hθ1,_⟩:=for_rng (fi:=Zci (Zc (mCB lenG (Zc (Zd 8) Zi)) Zi)) (body:=rB) (k:=5) (ρ:=sl ns c.p0 c.p1 x3 x4 x5 x6 x7 (.val (.lst ((Lp c.n c.w).map (prF c)))) x9 x10) (θ:=st H es) (lo:=0) (n:=c.n)
  (fun k ρ θ=>∃y5 es',ρ=sl ns c.p0 c.p1 x3 x4 y5 x6 x7 (.val (.lst ((Lp c.n c.w).map (prF c)))) x9 x10∧θ=st H es'∧∀i,i<c.n→k≤pos40 c.n c.w i→es'[i]?=es[i]?∧es'[c.n+i]?=es[c.n+i]?) (by
   have ln:lenG [.lst ((Lp c.n c.w).map (prF c))] (st H es)=.ok (.int (c.n:Int)) (st H es):=by
    have:lenG [.lst ((Lp c.n c.w).map (prF c))] (st H es)=.ok (.int (((Lp c.n c.w).map (prF c)).length:Int)) (st H es):=rfl
    rw [this,List.length_map,Zg5]
   obtain ⟨ps,hps⟩:∃ps,ps=(Lp c.n c.w).map (prF c):=⟨_,rfl⟩
   rw [←hps] at ln ⊢
   simp [sl,ln]; try omega) ⟨x5,es,rfl,rfl,fun _ _ _=>⟨rfl,rfl⟩⟩ (by
   rintro k ρ θ hk ⟨y5,es',rfl,rfl,W⟩
   have hkl:k<(Lp c.n c.w).length:=by rw [Zg5]; exact hk
   have hL:=List.getElem?_eq_getElem hkl
   obtain ⟨i,hi⟩:∃i,i=(Lp c.n c.w)[k]:=⟨_,rfl⟩
   rw [←hi] at hL
   obtain ⟨hin,hpos⟩:=Zk5 hL
   have po:=ok.pq i hin
   obtain ⟨⟨e1,h1,c1⟩,e2,h2,c2⟩:=D1 i hin
   obtain ⟨w1,w2⟩:=W i hin (by omega)
   rw [h1] at w1
   rw [h2] at w2
   have k2:=ZlL (H:=H) w2 99
   have k1:=ZlL (H:=H) (es:=es'.set (c.n+i) (ZiR e2 99)) (j:=i) (e:=e1) (by rw [Yc (by omega)]; exact w1) 99
   have t1:e1.come.take (99:Int).toNat=c.d' i:=by
    rw [c1]
    exact YO (by have:=po.d'.len; show (c.d' i).length≤99; have:(c.d' i).length≤16:=this; omega)
   have t2:e2.come.take (99:Int).toNat=c.d i:=by
    rw [c2]
    exact YO (by have:=po.d.len; show (c.d i).length≤99; have:(c.d i).length≤16:=this; omega)
   rw [t1] at k1
   rw [t2] at k2
   have m1:=fun θ=>ZrA (k:Int) (1+mix ns (20+(k:Int)) % 16) (by omega) θ
   have m2:=fun θ=>ZrA (50+(k:Int)) (1+mix ns (30+(k:Int)) % 16) (by omega) θ
   have q1:List.replicate (1+mix ns (20+(k:Int)) % 16).toNat (k:Int)=c.d i:=by rw [lc.d,hpos]
   have q2:List.replicate (1+mix ns (30+(k:Int)) % 16).toNat (50+(k:Int))=c.d' i:=by rw [lc.d',hpos]
   rw [q1] at m1
   rw [q2] at m2
   have px:=fun θ=>Zkn (c:=c) hL θ
   obtain ⟨ps,hps⟩:∃ps,ps=(Lp c.n c.w).map (prF c):=⟨_,rfl⟩
   rw [←hps] at px ⊢
   refine ⟨sl ns c.p0 c.p1 x3 x4 (.val (.int (k:Int))) x6 x7 (.val (.lst ps)) x9 x10,st H ((es'.set (c.n+i) (ZiR e2 99)).set i (ZiR e1 99)),?_,_,_,rfl,rfl,?_⟩
   ·have e1':(sl ns c.p0 c.p1 x3 x4 y5 x6 x7 (.val (.lst ps)) x9 x10).set 5 (.val (.int (0+(k:Int))))=sl ns c.p0 c.p1 x3 x4 (.val (.int (k:Int))) x6 x7 (.val (.lst ps)) x9 x10:=by simp [sl]
    rw [e1']
    unfold sl rB ZfU ZfT
    simp [px,m1,m2,k1,k2,-Zgh,-ZoS]
   ·intro j hj hkj
    have ne:j≠i:=by
     intro z
     subst z
     omega
    obtain ⟨a1,a2⟩:=W j hj (by omega)
    rw [Yc (by omega),Yc (by omega),Yc (by omega),Yc (by omega)]
    exact ⟨a1,a2⟩) (by rintro k ρ θ ⟨y5,es',rfl,rfl,_⟩; simp [sl])
 subst hρ1 hθ1
 exact ⟨_,es',h1⟩
end
theorem ZjX {xs:List XE} {p:XE→Bool} (h:xs.all p=true) {i:Nat} {x:XE} (hx:xs[i]?=some x):p x=true:=YS.mp h _ (List.mem_of_getElem? hx)
theorem law_true:∀ns:List Int,ns.length≤63→∃θ,Zmf [.scr ns] []=.ok (.bl true) θ:=by
 intro ns _
 have r0:=Zu3 ns 0
 obtain ⟨n,hn⟩:∃n:Nat,(n:Int)=1+mix ns 4 % 4:=⟨(1+mix ns 4 % 4).toNat,by omega⟩
 obtain ⟨w,hw⟩:∃w:Nat→Bool,w=fun (i:Nat)=>decide (mix ns (10+(i:Int)) % 2=1):=⟨_,rfl⟩
 obtain ⟨c,hc⟩:∃c:CF,c=⟨n,fun i=>100*(i:Int)+mix ns (5+(i:Int)) % 100,w,mix ns 2 % 30000,30000+mix ns 3 % 30000,mix ns 0,4294967296-1-mix ns 1 % 100000,fun i=>List.replicate (1+mix ns (20+(pos40 n w i:Int)) % 16).toNat (pos40 n w i:Int),fun i=>List.replicate (1+mix ns (30+(pos40 n w i:Int)) % 16).toNat (50+(pos40 n w i:Int))⟩:=⟨_,rfl⟩
 have lc:Zsa ns c:=by
  subst hc
  exact ⟨hn,fun _=>rfl,fun i=>by rw [hw],fun _=>rfl,fun _=>rfl⟩
 have cp0:c.p0=mix ns 2 % 30000:=by rw [hc]
 have cp1:c.p1=30000+mix ns 3 % 30000:=by rw [hc]
 have cF0:c.F0=mix ns 0:=by rw [hc]
 have cF1:c.F1=4294967296-1-mix ns 1 % 100000:=by rw [hc]
 have cn:=lc.n
 have ok:c.Ok:=by
  refine ⟨by omega,fun i hi=>?_,by omega,fun i j hi hj h=>by rw [lc.M,lc.M] at h; omega⟩
  have pl:=Zjr (w:=c.w) hi
  have cm:=lc.M i
  have p1:=Zga c.F1 (64000*(i:Int))
  have p2:=Zga c.F0 (64000*(i:Int))
  have lr:∀(z:Int) (v:Int),0≤v∧v≤255→Lst true (List.replicate (1+z % 16).toNat v)∧Zsb (List.replicate (1+z % 16).toNat v):=by
   intro z v hv
   refine ⟨⟨by rw [Y6]; omega,fun _=>by rw [Y6]; omega⟩,fun y hy=>?_⟩
   rw [Jj hy]
   exact hv
  have d1:=lr (mix ns (20+(pos40 c.n c.w i:Int))) (pos40 c.n c.w i:Int) (by omega)
  have d2:=lr (mix ns (30+(pos40 c.n c.w i:Int))) (50+(pos40 c.n c.w i:Int)) (by omega)
  rw [←lc.d] at d1
  rw [←lc.d'] at d2
  have pr:0≤c.prt i∧c.prt i≤65535:=by
   unfold CF.prt
   split<;>omega
  exact ⟨by show 0≤c.M i∧c.M i≤65535; omega,pr,p1,p2,d1.1,d2.1,d1.2,d2.2⟩
 have n4:=ok.n
 obtain ⟨m1,hm1⟩:∃m:Nat,mix ns 15 % 4=(m:Int):=⟨(mix ns 15 % 4).toNat,by omega⟩
 obtain ⟨m2,hm2⟩:∃m:Nat,mix ns 16 % 4=(m:Int):=⟨(mix ns 16 % 4).toNat,by omega⟩
 have go:=Zrb ⟨c.n-1,by omega⟩ ⟨m1,by omega⟩
 simp only at go
 rw [show c.n-1+1=c.n by omega] at go
 unfold ZsB at go
 cases q1:Zhe m1 40 0 (ini c.n) with
 | none=>rw [q1] at go; cases go
 | some S1=>
  rw [q1] at go
  simp only [Yl,decide_eq_true_eq] at go
  obtain ⟨⟨⟨⟨⟨a1,a2⟩,a3⟩,a4⟩,a5⟩,a6⟩:=go
  have g2:=YS.mp a6 m2 (Jg.mpr (by omega))
  cases q2:Zhe m2 40 0 (Zhm S1) with
  | none=>rw [q2] at g2; cases g2
  | some S2=>
   rw [q2] at g2
   simp only [Yl,decide_eq_true_eq] at g2
   obtain ⟨⟨⟨⟨b1,b2⟩,b3⟩,b4⟩,b5⟩:=g2
   obtain ⟨x5,x6,x7,k3⟩:=Zpj (U:=U1 c) lc ok (.val (.int c.p1))
   have e0:st (H0 c.F0 c.F1 c.p0 c.p1) []=st (Hc c (U1 c) 0) []:=by
    have z0:Zs c.F0 (64000*((0:Nat):Int))=c.F0:=ZbX (by omega)
    have z1:Zs c.F1 (64000*((0:Nat):Int))=c.F1:=ZbX (by omega)
    unfold Hc hs H0
    rw [z0,z1]
    rfl
   have li:=Zlm (ns:=ns) (c0:=c.F0) (c1:=c.F1) ok.p .no .no .no .no .no .no .no
   rw [e0] at li
   obtain ⟨es1,f1,I1⟩:=Zmq ok (Zv2 c n4) hm1 (ZrI c) q1
   have f1':l_flow [.lst [.ref 0,.ref 4],.int (mix ns 15)] (st (hs c (U1 c) 0 0 0) (ZfH c c.n))=.ok (.bl true) (Th c (U1 c) S1 es1):=f1
   have op:Opn c es1:=by
    intro i hi
    have x1:=List.getElem?_eq_getElem (show i<S1.cs.length by omega)
    have x2:=List.getElem?_eq_getElem (show i<S1.ss.length by omega)
    obtain ⟨e,h1,h2⟩:=I1.cs i _ x1
    obtain ⟨e',h1',h2'⟩:=I1.ss i _ x2
    rw [Y5] at h1
    exact ⟨⟨e,h1,Zpr h2 (ZjX a3 x1)⟩,e',h1',Zpr h2' (ZjX a4 x2)⟩
   have t1:Th c (U1 c) S1 es1=st (hs c (UV c (Za9 c.n c.w)) c.n S1.t0 S1.t1) es1:=by
    unfold Th
    rw [a2]
    rfl
   rw [t1] at f1'
   obtain ⟨y3,y4,y9,y10,k8⟩:=ZnM (ns:=ns) ok op S1.t0 S1.t1 (.val (.int c.p1)) x5 x6 x7 .no .no
   have W0:Wr c S1 0 es1:=⟨by rw [I1.len,a2],fun i x hx=>by
    obtain ⟨e,h1,h2⟩:=I1.cs i x hx
    rw [Y5] at h1
    exact ⟨e,h1,by unfold GX; rw [if_neg (by omega)]; exact h2⟩,fun i x hx=>by
    obtain ⟨e,h1,h2⟩:=I1.ss i x hx
    exact ⟨e,h1,by unfold GX; rw [if_neg (by omega)]; exact h2⟩⟩
   obtain ⟨z5,es2,k9,W1⟩:=ZmK lc ok a1 a2 a3 a4 (hs c (UV c (fun _=>[])) c.n S1.t0 S1.t1) W0 y3 y4 x5 x6 x7 y9 y10
   have I2:Inv c c.n (Zhm S1) es2:=⟨by simpa [Zhm] using a1,by simp [Zhm,a2],by simp [Zhm,a2],by rw [W1.len]; simp [Zhm,a2],by
    intro i x hx
    rw [show (Zhm S1).cs=S1.cs.map ZkV from rfl,Yn] at hx
    cases hs:S1.cs[i]? with
    | none=>rw [hs] at hx; cases hx
    | some x0=>
     rw [hs] at hx
     cases hx
     have hi:i<c.n:=by have:=(Ya.mp hs).1; omega
     obtain ⟨e,h1,h2⟩:=W1.cs i x0 hs
     unfold GX at h2
     rw [if_pos (Zjr hi)] at h2
     exact ⟨e,by rw [Y5]; exact h1,h2⟩,by
    intro i x hx
    rw [show (Zhm S1).ss=S1.ss.map ZkV from rfl,Yn] at hx
    cases hs:S1.ss[i]? with
    | none=>rw [hs] at hx; cases hx
    | some x0=>
     rw [hs] at hx
     cases hx
     have hi:i<c.n:=by have:=(Ya.mp hs).1; omega
     obtain ⟨e,h1,h2⟩:=W1.ss i x0 hs
     unfold GX at h2
     rw [if_pos (Zjr hi)] at h2
     exact ⟨e,h1,h2⟩⟩
   have uo2:UOk c c.n (UV c (fun _=>[])):=⟨fun b m h1 h2=>absurd h1 (by omega),fun b m _=>by simp [UV]⟩
   obtain ⟨es3,f2,I3⟩:=Zmq ok uo2 hm2 I2 q2
   have t2:Th c (UV c (fun _=>[])) (Zhm S1) es2=st (hs c (UV c (fun _=>[])) c.n S1.t0 S1.t1) es2:=by
    unfold Th
    rw [show (Zhm S1).ss.length=c.n by simp [Zhm,a2]]
    rfl
   rw [t2] at f2
   have D1:∀i,i<c.n→(∃e,es3[i]?=some e∧e.come=c.d' i)∧∃e,es3[c.n+i]?=some e∧e.come=c.d i:=by
    intro i hi
    have x1:=List.getElem?_eq_getElem (show i<S2.cs.length by omega)
    have x2:=List.getElem?_eq_getElem (show i<S2.ss.length by omega)
    obtain ⟨e,h1,h2⟩:=I3.cs i _ x1
    obtain ⟨e',h1',h2'⟩:=I3.ss i _ x2
    rw [Y5] at h1
    exact ⟨⟨e,h1,Zps h2 (ZjX b3 x1)⟩,e',h1',Zps h2' (ZjX b4 x2)⟩
   obtain ⟨ρ',es4,k13⟩:=Zn8 lc ok (hs c (UV c (fun _=>[])) S2.ss.length S2.t0 S2.t1) D1 y3 y4 z5 x6 x7 y9 y10
   have f2':l_flow [.lst [.ref 0,.ref 4],.int (mix ns 16)] (st (hs c (UV c (fun _=>[])) c.n S1.t0 S1.t1) es2)=.ok (.bl true) (st (hs c (UV c (fun _=>[])) S2.ss.length S2.t0 S2.t1) es3):=f2
   have s1:Z1 1 (ZcO (Zc (mCB (mkG "Host" ZaQ) (Zc (mCB ZaR (Zc (Zd 0) (Zc (mC (.int 0)) Zi))) Zi)) (Zc (mCB (mkG "Host" ZaQ) (Zc (mOp Zdc (mOp Zdc (mC (.int 4294967296)) (mC (.int 1))) (mOp Zbo (mCB ZaR (Zc (Zd 0) (Zc (mC (.int 1)) Zi))) (mC (.int 100000)))) Zi)) Zi))) [.val (.scr ns),.no,.no,.no,.no,.no,.no,.no,.no,.no,.no] []=.ok (.nx,[.val (.scr ns),.val (.lst [.ref 0,.ref 4]),.no,.no,.no,.no,.no,.no,.no,.no,.no]) (sA c.F0 c.F1):=by
    have ha:=Zvc c.F0
    have hb:=Zvb c.F0 c.F1
    rw [cF0] at ha hb ⊢
    rw [cF1] at hb ⊢
    simp at hb ⊢
    simp [ha,hb]
   have s2:Z1 2 (ZcO (Zc (mOp Zbo (mCB ZaR (Zc (Zd 0) (Zc (mC (.int 2)) Zi))) (mC (.int 30000))) (Zc (mOp za (mC (.int 30000)) (mOp Zbo (mCB ZaR (Zc (Zd 0) (Zc (mC (.int 3)) Zi))) (mC (.int 30000)))) Zi))) [.val (.scr ns),.val (.lst [.ref 0,.ref 4]),.no,.no,.no,.no,.no,.no,.no,.no,.no] (sA c.F0 c.F1)=.ok (.nx,sl ns c.p0 c.p1 .no .no .no .no .no .no .no .no) (sA c.F0 c.F1):=by
    rw [cp0,cp1]
    simp [sl]
   have s4:∀θ,ZeA 4 Zi (sl ns c.p0 c.p1 (.val (.int c.p1)) .no .no .no .no .no .no .no) θ=.ok (.nx,sl ns c.p0 c.p1 (.val (.int c.p1)) (.own []) .no .no .no .no .no .no) θ:=fun θ=>by simp [sl]
   have s5:Zg4 (sl ns c.p0 c.p1 (.val (.int c.p1)) (.own (ZQ c c.n)) x5 x6 x7 .no .no .no) (st (hs c (U1 c) 0 0 0) (ZfH c c.n))=.ok (.nx,sl ns c.p0 c.p1 (.val (.int c.p1)) (.own (ZQ c c.n)) x5 x6 x7 .no .no .no) (st (hs c (UV c (Za9 c.n c.w)) c.n S1.t0 S1.t1) es1):=by
    simp [Zg4,sl,f1']
   have s6:∀θ,ZeA 8 Zi (sl ns c.p0 c.p1 (.val (.int c.p1)) (.own (ZQ c c.n)) x5 x6 x7 .no .no .no) θ=.ok (.nx,sl ns c.p0 c.p1 (.val (.int c.p1)) (.own (ZQ c c.n)) x5 x6 x7 (.own []) .no .no) θ:=fun θ=>by simp [sl]
   have s7:∀x8,b_l_law_10 (sl ns c.p0 c.p1 y3 y4 z5 x6 x7 x8 y9 y10) (st (hs c (UV c (fun _=>[])) c.n S1.t0 S1.t1) es2)=.ok (.nx,sl ns c.p0 c.p1 y3 y4 z5 x6 x7 x8 y9 y10) (st (hs c (UV c (fun _=>[])) S2.ss.length S2.t0 S2.t1) es3):=by
    intro x8
    simp [b_l_law_10,sl,f2']
   refine ⟨st (hs c (UV c (fun _=>[])) S2.ss.length S2.t0 S2.t1) es4,?_⟩
   have body:ZjV [.val (.scr ns),.no,.no,.no,.no,.no,.no,.no,.no,.no,.no] []=.ok (.rt (.bl true),ρ') (st (hs c (UV c (fun _=>[])) S2.ss.length S2.t0 S2.t1) es4):=by
    unfold ZjV
    rw [ZaZ,s1,ZW,ZaZ,s2,ZW,ZaZ,li,ZW,ZaZ,s4,ZW,ZaZ,k3,ZW,ZaZ,s5,ZW,ZaZ,s6,ZW,ZaZ,k8,ZW,ZaZ,k9,ZW,ZaZ,s7,ZW,ZaZ,k13,ZW]
    simp
   simp [Zmf,body]
end
def top (i:Nat):Stmt:=PySem.Challenge.pw_wirestream_k40_two_talks.main.body.getD i (.Pass ⟨0,0,0,0⟩)
abbrev zs0:Stmt:=ZdB (top 2) 0
abbrev zs1:Stmt:=top 3
abbrev zs2:Stmt:=top 4
abbrev zs3:Stmt:=top 5
abbrev zs4:Stmt:=top 9
abbrev zs5:Stmt:=top 10
abbrev zs6:Stmt:=top 11
abbrev zs7:Stmt:=ZdB (top 30) 0
abbrev zs8:Stmt:=top 31
abbrev zs9:Stmt:=top 32
abbrev ZqQ:Stmt:=top 33
abbrev ZqP:Stmt:=top 34
abbrev ZqO:Stmt:=top 42
abbrev ZqN:Stmt:=top 43
abbrev ZqM:Stmt:=top 64
abbrev ZqL:Stmt:=top 65
abbrev ZqK:Stmt:=top 66
abbrev ZqJ:Stmt:=top 67
abbrev ZqI:Stmt:=top 68
abbrev ZqH:Stmt:=top 69
abbrev ZqG:Stmt:=top 70
abbrev ZqF:Stmt:=top 71
abbrev ZqE:Stmt:=top 72
abbrev ZqD:Stmt:=top 73
abbrev ZqC:Stmt:=top 74
abbrev ZqB:Stmt:=top 75
abbrev ZqA:Stmt:=top 76
abbrev Zqz:Stmt:=top 77
abbrev Zqy:Stmt:=top 78
abbrev Zqx:Stmt:=top 80
abbrev Zqw:Stmt:=top 81
abbrev Zqv:Stmt:=top 82
abbrev Zqu:Stmt:=top 83
abbrev Zqt:Stmt:=top 84
abbrev Zqs:Stmt:=top 85
abbrev Zqr:Stmt:=top 86
abbrev Zqq:Stmt:=top 87
abbrev Zqp:Stmt:=top 88
abbrev Zqo:Stmt:=top 90
abbrev Zqn:Stmt:=top 91
abbrev Zqm:Stmt:=top 92
abbrev Zql:Stmt:=top 93
abbrev Zqk:Stmt:=top 94
abbrev Zqj:Stmt:=top 95
abbrev Zqi:Stmt:=top 96
abbrev Zqh:Stmt:=top 97
abbrev Zqg:Stmt:=top 98
abbrev Zqf:Stmt:=top 99
abbrev Zqe:Stmt:=top 100
abbrev Zqd:Stmt:=top 101
abbrev Zqc:Stmt:=top 102
abbrev Zqb:Stmt:=top 103
abbrev Zqa:Stmt:=top 104
abbrev Zp9:Stmt:=top 105
abbrev Zp8:Stmt:=top 106
abbrev Zp7:Stmt:=top 107
abbrev Zp6:Stmt:=top 109
abbrev Zp5:Stmt:=top 110
abbrev Zp4:Stmt:=top 111
abbrev Zp3:Stmt:=top 116
abbrev Zp2:Stmt:=top 117
abbrev Zp1:Stmt:=top 118
abbrev Zp0:Stmt:=top 119
abbrev ZpZ:Stmt:=top 120
abbrev ZpY:Stmt:=top 121
abbrev ZpX:Stmt:=top 122
abbrev ZpW:Stmt:=top 123
abbrev ZpV:Stmt:=top 124
abbrev ZpU:Stmt:=top 125
abbrev ZpT:Stmt:=top 126
abbrev ZpS:Stmt:=top 127
abbrev ZpR:Stmt:=top 128
abbrev ZpQ:Stmt:=top 129
abbrev ZpP:Stmt:=top 130
abbrev ZpO:Stmt:=top 131
abbrev ZpN:Stmt:=top 132
abbrev ZpM:Stmt:=top 133
abbrev ZpL:Stmt:=top 134
abbrev ZmI:Stmt:=ZdB (top 137) 0
abbrev ZmH:Stmt:=ZdB (top 137) 1
abbrev ZmG:Stmt:=ZdB (top 137) 2
abbrev ZmF:Stmt:=ZdB (top 137) 3
abbrev ZmE:Stmt:=ZdB (top 137) 4
abbrev ZkU:Stmt:=ZdB (top 137) 5
abbrev ZpK:Stmt:=top 138
abbrev ZpJ:Stmt:=top 139
abbrev ZpI:Stmt:=top 140
abbrev ZpH:Stmt:=top 141
abbrev ZpG:Stmt:=top 143
abbrev ZpF:Stmt:=top 144
abbrev ZpE:Stmt:=top 147
abbrev Ziz:Stmt:=top 148
abbrev zP0:List Str:=["self"]
theorem zc0:Zo ["self"] zP0 (Zj zs0):=⟨rfl,rfl,rfl,by decide +kernel,rfl,by decide +kernel,by decide +kernel⟩
abbrev zP1:List Str:=["pile"]
theorem zc1:Zo ["pile"] zP1 (Zj zs1):=⟨rfl,rfl,rfl,by decide +kernel,rfl,by decide +kernel,by decide +kernel⟩
abbrev zP2:List Str:=["pile","row"]
theorem zc2:Zo ["pile","row","laid"] zP2 (Zj zs2):=⟨rfl,rfl,rfl,by decide +kernel,rfl,by decide +kernel,by decide +kernel⟩
abbrev zP3:List Str:=["pile","many"]
theorem zc3:Zo ["pile","many","size","taken"] zP3 (Zj zs3):=⟨rfl,rfl,rfl,by decide +kernel,rfl,by decide +kernel,by decide +kernel⟩
abbrev zP4:List Str:=["number","step"]
theorem zc4:Zo ["number","step"] zP4 (Zj zs4):=⟨rfl,rfl,rfl,by decide +kernel,rfl,by decide +kernel,by decide +kernel⟩
abbrev zP5:List Str:=["number","base"]
theorem zc5:Zo ["number","base"] zP5 (Zj zs5):=⟨rfl,rfl,rfl,by decide +kernel,rfl,by decide +kernel,by decide +kernel⟩
abbrev zP6:List Str:=["number","base"]
theorem zc6:Zo ["number","base"] zP6 (Zj zs6):=⟨rfl,rfl,rfl,by decide +kernel,rfl,by decide +kernel,by decide +kernel⟩
abbrev zP7:List Str:=["self","ours","theirs","first","active"]
theorem zc7:Zo ["self","ours","theirs","first","active"] zP7 (Zj zs7):=⟨rfl,rfl,rfl,by decide +kernel,rfl,by decide +kernel,by decide +kernel⟩
abbrev zP8:List Str:=["end","now"]
theorem zc8:Zo ["end","now"] zP8 (Zj zs8):=⟨rfl,rfl,rfl,by decide +kernel,rfl,by decide +kernel,by decide +kernel⟩
abbrev zP9:List Str:=["end"]
theorem zc9:Zo ["end"] zP9 (Zj zs9):=⟨rfl,rfl,rfl,by decide +kernel,rfl,by decide +kernel,by decide +kernel⟩
abbrev ZtU:List Str:=["end"]
theorem zc10:Zo ["end"] ZtU (Zj ZqQ):=⟨rfl,rfl,rfl,by decide +kernel,rfl,by decide +kernel,by decide +kernel⟩
abbrev ZtT:List Str:=["end"]
theorem zc11:Zo ["end"] ZtT (Zj ZqP):=⟨rfl,rfl,rfl,by decide +kernel,rfl,by decide +kernel,by decide +kernel⟩
abbrev ZtS:List Str:=["row"]
theorem zc12:Zo ["row","total"] ZtS (Zj ZqO):=⟨rfl,rfl,rfl,by decide +kernel,rfl,by decide +kernel,by decide +kernel⟩
abbrev ZtR:List Str:=["row"]
theorem zc13:Zo ["row"] ZtR (Zj ZqN):=⟨rfl,rfl,rfl,by decide +kernel,rfl,by decide +kernel,by decide +kernel⟩
abbrev ZtQ:List Str:=["segment"]
theorem zc14:Zo ["segment","flags"] ZtQ (Zj ZqM):=⟨rfl,rfl,rfl,by decide +kernel,rfl,by decide +kernel,by decide +kernel⟩
abbrev ZtP:List Str:=["flags","flag"]
theorem zc15:Zo ["flags","flag"] ZtP (Zj ZqL):=⟨rfl,rfl,rfl,by decide +kernel,rfl,by decide +kernel,by decide +kernel⟩
abbrev ZtO:List Str:=["segment","flag"]
theorem zc16:Zo ["segment","flag"] ZtO (Zj ZqK):=⟨rfl,rfl,rfl,by decide +kernel,rfl,by decide +kernel,by decide +kernel⟩
abbrev ZtN:List Str:=["segment"]
theorem zc17:Zo ["segment","ahead","behind"] ZtN (Zj ZqJ):=⟨rfl,rfl,rfl,by decide +kernel,rfl,by decide +kernel,by decide +kernel⟩
abbrev ZtM:List Str:=["segment"]
theorem zc18:Zo ["segment","ports","numbers","head"] ZtM (Zj ZqI):=⟨rfl,rfl,rfl,by decide +kernel,rfl,by decide +kernel,by decide +kernel⟩
abbrev ZtL:List Str:=["head"]
theorem zc19:Zo ["head"] ZtL (Zj ZqH):=⟨rfl,rfl,rfl,by decide +kernel,rfl,by decide +kernel,by decide +kernel⟩
abbrev ZtK:List Str:=["most"]
theorem zc20:Zo ["most"] ZtK (Zj ZqG):=⟨rfl,rfl,rfl,by decide +kernel,rfl,by decide +kernel,by decide +kernel⟩
abbrev ZtJ:List Str:=["number"]
theorem zc21:Zo ["number"] ZtJ (Zj ZqF):=⟨rfl,rfl,rfl,by decide +kernel,rfl,by decide +kernel,by decide +kernel⟩
abbrev ZtI:List Str:=["number"]
theorem zc22:Zo ["number"] ZtI (Zj ZqE):=⟨rfl,rfl,rfl,by decide +kernel,rfl,by decide +kernel,by decide +kernel⟩
abbrev ZtH:List Str:=["row"]
theorem zc23:Zo ["row"] ZtH (Zj ZqD):=⟨rfl,rfl,rfl,by decide +kernel,rfl,by decide +kernel,by decide +kernel⟩
abbrev ZtG:List Str:=["row"]
theorem zc24:Zo ["row"] ZtG (Zj ZqC):=⟨rfl,rfl,rfl,by decide +kernel,rfl,by decide +kernel,by decide +kernel⟩
abbrev ZtF:List Str:=["row"]
theorem zc25:Zo ["row"] ZtF (Zj ZqB):=⟨rfl,rfl,rfl,by decide +kernel,rfl,by decide +kernel,by decide +kernel⟩
abbrev ZtE:List Str:=["row"]
theorem zc26:Zo ["row","head","most","ports","numbers"] ZtE (Zj ZqA):=⟨rfl,rfl,rfl,by decide +kernel,rfl,by decide +kernel,by decide +kernel⟩
abbrev ZtD:List Str:=["row","place"]
theorem zc27:Zo ["row","place"] ZtD (Zj Zqz):=⟨rfl,rfl,rfl,by decide +kernel,rfl,by decide +kernel,by decide +kernel⟩
abbrev ZtC:List Str:=["row","place"]
theorem zc28:Zo ["row","place"] ZtC (Zj Zqy):=⟨rfl,rfl,rfl,by decide +kernel,rfl,by decide +kernel,by decide +kernel⟩
abbrev ZtB:List Str:=["segment"]
theorem zc29:Zo ["segment","ports"] ZtB (Zj Zqx):=⟨rfl,rfl,rfl,by decide +kernel,rfl,by decide +kernel,by decide +kernel⟩
abbrev ZtA:List Str:=["end","segment"]
theorem zc30:Zo ["end","segment"] ZtA (Zj Zqw):=⟨rfl,rfl,rfl,by decide +kernel,rfl,by decide +kernel,by decide +kernel⟩
abbrev Ztz:List Str:=["end","segment"]
theorem zc31:Zo ["end","segment"] Ztz (Zj Zqv):=⟨rfl,rfl,rfl,by decide +kernel,rfl,by decide +kernel,by decide +kernel⟩
abbrev Zty:List Str:=["end","segment"]
theorem zc32:Zo ["end","segment"] Zty (Zj Zqu):=⟨rfl,rfl,rfl,by decide +kernel,rfl,by decide +kernel,by decide +kernel⟩
abbrev Ztx:List Str:=["end","segment"]
theorem zc33:Zo ["end","segment"] Ztx (Zj Zqt):=⟨rfl,rfl,rfl,by decide +kernel,rfl,by decide +kernel,by decide +kernel⟩
abbrev Ztw:List Str:=["end","segment","now"]
theorem zc34:Zo ["end","segment","now"] Ztw (Zj Zqs):=⟨rfl,rfl,rfl,by decide +kernel,rfl,by decide +kernel,by decide +kernel⟩
abbrev Ztv:List Str:=["end","segment"]
theorem zc35:Zo ["end","segment"] Ztv (Zj Zqr):=⟨rfl,rfl,rfl,by decide +kernel,rfl,by decide +kernel,by decide +kernel⟩
abbrev Ztu:List Str:=["end","segment"]
theorem zc36:Zo ["end","segment"] Ztu (Zj Zqq):=⟨rfl,rfl,rfl,by decide +kernel,rfl,by decide +kernel,by decide +kernel⟩
abbrev Ztt:List Str:=["end","segment","now"]
theorem zc37:Zo ["end","segment","now"] Ztt (Zj Zqp):=⟨rfl,rfl,rfl,by decide +kernel,rfl,by decide +kernel,by decide +kernel⟩
abbrev Zts:List Str:=["end","row","now"]
theorem zc38:Zo ["end","row","now","segment"] Zts (Zj Zqo):=⟨rfl,rfl,rfl,by decide +kernel,rfl,by decide +kernel,by decide +kernel⟩
abbrev Ztr:List Str:=["end","segment"]
theorem zc39:Zo ["end","segment"] Ztr (Zj Zqn):=⟨rfl,rfl,rfl,by decide +kernel,rfl,by decide +kernel,by decide +kernel⟩
abbrev Ztq:List Str:=["end","segment","now"]
theorem zc40:Zo ["end","segment","now"] Ztq (Zj Zqm):=⟨rfl,rfl,rfl,by decide +kernel,rfl,by decide +kernel,by decide +kernel⟩
abbrev Ztp:List Str:=["end","segment"]
theorem zc41:Zo ["end","segment","size","last"] Ztp (Zj Zql):=⟨rfl,rfl,rfl,by decide +kernel,rfl,by decide +kernel,by decide +kernel⟩
abbrev Zto:List Str:=["end","number"]
theorem zc42:Zo ["end","number"] Zto (Zj Zqk):=⟨rfl,rfl,rfl,by decide +kernel,rfl,by decide +kernel,by decide +kernel⟩
abbrev Ztn:List Str:=["end","segment","now"]
theorem zc43:Zo ["end","segment","now"] Ztn (Zj Zqj):=⟨rfl,rfl,rfl,by decide +kernel,rfl,by decide +kernel,by decide +kernel⟩
abbrev Ztm:List Str:=["end","segment"]
theorem zc44:Zo ["end","segment"] Ztm (Zj Zqi):=⟨rfl,rfl,rfl,by decide +kernel,rfl,by decide +kernel,by decide +kernel⟩
abbrev Ztl:List Str:=["end","segment","now"]
theorem Zzz:Zo ["end","segment","now"] Ztl (Zj Zqh):=⟨rfl,rfl,rfl,by decide +kernel,rfl,by decide +kernel,by decide +kernel⟩
abbrev Ztk:List Str:=["end","segment"]
theorem Zzy:Zo ["end","segment"] Ztk (Zj Zqg):=⟨rfl,rfl,rfl,by decide +kernel,rfl,by decide +kernel,by decide +kernel⟩
abbrev Ztj:List Str:=["end","segment"]
theorem Zzx:Zo ["end","segment"] Ztj (Zj Zqf):=⟨rfl,rfl,rfl,by decide +kernel,rfl,by decide +kernel,by decide +kernel⟩
abbrev Zti:List Str:=["end","segment","now"]
theorem zc48:Zo ["end","segment","now","answer","has_gone_on","was_shut"] Zti (Zj Zqe):=⟨rfl,rfl,rfl,by decide +kernel,rfl,by decide +kernel,by decide +kernel⟩
abbrev Zth:List Str:=["end","segment"]
theorem Zzw:Zo ["end","segment"] Zth (Zj Zqd):=⟨rfl,rfl,rfl,by decide +kernel,rfl,by decide +kernel,by decide +kernel⟩
abbrev Ztg:List Str:=["end","now"]
theorem Zzv:Zo ["end","now"] Ztg (Zj Zqc):=⟨rfl,rfl,rfl,by decide +kernel,rfl,by decide +kernel,by decide +kernel⟩
abbrev Ztf:List Str:=["end","segment","now"]
theorem Zzu:Zo ["end","segment","now"] Ztf (Zj Zqb):=⟨rfl,rfl,rfl,by decide +kernel,rfl,by decide +kernel,by decide +kernel⟩
abbrev Zte:List Str:=["end","segment"]
theorem zc52:Zo ["end","segment","place","byte","number"] Zte (Zj Zqa):=⟨rfl,rfl,rfl,by decide +kernel,rfl,by decide +kernel,by decide +kernel⟩
abbrev Ztd:List Str:=["end","segment"]
theorem zc53:Zo ["end","segment","number"] Ztd (Zj Zp9):=⟨rfl,rfl,rfl,by decide +kernel,rfl,by decide +kernel,by decide +kernel⟩
abbrev Ztc:List Str:=["end"]
theorem zc54:Zo ["end","row"] Ztc (Zj Zp8):=⟨rfl,rfl,rfl,by decide +kernel,rfl,by decide +kernel,by decide +kernel⟩
abbrev Ztb:List Str:=["end","now"]
theorem Zzt:Zo ["end","now"] Ztb (Zj Zp7):=⟨rfl,rfl,rfl,by decide +kernel,rfl,by decide +kernel,by decide +kernel⟩
abbrev Zta:List Str:=["ours","theirs","first","active"]
theorem Zzs:Zo ["ours","theirs","first","active"] Zta (Zj Zp6):=⟨rfl,rfl,rfl,by decide +kernel,rfl,by decide +kernel,by decide +kernel⟩
abbrev Zs9:List Str:=["end","row"]
theorem zc57:Zo ["end","row","taken"] Zs9 (Zj Zp5):=⟨rfl,rfl,rfl,by decide +kernel,rfl,by decide +kernel,by decide +kernel⟩
abbrev Zs8:List Str:=["end","many"]
theorem zc58:Zo ["end","many","was_shut","row"] Zs8 (Zj Zp4):=⟨rfl,rfl,rfl,by decide +kernel,rfl,by decide +kernel,by decide +kernel⟩
abbrev Zs7:List Str:=["end","now"]
theorem zc59:Zo ["end","now","segment"] Zs7 (Zj Zp3):=⟨rfl,rfl,rfl,by decide +kernel,rfl,by decide +kernel,by decide +kernel⟩
abbrev Zs6:List Str:=["end","now"]
theorem zc60:Zo ["end","now","segment"] Zs6 (Zj Zp2):=⟨rfl,rfl,rfl,by decide +kernel,rfl,by decide +kernel,by decide +kernel⟩
abbrev Zs5:List Str:=["end"]
theorem zc61:Zo ["end","segment"] Zs5 (Zj Zp1):=⟨rfl,rfl,rfl,by decide +kernel,rfl,by decide +kernel,by decide +kernel⟩
abbrev Zs4:List Str:=["end","now"]
theorem Zzr:Zo ["end","now"] Zs4 (Zj Zp0):=⟨rfl,rfl,rfl,by decide +kernel,rfl,by decide +kernel,by decide +kernel⟩
abbrev Zs3:List Str:=["end","now"]
theorem zc63:Zo ["end","now","data"] Zs3 (Zj ZpZ):=⟨rfl,rfl,rfl,by decide +kernel,rfl,by decide +kernel,by decide +kernel⟩
abbrev Zs2:List Str:=["end"]
theorem Zzq:Zo ["end"] Zs2 (Zj ZpY):=⟨rfl,rfl,rfl,by decide +kernel,rfl,by decide +kernel,by decide +kernel⟩
abbrev Zs1:List Str:=["end"]
theorem Zzp:Zo ["end"] Zs1 (Zj ZpX):=⟨rfl,rfl,rfl,by decide +kernel,rfl,by decide +kernel,by decide +kernel⟩
abbrev Zs0:List Str:=["end","number","flags","data"]
theorem Zzo:Zo ["end","number","flags","data"] Zs0 (Zj ZpW):=⟨rfl,rfl,rfl,by decide +kernel,rfl,by decide +kernel,by decide +kernel⟩
abbrev ZsZ:List Str:=["end","now"]
theorem zc67:Zo ["end","now","room"] ZsZ (Zj ZpV):=⟨rfl,rfl,rfl,by decide +kernel,rfl,by decide +kernel,by decide +kernel⟩
abbrev ZsY:List Str:=["end","now"]
theorem Zzn:Zo ["end","now"] ZsY (Zj ZpU):=⟨rfl,rfl,rfl,by decide +kernel,rfl,by decide +kernel,by decide +kernel⟩
abbrev ZsX:List Str:=["end"]
theorem Zzm:Zo ["end"] ZsX (Zj ZpT):=⟨rfl,rfl,rfl,by decide +kernel,rfl,by decide +kernel,by decide +kernel⟩
abbrev ZsW:List Str:=["end"]
theorem Zzl:Zo ["end"] ZsW (Zj ZpS):=⟨rfl,rfl,rfl,by decide +kernel,rfl,by decide +kernel,by decide +kernel⟩
abbrev ZsV:List Str:=["end"]
theorem Zzk:Zo ["end"] ZsV (Zj ZpR):=⟨rfl,rfl,rfl,by decide +kernel,rfl,by decide +kernel,by decide +kernel⟩
abbrev ZsU:List Str:=["end"]
theorem Zzj:Zo ["end"] ZsU (Zj ZpQ):=⟨rfl,rfl,rfl,by decide +kernel,rfl,by decide +kernel,by decide +kernel⟩
abbrev ZsT:List Str:=["end","room"]
theorem Zzi:Zo ["end","room"] ZsT (Zj ZpP):=⟨rfl,rfl,rfl,by decide +kernel,rfl,by decide +kernel,by decide +kernel⟩
abbrev ZsS:List Str:=["end","room"]
theorem zc74:Zo ["end","room","number","many","place"] ZsS (Zj ZpO):=⟨rfl,rfl,rfl,by decide +kernel,rfl,by decide +kernel,by decide +kernel⟩
abbrev ZsR:List Str:=["end"]
theorem zc75:Zo ["end","number"] ZsR (Zj ZpN):=⟨rfl,rfl,rfl,by decide +kernel,rfl,by decide +kernel,by decide +kernel⟩
abbrev ZsQ:List Str:=["end","now"]
theorem Zzh:Zo ["end","now"] ZsQ (Zj ZpM):=⟨rfl,rfl,rfl,by decide +kernel,rfl,by decide +kernel,by decide +kernel⟩
abbrev ZsP:List Str:=["end"]
theorem Zzg:Zo ["end"] ZsP (Zj ZpL):=⟨rfl,rfl,rfl,by decide +kernel,rfl,by decide +kernel,by decide +kernel⟩
abbrev ZnD:List Str:=["self","first"]
theorem Zzf:Zo ["self","first"] ZnD (Zj ZmI):=⟨rfl,rfl,rfl,by decide +kernel,rfl,by decide +kernel,by decide +kernel⟩
abbrev ZnC:List Str:=["self","port"]
theorem Zze:Zo ["self","port"] ZnC (Zj ZmH):=⟨rfl,rfl,rfl,by decide +kernel,rfl,by decide +kernel,by decide +kernel⟩
abbrev ZnB:List Str:=["self","ours","theirs"]
theorem Zzd:Zo ["self","ours","theirs"] ZnB (Zj ZmG):=⟨rfl,rfl,rfl,by decide +kernel,rfl,by decide +kernel,by decide +kernel⟩
abbrev ZnA:List Str:=["self","row","now"]
theorem zc81:Zo ["self","row","now","segment","end"] ZnA (Zj ZmF):=⟨rfl,rfl,rfl,by decide +kernel,rfl,by decide +kernel,by decide +kernel⟩
abbrev Znz:List Str:=["self","now"]
theorem zc82:Zo ["self","now","row","many","step","place"] Znz (Zj ZmE):=⟨rfl,rfl,rfl,by decide +kernel,rfl,by decide +kernel,by decide +kernel⟩
abbrev Zny:List Str:=["self","port"]
theorem zc83:Zo ["self","port","ready"] Zny (Zj ZkU):=⟨rfl,rfl,rfl,by decide +kernel,rfl,by decide +kernel,by decide +kernel⟩
abbrev ZsO:List Str:=["host","ours","theirs"]
theorem zc84:Zo ["host","ours","theirs","end"] ZsO (Zj ZpK):=⟨rfl,rfl,rfl,by decide +kernel,rfl,by decide +kernel,by decide +kernel⟩
abbrev ZsN:List Str:=["host","ours","theirs","active"]
theorem zc85:Zo ["host","ours","theirs","active","end"] ZsN (Zj ZpJ):=⟨rfl,rfl,rfl,by decide +kernel,rfl,by decide +kernel,by decide +kernel⟩
abbrev ZsM:List Str:=["host","segment"]
theorem zc86:Zo ["host","segment","end"] ZsM (Zj ZpI):=⟨rfl,rfl,rfl,by decide +kernel,rfl,by decide +kernel,by decide +kernel⟩
abbrev ZsL:List Str:=["segment"]
theorem Zzc:Zo ["segment"] ZsL (Zj ZpH):=⟨rfl,rfl,rfl,by decide +kernel,rfl,by decide +kernel,by decide +kernel⟩
abbrev ZsK:List Str:=["_law_script","_law_k"]
theorem Zzb:Zo ["_law_script","_law_k"] ZsK (Zj ZpG):=⟨rfl,rfl,rfl,by decide +kernel,rfl,by decide +kernel,by decide +kernel⟩
abbrev ZsJ:List Str:=["_law_script","_law_k"]
theorem zc89:Zo ["_law_script","_law_k","_law_number"] ZsJ (Zj ZpF):=⟨rfl,rfl,rfl,by decide +kernel,rfl,by decide +kernel,by decide +kernel⟩
abbrev ZsI:List Str:=["_law_hosts","_law_number"]
theorem zc90:Zo ["_law_hosts","_law_number","_law_k","_law_still","_law_j","_law_row"] ZsI (Zj ZpE):=⟨rfl,rfl,rfl,by decide +kernel,rfl,by decide +kernel,by decide +kernel⟩
abbrev Znx:List Str:=["_law_script"]
theorem zc91:Zo ["_law_script","_law_hosts","_law_ports","_law_port","_law_callers","_law_k","_law_mine","_law_goal","_law_pairs","_law_one","_law_end"] Znx (Zj Ziz):=⟨rfl,rfl,rfl,by decide +kernel,rfl,by decide +kernel,by decide +kernel⟩
structure Glb (K:PySem.W.Frag) (mg:Str→Option Value):Prop where
 zc0:∃t,mg "ACK"=some (.int 16 t)
 zc1:∃t,mg "ANSWER"=some (.int 3 t)
 zc2:∃t,mg "CLOSED"=some (.str "closed" t)
 zc3:∃t,mg "CLOSE_WAIT"=some (.str "close wait" t)
 zc4:∃t,mg "CLOSING"=some (.str "closing" t)
 zc5:∃t,mg "DATA"=some (.int 7 t)
 zc6:∃t,mg "FIN"=some (.int 1 t)
 zc7:∃t,mg "FIRST_WAIT"=some (.int 1000 t)
 zc8:∃t,mg "FLAGS"=some (.int 4 t)
 zc9:∃t,mg "GOAL"=some (.int 1 t)
 zc10:∃t,mg "GREATEST_DATA"=some (.int 16 t)
 zc11:∃t,mg "GREATEST_FLAGS"=some (.int 31 t)
 zc12:∃t,mg "GREATEST_WORD"=some (.int 65535 t)
 zc13:∃t,mg "HALF_ROUND"=some (.int 2147483648 t)
 zc14:∃t,mg "LAST_ACK"=some (.str "last ack" t)
 zc15:∃t,mg "LAST_WAIT"=some (.int 120000 t)
 zc16:∃t,mg "LEAST_MOST"=some (.int 4 t)
 zc17:∃t,mg "LISTEN"=some (.str "listen" t)
 zc18:∃t,mg "LONGEST_WAIT"=some (.int 16000 t)
 zc19:∃t,mg "LONG_HEAD"=some (.int 24 t)
 zc20:∃t,mg "MOST"=some (.int 6 t)
 zc21:∃t,mg "MOST_TRIES"=some (.int 6 t)
 zc22:∃t,mg "MOST_UNTOLD"=some (.int 12 t)
 zc23:∃t,mg "NO_ERROR"=some (.str "" t)
 zc24:∃t,mg "NUMBER"=some (.int 2 t)
 zc25:∃t,mg "OPEN"=some (.str "open" t)
 zc26:∃t,mg "PSH"=some (.int 8 t)
 zc27:∃t,mg "REFUSED"=some (.str "refused" t)
 zc28:∃t,mg "RESET"=some (.str "reset" t)
 zc29:∃t,mg "RIGHT_SUM"=some (.int 65535 t)
 zc30:∃t,mg "ROOM"=some (.int 64 t)
 zc31:∃t,mg "ROUND"=some (.int 4294967296 t)
 zc32:∃t,mg "RST"=some (.int 4 t)
 zc33:∃t,mg "SHORT_HEAD"=some (.int 20 t)
 zc34:∃t,mg "SOURCE"=some (.int 0 t)
 zc35:∃t,mg "STEP_OF_FIRSTS"=some (.int 64000 t)
 zc36:∃t,mg "SYN"=some (.int 2 t)
 zc37:∃t,mg "SYN_COME"=some (.str "syn come" t)
 zc38:∃t,mg "SYN_SENT"=some (.str "syn sent" t)
 zc39:∃t,mg "TIME"=some (.str "time" t)
 zc40:∃t,mg "TIME_WAIT"=some (.str "time wait" t)
 zc41:∃t,mg "WAIT_ONE"=some (.str "wait one" t)
 zc42:∃t,mg "WAIT_TWO"=some (.str "wait two" t)
 zc43:∃t,mg "WINDOW"=some (.int 5 t)
 zc44:∃t,mg "WORDS"=some (.int 65536 t)
 b_enumerate:mg "enumerate"=none
 b_len:mg "len"=none
 b_list:mg "list"=none
 b_max:mg "max"=none
 b_min:mg "min"=none
 b_range:mg "range"=none
 b_sum:mg "sum"=none
 b_tuple:mg "tuple"=none
 k_End:Cls K (zB mg "End")
 k_Host:Cls K (zB mg "Host")
 k_Pile:Cls K (zB mg "Pile")
 zn0:NoAttr K (zB mg "End") "behind"
 zn1:NoAttr K (zB mg "End") "come"
 zn2:NoAttr K (zB mg "End") "early"
 zn3:NoAttr K (zB mg "End") "early_fin"
 zn4:NoAttr K (zB mg "End") "error"
 zn5:NoAttr K (zB mg "End") "first"
 zn6:NoAttr K (zB mg "End") "has_closed"
 zn7:NoAttr K (zB mg "End") "most"
 zn8:NoAttr K (zB mg "End") "nxt"
 zn9:NoAttr K (zB mg "End") "ours"
 zn10:NoAttr K (zB mg "End") "owed_reset"
 zn11:NoAttr K (zB mg "End") "owes_answer"
 zn12:NoAttr K (zB mg "End") "owes_syn"
 zn13:NoAttr K (zB mg "End") "probes"
 zn14:NoAttr K (zB mg "End") "rcv"
 zn15:NoAttr K (zB mg "End") "since"
 zn16:NoAttr K (zB mg "End") "state"
 zn17:NoAttr K (zB mg "End") "theirs"
 zn18:NoAttr K (zB mg "End") "told"
 zn19:NoAttr K (zB mg "End") "told_by"
 zn20:NoAttr K (zB mg "End") "tries"
 zn21:NoAttr K (zB mg "End") "una"
 zn22:NoAttr K (zB mg "End") "wait"
 zn23:NoAttr K (zB mg "End") "wnd"
 zn24:NoAttr K (zB mg "End") "written"
 zn25:NoAttr K (zB mg "Host") "coming_first"
 zn26:NoAttr K (zB mg "Host") "ends"
 zn27:NoAttr K (zB mg "Host") "latest"
 zn28:NoAttr K (zB mg "Host") "owed_reset"
 zn29:NoAttr K (zB mg "Host") "turn"
 zn30:NoAttr K (zB mg "Host") "untaken"
 zn31:NoAttr K (zB mg "Pile") "row"
section
variable {P:Program} {w:World} {K:PySem.W.Frag} {mg:Str→Option Value} {base:Heap}
theorem zo0 (D:Mk0 K mg "Pile" "Pile.__init__" zs0 zP0) (g:Glb K mg) :MMk P w K mg base 1 "Pile" ZbZ:=
 mk0 D zc0 1 1 rfl rfl fun f cdv A outer s H E hr=>(Zg (Zt (Zp ⟨g.k_Pile,g.zn31⟩) (Za 0) (Za8 Zf)))
theorem zo1 (D:Zw K mg "room" zs1 zP1) (g:Glb K mg) :Zq P w K mg base 1 "room" Zeu:=
 Z0 D zc1 1 1 rfl rfl fun f cdv A outer s H E hr=>(Zg (Zu (Zy Zd7 (Zl g.zc30) (zp ZdI g.b_len PySem.boot_len (Zb (Zm (Zp ⟨g.k_Pile,g.zn31⟩) (Za 0)) Zf)))))
theorem zo2 (D:Zw K mg "lay" zs2 zP2) (g:Glb K mg) (zd1:Zq P w K mg base 1 "room" Zeu):Zq P w K mg base 2 "lay" Zgc:=
 Z0 D zc2 2 3 rfl rfl fun f cdv A outer s H E hr=>(Ze (ZI 2 zc2.nd (Zea (Za 1) ZdA (ZcB (Zh zd1 hr (by decide) (Zb (Za 0) Zf)))))
 (Ze (Zt (Zp ⟨g.k_Pile,g.zn31⟩) (Za 0) (Zy Z2 (Zm (Zp ⟨g.k_Pile,g.zn31⟩) (Za 0)) (Za 2)))
 (Zg (Zu (zp ZdI g.b_len PySem.boot_len (Zb (Za 2) Zf))))))
theorem zo3 (D:Zw K mg "take" zs3 zP3) (g:Glb K mg) :Zq P w K mg base 1 "take" Zcn:=
 Z0 D zc3 2 4 rfl rfl fun f cdv A outer s H E hr=>(Ze (ZI 2 zc3.nd (zp Zxf g.b_max PyProof.Rows.boot_max (Zb (Za 1) (Zb Zk Zf))))
 (Ze (ZI 3 zc3.nd (Zea (Zm (Zp ⟨g.k_Pile,g.zn31⟩) (Za 0)) ZdA (ZcB (Za 2))))
 (Ze (Zt (Zp ⟨g.k_Pile,g.zn31⟩) (Za 0) (Zea (Zm (Zp ⟨g.k_Pile,g.zn31⟩) (Za 0)) (ZcB (Za 2)) ZdA))
 (Zg (Zu (Za 3))))))
theorem zo4 (D:Zw K mg "plus" zs4 zP4) (g:Glb K mg) :Zq P w K mg base 1 "plus" zk:=
 Z0 D zc4 2 2 rfl rfl fun f cdv A outer s H E hr=>(Zg (Zu (Zy ZbI (Zy Z2 (Za 0) (Za 1)) (Zl g.zc31))))
theorem zo5 (D:Zw K mg "offset" zs5 zP5) (g:Glb K mg) :Zq P w K mg base 1 "offset" zF:=
 Z0 D zc5 2 2 rfl rfl fun f cdv A outer s H E hr=>(Zg (Zu (Zy Zd7 (Zy ZbI (Zy Z2 (Zy Zd7 (Za 0) (Za 1)) (Zl g.zc13)) (Zl g.zc31)) (Zl g.zc13))))
theorem zo6 (D:Zw K mg "past" zs6 zP6) (g:Glb K mg) (zd5:Zq P w K mg base 1 "offset" zF):Zq P w K mg base 2 "past" Zco:=
 Z0 D zc6 2 2 rfl rfl fun f cdv A outer s H E hr=>(Zg (Zu (z7 Zlb (Zh zd5 hr (by decide) (Zb (Za 0) (Zb (Za 1) Zf))) Zk)))
theorem zo7 (D:Mk0 K mg "End" "End.__init__" zs7 zP7) (g:Glb K mg) (zd0:MMk P w K mg base 1 "Pile" ZbZ) (zd4:Zq P w K mg base 1 "plus" zk):MMk P w K mg base 3 "End" Zcs:=
 mk0 D zc7 5 5 rfl rfl fun f cdv A outer s H E hr=>(Ze (Zt (Zp ⟨g.k_End,g.zn9⟩) (Za 0) (Za 1))
 (Ze (Zt (Zp ⟨g.k_End,g.zn17⟩) (Za 0) (Za 2))
 (Ze (Zt (Zp ⟨g.k_End,g.zn16⟩) (Za 0) (Zcu (ZB (Za 4)) (Zx g.zc38) (Zx g.zc17)))
 (Ze (Zt (Zp ⟨g.k_End,g.zn4⟩) (Za 0) (Zx g.zc23))
 (Ze (Zt (Zp ⟨g.k_End,g.zn5⟩) (Za 0) (Za 3))
 (Ze (Zt (Zp ⟨g.k_End,g.zn21⟩) (Za 0) (Za 3))
 (Ze (Zt (Zp ⟨g.k_End,g.zn8⟩) (Za 0) (Za 3))
 (Ze (Zt (Zp ⟨g.k_End,g.zn14⟩) (Za 0) Zk)
 (Ze (Zt (Zp ⟨g.k_End,g.zn23⟩) (Za 0) Zk)
 (Ze (Zt (Zp ⟨g.k_End,g.zn18⟩) (Za 0) Zk)
 (Ze (Zt (Zp ⟨g.k_End,g.zn19⟩) (Za 0) Zk)
 (Ze (Zt (Zp ⟨g.k_End,g.zn7⟩) (Za 0) (Zl g.zc22))
 (Ze (Zt (Zp ⟨g.k_End,g.zn24⟩) (Za 0) (Zkz zd0 hr (by decide)))
 (Ze (Zt (Zp ⟨g.k_End,g.zn1⟩) (Za 0) (Zkz zd0 hr (by decide)))
 (Ze (Zt (Zp ⟨g.k_End,g.zn2⟩) (Za 0) ZkA)
 (Ze (Zt (Zp ⟨g.k_End,g.zn3⟩) (Za 0) zJ)
 (Ze (Zt (Zp ⟨g.k_End,g.zn6⟩) (Za 0) zr)
 (Ze (Zt (Zp ⟨g.k_End,g.zn0⟩) (Za 0) (Zh zd4 hr (by decide) (Zb (Za 3) (Zb Zk Zf))))
 (Ze (Zt (Zp ⟨g.k_End,g.zn10⟩) (Za 0) zJ)
 (Ze (Zt (Zp ⟨g.k_End,g.zn12⟩) (Za 0) zr)
 (Ze (Zt (Zp ⟨g.k_End,g.zn11⟩) (Za 0) zr)
 (Ze (Zt (Zp ⟨g.k_End,g.zn13⟩) (Za 0) zr)
 (Ze (Zt (Zp ⟨g.k_End,g.zn15⟩) (Za 0) Zk)
 (Ze (Zt (Zp ⟨g.k_End,g.zn22⟩) (Za 0) (Zl g.zc7))
 (Zg (Zt (Zp ⟨g.k_End,g.zn20⟩) (Za 0) Zk))))))))))))))))))))))))))
theorem zo8 (D:Zw K mg "start_timer" zs8 zP8) (g:Glb K mg) :Zq P w K mg base 1 "start_timer" Z7:=
 Z0 D zc8 2 2 rfl rfl fun f cdv A outer s H E hr=>(Ze (Zt (Zp ⟨g.k_End,g.zn15⟩) (Za 0) (Za 1))
 (Ze (Zt (Zp ⟨g.k_End,g.zn22⟩) (Za 0) (Zl g.zc7))
 (Zg (Zt (Zp ⟨g.k_End,g.zn20⟩) (Za 0) Zk))))
theorem zo9 (D:Zw K mg "state" zs9 zP9) (g:Glb K mg) :Zq P w K mg base 1 "state" Zes:=
 Z0 D zc9 1 1 rfl rfl fun f cdv A outer s H E hr=>(Zg (Zu (Zm (Zp ⟨g.k_End,g.zn16⟩) (Za 0))))
theorem Zza (D:Zw K mg "our_window" ZqQ ZtU) (g:Glb K mg) (zd1:Zq P w K mg base 1 "room" Zeu):Zq P w K mg base 2 "our_window" zP:=
 Z0 D zc10 1 1 rfl rfl fun f cdv A outer s H E hr=>(Zg (Zu (Zh zd1 hr (by decide) (Zb (Zm (Zp ⟨g.k_End,g.zn1⟩) (Za 0)) Zf))))
theorem Zy9 (D:Zw K mg "has_sent_fin" ZqP ZtT) (g:Glb K mg) (zd6:Zq P w K mg base 2 "past" Zco):Zq P w K mg base 3 "has_sent_fin" Zbl:=
 Z0 D zc11 1 1 rfl rfl fun f cdv A outer s H E hr=>(Zg (Zu (Zh zd6 hr (by decide) (Zb (Zm (Zp ⟨g.k_End,g.zn8⟩) (Za 0)) (Zb (Zm (Zp ⟨g.k_End,g.zn0⟩) (Za 0)) Zf)))))
theorem Zy8 (D:Zw K mg "folded" ZqO ZtS) (g:Glb K mg) :Zq P w K mg base 1 "folded" Zdh:=
 Z0 D zc12 1 2 rfl rfl fun f cdv A outer s H E hr=>(Ze (ZI 1 zc12.nd (Zy Z2 (Zy Zdy Zk (zp ZsG g.b_sum PyProof.Rows.boot_sum (Zb (Zi1 (Za 0) ZdA ZdA (ZcB Zk)) Zf))) (zp ZsG g.b_sum PyProof.Rows.boot_sum (Zb (Zi1 (Za 0) (ZcB Zk) ZdA (ZcB Zk)) Zf))))
 (Ze (Zkv 200 PassesOwn.never (ZC Zlb (Za 1) (Zl g.zc12)) (Zg (ZI 1 zc12.nd (Zy Z2 (Zy ZbI (Za 1) (Zl g.zc44)) (Zy ZiZ (Za 1) (Zl g.zc44))))))
 (Zg (Zu (Za 1)))))
theorem Zy7 (D:Zw K mg "sum_of" ZqN ZtR) (g:Glb K mg) (zd12:Zq P w K mg base 1 "folded" Zdh):Zq P w K mg base 2 "sum_of" ZeZ:=
 Z0 D zc13 1 1 rfl rfl fun f cdv A outer s H E hr=>(Zg (Zu (Zy Zd7 (Zl g.zc12) (Zh zd12 hr (by decide) (Zb (Za 0) Zf)))))
theorem Zy5 (D:Zw K mg "has" ZqL ZtP) (g:Glb K mg) :Zq P w K mg base 1 "has" Zfz:=
 Z0 D zc15 2 2 rfl rfl fun f cdv A outer s H E hr=>(Zg (Zu (Zcu (ZC (Zfx hr.units) (Zy ZwJ (Za 0) (Za 1)) Zk) Zk Zk)))
theorem Zy6 (D:Zw K mg "length" ZqM ZtQ) (g:Glb K mg) (zd15:Zq P w K mg base 1 "has" Zfz):Zq P w K mg base 2 "length" ZcG:=
 Z0 D zc14 1 2 rfl rfl fun f cdv A outer s H E hr=>(Ze (ZI 1 zc14.nd (ZF ZG (Za 0) (Zl g.zc8)))
 (Zg (Zu (Zy Z2 (Zy Z2 (zp ZdI g.b_len PySem.boot_len (Zb (ZF ZG (Za 0) (Zl g.zc5)) Zf)) (Zh zd15 hr (by decide) (Zb (Za 1) (Zb (Zl g.zc36) Zf)))) (Zh zd15 hr (by decide) (Zb (Za 1) (Zb (Zl g.zc6) Zf)))))))
theorem Zy4 (D:Zw K mg "bears" ZqK ZtO) (g:Glb K mg) (zd15:Zq P w K mg base 1 "has" Zfz):Zq P w K mg base 2 "bears" ZV:=
 Z0 D zc16 2 2 rfl rfl fun f cdv A outer s H E hr=>(Zg (Zu (z7 (Zal hr.units) (Zh zd15 hr (by decide) (Zb (ZF ZG (Za 0) (Zl g.zc8)) (Zb (Za 1) Zf))) Zk)))
theorem Zy1 (D:Zw K mg "byte_of_head" ZqH ZtL) (g:Glb K mg) :Zq P w K mg base 1 "byte_of_head" zU:=
 Z0 D zc19 1 1 rfl rfl fun f cdv A outer s H E hr=>(Zg (Zu (Zy Zdy Zk (Zy ZiZ (Za 0) Zk))))
theorem ZyZ (D:Zw K mg "two_bytes" ZqF ZtJ) (g:Glb K mg) :Zq P w K mg base 1 "two_bytes" zm:=
 Z0 D zc21 1 1 rfl rfl fun f cdv A outer s H E hr=>(Zg (Zu (Za8 (Zb (Zy ZbI (Zy ZiZ (Za 0) Zk) Zk) (Zb (Zy ZbI (Za 0) Zk) Zf)))))
theorem ZyY (D:Zw K mg "four_bytes" ZqE ZtI) (g:Glb K mg) (zd21:Zq P w K mg base 1 "two_bytes" zm):Zq P w K mg base 2 "four_bytes" Zbu:=
 Z0 D zc22 1 1 rfl rfl fun f cdv A outer s H E hr=>(Zg (Zu (Zy Z2 (Zh zd21 hr (by decide) (Zb (Zy ZiZ (Za 0) Zk) Zf)) (Zh zd21 hr (by decide) (Zb (Za 0) Zf)))))
theorem Zy2 (D:Zw K mg "bytes_ahead_of_sum" ZqI ZtM) (g:Glb K mg) (zd19:Zq P w K mg base 1 "byte_of_head" zU) (zd22:Zq P w K mg base 2 "four_bytes" Zbu) (zd21:Zq P w K mg base 1 "two_bytes" zm):Zq P w K mg base 3 "bytes_ahead_of_sum" zT:=
 Z0 D zc18 1 4 rfl rfl fun f cdv A outer s H E hr=>(Ze (ZI 1 zc18.nd (Zy Z2 (Zh zd21 hr (by decide) (Zb (ZF ZG (Za 0) (Zl g.zc34)) Zf)) (Zh zd21 hr (by decide) (Zb (ZF ZG (Za 0) (Zl g.zc9)) Zf))))
 (Ze (ZI 2 zc18.nd (Zy Z2 (Zh zd22 hr (by decide) (Zb (ZF ZG (Za 0) (Zl g.zc24)) Zf)) (Zh zd22 hr (by decide) (Zb (ZF ZG (Za 0) (Zl g.zc1)) Zf))))
 (Ze (ZI 3 zc18.nd (Zcu (ZC (Zal hr.units) (ZF ZG (Za 0) (Zl g.zc20)) Zk) (Zl g.zc33) (Zl g.zc19)))
 (Zg (Zu (Zy Z2 (Zy Z2 (Zy Z2 (Za 1) (Za 2)) (Za8 (Zb (Zh zd19 hr (by decide) (Zb (Za 3) Zf)) (Zb (ZF ZG (Za 0) (Zl g.zc8)) Zf)))) (Zh zd21 hr (by decide) (Zb (ZF ZG (Za 0) (Zl g.zc43)) Zf))))))))
theorem Zy0 (D:Zw K mg "bytes_of_most" ZqG ZtK) (g:Glb K mg) (zd21:Zq P w K mg base 1 "two_bytes" zm):Zq P w K mg base 2 "bytes_of_most" Za2:=
 Z0 D zc20 1 1 rfl rfl fun f cdv A outer s H E hr=>(Zg (Zu (Zcu (ZC (Zal hr.units) (Za 0) Zk) (Za8 Zf) (Zy Z2 (Za8 (Zb Zk (Zb Zk Zf))) (Zh zd21 hr (by decide) (Zb (Za 0) Zf))))))
theorem Zy3 (D:Zw K mg "put" ZqJ ZtN) (g:Glb K mg) (zd18:Zq P w K mg base 3 "bytes_ahead_of_sum" zT) (zd20:Zq P w K mg base 2 "bytes_of_most" Za2) (zd13:Zq P w K mg base 2 "sum_of" ZeZ) (zd21:Zq P w K mg base 1 "two_bytes" zm):Zq P w K mg base 4 "put" ZhS:=
 Z0 D zc17 1 3 rfl rfl fun f cdv A outer s H E hr=>(Ze (ZI 1 zc17.nd (Zh zd18 hr (by decide) (Zb (Za 0) Zf)))
 (Ze (ZI 2 zc17.nd (Zy Z2 (Zy Z2 (Za8 (Zb Zk (Zb Zk Zf))) (Zh zd20 hr (by decide) (Zb (ZF ZG (Za 0) (Zl g.zc20)) Zf))) (ZgT Zvm g.b_list PyProof.Rows.boot_list (Zb (ZF ZG (Za 0) (Zl g.zc5)) Zf))))
 (Zg (Zu (Zy Z2 (Zy Z2 (Za 1) (Zh zd21 hr (by decide) (Zb (Zh zd13 hr (by decide) (Zb (Zy Z2 (Zy Z2 (Za 1) (Za8 (Zb Zk (Zb Zk Zf)))) (Za 2)) Zf)) Zf))) (Za 2))))))
theorem ZyW (D:Zw K mg "head_of" ZqC ZtG) (g:Glb K mg) :Zq P w K mg base 1 "head_of" Zbt:=
 Z0 D zc24 1 1 rfl rfl fun f cdv A outer s H E hr=>(Zg (Zu (Zy Zdy (Zy ZiZ (ZF ZG (Za 0) Zk) Zk) Zk)))
theorem ZyT (D:Zw K mg "two_at" Zqz ZtD) (g:Glb K mg) :Zq P w K mg base 1 "two_at" Zad:=
 Z0 D zc27 2 2 rfl rfl fun f cdv A outer s H E hr=>(Zg (Zu (Zy Z2 (Zy Zdy Zk (ZF ZG (Za 0) (Za 1))) (ZF ZG (Za 0) (Zy Z2 (Za 1) Zk)))))
theorem ZyV (D:Zw K mg "is_right_long_head" ZqB ZtF) (g:Glb K mg) (zd15:Zq P w K mg base 1 "has" Zfz) (zd27:Zq P w K mg base 1 "two_at" Zad):Zq P w K mg base 2 "is_right_long_head" zS:=
 Z0 D zc25 1 1 rfl rfl fun f cdv A outer s H E hr=>(Zg (Zu (ZbR (z7 (Zal hr.units) (Zh zd15 hr (by decide) (Zb (ZF ZG (Za 0) Zk) (Zb (Zl g.zc36) Zf))) Zk) (ZbR (z7 (Zal hr.units) (ZF ZG (Za 0) Zk) Zk) (ZbR (z7 (Zal hr.units) (ZF ZG (Za 0) Zk) Zk) (Zdi (z7 Zry (Zh zd27 hr (by decide) (Zb (Za 0) (Zb Zk Zf))) (Zl g.zc16))))))))
theorem ZyX (D:Zw K mg "is_right" ZqD ZtH) (g:Glb K mg) (zd19:Zq P w K mg base 1 "byte_of_head" zU) (zd12:Zq P w K mg base 1 "folded" Zdh) (zd24:Zq P w K mg base 1 "head_of" Zbt) (zd25:Zq P w K mg base 2 "is_right_long_head" zS) (zd27:Zq P w K mg base 1 "two_at" Zad):Zq P w K mg base 3 "is_right" zN:=
 Z0 D zc23 1 1 rfl rfl fun f cdv A outer s H E hr=>(Zg (Zu (ZbR (z7 Zry (zp ZdI g.b_len PySem.boot_len (Zb (Za 0) Zf)) (Zl g.zc33)) (ZbR (z7 Zkr (ZF ZG (Za 0) Zk) (zA (Zb (Zh zd19 hr (by decide) (Zb (Zl g.zc33) Zf)) (Zb (Zh zd19 hr (by decide) (Zb (Zl g.zc19) Zf)) Zf))) (by with_unfolding_all rfl)) (ZbR (z7 Zk9 (ZF ZG (Za 0) Zk) (Zl g.zc11)) (ZbR (ZhY Zk9 Zk9 Zk (Zy Zd7 (zp ZdI g.b_len PySem.boot_len (Zb (Za 0) Zf)) (Zh zd24 hr (by decide) (Zb (Za 0) Zf))) (Zl g.zc10)) (ZbR (z7 (Zal hr.units) (Zh zd27 hr (by decide) (Zb (Za 0) (Zb Zk Zf))) Zk) (ZbR (Zl4 (z7 (Zal hr.units) (Zh zd24 hr (by decide) (Zb (Za 0) Zf)) (Zl g.zc33)) (Zdi (Zh zd25 hr (by decide) (Zb (Za 0) Zf)))) (Zdi (z7 (Zal hr.units) (Zh zd12 hr (by decide) (Zb (Za 0) Zf)) (Zl g.zc29)))))))))))
theorem ZyS (D:Zw K mg "four_at" Zqy ZtC) (g:Glb K mg) (zd27:Zq P w K mg base 1 "two_at" Zad):Zq P w K mg base 2 "four_at" Zc6:=
 Z0 D zc28 2 2 rfl rfl fun f cdv A outer s H E hr=>(Zg (Zu (Zy Z2 (Zy Zdy Zk (Zh zd27 hr (by decide) (Zb (Za 0) (Zb (Za 1) Zf)))) (Zh zd27 hr (by decide) (Zb (Za 0) (Zb (Zy Z2 (Za 1) Zk) Zf))))))
theorem ZyU (D:Zw K mg "get" ZqA ZtE) (g:Glb K mg) (zd28:Zq P w K mg base 2 "four_at" Zc6) (zd24:Zq P w K mg base 1 "head_of" Zbt) (zd23:Zq P w K mg base 3 "is_right" zN) (zd27:Zq P w K mg base 1 "two_at" Zad):Zq P w K mg base 4 "get" Zg8:=
 Z0 D zc26 1 5 rfl rfl fun f cdv A outer s H E hr=>(Ze (ZE (Za7 (ZB (Zh zd23 hr (by decide) (Zb (Za 0) Zf)))) (Zg Zgi) Zv)
 (Ze (ZI 1 zc26.nd (Zh zd24 hr (by decide) (Zb (Za 0) Zf)))
 (Ze (ZI 2 zc26.nd (Zcu (ZC (Zal hr.units) (Za 1) (Zl g.zc19)) (Zh zd27 hr (by decide) (Zb (Za 0) (Zb Zk Zf))) Zk))
 (Ze (ZI 3 zc26.nd (zA (Zb (Zh zd27 hr (by decide) (Zb (Za 0) (Zb Zk Zf))) (Zb (Zh zd27 hr (by decide) (Zb (Za 0) (Zb Zk Zf))) Zf))))
 (Ze (ZI 4 zc26.nd (zA (Zb (Zh zd28 hr (by decide) (Zb (Za 0) (Zb Zk Zf))) (Zb (Zh zd28 hr (by decide) (Zb (Za 0) (Zb Zk Zf))) Zf))))
 (Zg (Zu (Zy Z2 (Zy Z2 (Za 3) (Za 4)) (zA (Zb (ZF ZG (Za 0) Zk) (Zb (Zh zd27 hr (by decide) (Zb (Za 0) (Zb Zk Zf))) (Zb (Za 2) (Zb (ZgT Zmw g.b_tuple PyProof.Rows.boot_tuple (Zb (Zea (Za 0) (ZcB (Za 1)) ZdA) Zf)) Zf)))))))))))))
theorem ZyR (D:Zw K mg "reset_for" Zqx ZtB) (g:Glb K mg) (zd16:Zq P w K mg base 2 "bears" ZV) (zd14:Zq P w K mg base 2 "length" ZcG) (zd4:Zq P w K mg base 1 "plus" zk):Zq P w K mg base 3 "reset_for" ZaO:=
 Z0 D zc29 1 2 rfl rfl fun f cdv A outer s H E hr=>(Ze (ZI 1 zc29.nd (zA (Zb (ZF ZG (Za 0) (Zl g.zc9)) (Zb (ZF ZG (Za 0) (Zl g.zc34)) Zf))))
 (Ze (ZE (ZB (Zh zd16 hr (by decide) (Zb (Za 0) (Zb (Zl g.zc0) Zf)))) (Zg (Zu (Zy Z2 (Za 1) (zA (Zb (ZF ZG (Za 0) (Zl g.zc1)) (Zb Zk (Zb (Zl g.zc32) (Zb Zk (Zb Zk (Zb (zA Zf) Zf)))))))))) Zv)
 (Zg (Zu (Zy Z2 (Za 1) (zA (Zb Zk (Zb (Zh zd4 hr (by decide) (Zb (ZF ZG (Za 0) (Zl g.zc24)) (Zb (Zh zd14 hr (by decide) (Zb (Za 0) Zf)) Zf))) (Zb (Zy Z2 (Zl g.zc32) (Zl g.zc0)) (Zb Zk (Zb Zk (Zb (zA Zf) Zf))))))))))))
theorem ZyQ (D:Zw K mg "owe_reset_for" Zqw ZtA) (g:Glb K mg) (zd16:Zq P w K mg base 2 "bears" ZV) (zd29:Zq P w K mg base 3 "reset_for" ZaO):Zq P w K mg base 4 "owe_reset_for" ZY:=
 Z0 D zc30 2 2 rfl rfl fun f cdv A outer s H E hr=>(Zg (ZE (Za7 (ZB (Zh zd16 hr (by decide) (Zb (Za 1) (Zb (Zl g.zc32) Zf))))) (Zg (Zt (Zp ⟨g.k_End,g.zn10⟩) (Za 0) (Zh zd29 hr (by decide) (Zb (Za 1) Zf)))) Zv))
theorem ZyP (D:Zw K mg "come_to_closed" Zqv Ztz) (g:Glb K mg) (zd30:Zq P w K mg base 4 "owe_reset_for" ZY):Zq P w K mg base 5 "come_to_closed" ZaF:=
 Z0 D zc31 2 2 rfl rfl fun f cdv A outer s H E hr=>(Zg (ZP (Zh zd30 hr (by decide) (Zb (Za 0) (Zb (Za 1) Zf)))))
theorem ZyN (D:Zw K mg "hear_syn" Zqt Ztx) (g:Glb K mg) (zd16:Zq P w K mg base 2 "bears" ZV) (zd4:Zq P w K mg base 1 "plus" zk):Zq P w K mg base 3 "hear_syn" ZbP:=
 Z0 D zc33 2 2 rfl rfl fun f cdv A outer s H E hr=>(Ze (Zt (Zp ⟨g.k_End,g.zn14⟩) (Za 0) (Zh zd4 hr (by decide) (Zb (ZF ZG (Za 1) (Zl g.zc24)) (Zb Zk Zf))))
 (Ze (Zt (Zp ⟨g.k_End,g.zn23⟩) (Za 0) (ZF ZG (Za 1) (Zl g.zc43)))
 (Ze (Zt (Zp ⟨g.k_End,g.zn18⟩) (Za 0) (ZF ZG (Za 1) (Zl g.zc24)))
 (Ze (Zt (Zp ⟨g.k_End,g.zn19⟩) (Za 0) (Zcu (ZB (Zh zd16 hr (by decide) (Zb (Za 1) (Zb (Zl g.zc0) Zf)))) (ZF ZG (Za 1) (Zl g.zc1)) Zk))
 (Zg (ZE (ZC (Zfx hr.units) (ZF ZG (Za 1) (Zl g.zc20)) Zk) (Zg (Zt (Zp ⟨g.k_End,g.zn7⟩) (Za 0) (ZF ZG (Za 1) (Zl g.zc20)))) Zv))))))
theorem ZyO (D:Zw K mg "come_to_listen" Zqu Zty) (g:Glb K mg) (zd16:Zq P w K mg base 2 "bears" ZV) (zd33:Zq P w K mg base 3 "hear_syn" ZbP) (zd30:Zq P w K mg base 4 "owe_reset_for" ZY):Zq P w K mg base 5 "come_to_listen" zx:=
 Z0 D zc32 2 2 rfl rfl fun f cdv A outer s H E hr=>(Ze (ZE (ZB (Zh zd16 hr (by decide) (Zb (Za 1) (Zb (Zl g.zc32) Zf)))) (Zg Zey) Zv)
 (Zg (ZE (ZB (Zh zd16 hr (by decide) (Zb (Za 1) (Zb (Zl g.zc0) Zf)))) (Zg (ZP (Zh zd30 hr (by decide) (Zb (Za 0) (Zb (Za 1) Zf))))) (Zg (ZE (ZB (Zh zd16 hr (by decide) (Zb (Za 1) (Zb (Zl g.zc36) Zf)))) (Ze (Zt (Zp ⟨g.k_End,g.zn17⟩) (Za 0) (ZF ZG (Za 1) (Zl g.zc34)))
   (Ze (ZP (Zh zd33 hr (by decide) (Zb (Za 0) (Zb (Za 1) Zf))))
   (Zg (Zt (Zp ⟨g.k_End,g.zn16⟩) (Za 0) (Zx g.zc37))))) Zv)))))
theorem ZyL (D:Zw K mg "answers_syn" Zqr Ztv) (g:Glb K mg) (zd4:Zq P w K mg base 1 "plus" zk):Zq P w K mg base 2 "answers_syn" ZbH:=
 Z0 D zc35 2 2 rfl rfl fun f cdv A outer s H E hr=>(Zg (Zu (ZbR (z7 (Zfx hr.units) (Zm (Zp ⟨g.k_End,g.zn8⟩) (Za 0)) (Zm (Zp ⟨g.k_End,g.zn5⟩) (Za 0))) (Zdi (z7 (Zal hr.units) (ZF ZG (Za 1) (Zl g.zc1)) (Zh zd4 hr (by decide) (Zb (Zm (Zp ⟨g.k_End,g.zn5⟩) (Za 0)) (Zb Zk Zf))))))))
theorem ZyJ (D:Zw K mg "go_on_from_syn_sent" Zqp Ztt) (g:Glb K mg) (zd16:Zq P w K mg base 2 "bears" ZV) (zd8:Zq P w K mg base 1 "start_timer" Z7):Zq P w K mg base 3 "go_on_from_syn_sent" zL:=
 Z0 D zc37 3 3 rfl rfl fun f cdv A outer s H E hr=>(Zg (ZE (ZB (Zh zd16 hr (by decide) (Zb (Za 1) (Zb (Zl g.zc0) Zf)))) (Ze (Zt (Zp ⟨g.k_End,g.zn21⟩) (Za 0) (ZF ZG (Za 1) (Zl g.zc1)))
  (Ze (Zt (Zp ⟨g.k_End,g.zn16⟩) (Za 0) (Zx g.zc25))
  (Zg (Zt (Zp ⟨g.k_End,g.zn11⟩) (Za 0) zr)))) (Ze (Zt (Zp ⟨g.k_End,g.zn16⟩) (Za 0) (Zx g.zc37))
  (Ze (ZP (Zh zd8 hr (by decide) (Zb (Za 0) (Zb (Za 2) Zf))))
  (Zg (Zt (Zp ⟨g.k_End,g.zn12⟩) (Za 0) zr))))))
theorem ZyK (D:Zw K mg "refuse" Zqq Ztu) (g:Glb K mg) (zd16:Zq P w K mg base 2 "bears" ZV):Zq P w K mg base 3 "refuse" Ze0:=
 Z0 D zc36 2 2 rfl rfl fun f cdv A outer s H E hr=>(Zg (ZE (ZB (Zh zd16 hr (by decide) (Zb (Za 1) (Zb (Zl g.zc0) Zf)))) (Ze (Zt (Zp ⟨g.k_End,g.zn16⟩) (Za 0) (Zx g.zc2))
  (Zg (Zt (Zp ⟨g.k_End,g.zn4⟩) (Za 0) (Zx g.zc27)))) Zv))
theorem ZyM (D:Zw K mg "come_to_syn_sent" Zqs Ztw) (g:Glb K mg) (zd35:Zq P w K mg base 2 "answers_syn" ZbH) (zd16:Zq P w K mg base 2 "bears" ZV) (zd37:Zq P w K mg base 3 "go_on_from_syn_sent" zL) (zd33:Zq P w K mg base 3 "hear_syn" ZbP) (zd30:Zq P w K mg base 4 "owe_reset_for" ZY) (zd36:Zq P w K mg base 3 "refuse" Ze0):Zq P w K mg base 5 "come_to_syn_sent" ZU:=
 Z0 D zc34 3 3 rfl rfl fun f cdv A outer s H E hr=>(Zg (ZE (MW.mt (ZcN (ZB (Zh zd16 hr (by decide) (Zb (Za 1) (Zb (Zl g.zc0) Zf)))) (ZaV (Za7 (ZB (Zh zd35 hr (by decide) (Zb (Za 0) (Zb (Za 1) Zf)))))))) (Zg (ZP (Zh zd30 hr (by decide) (Zb (Za 0) (Zb (Za 1) Zf))))) (Zg (ZE (ZB (Zh zd16 hr (by decide) (Zb (Za 1) (Zb (Zl g.zc32) Zf)))) (Zg (ZP (Zh zd36 hr (by decide) (Zb (Za 0) (Zb (Za 1) Zf))))) (Zg (ZE (ZB (Zh zd16 hr (by decide) (Zb (Za 1) (Zb (Zl g.zc36) Zf)))) (Ze (ZP (Zh zd33 hr (by decide) (Zb (Za 0) (Zb (Za 1) Zf))))
    (Zg (ZP (Zh zd37 hr (by decide) (Zb (Za 0) (Zb (Za 1) (Zb (Za 2) Zf))))))) Zv))))))
theorem ZyE (D:Zw K mg "is_in_window" Zqk Zto) (g:Glb K mg) (zd5:Zq P w K mg base 1 "offset" zF) (zd10:Zq P w K mg base 2 "our_window" zP):Zq P w K mg base 3 "is_in_window" zo:=
 Z0 D zc42 2 2 rfl rfl fun f cdv A outer s H E hr=>(Zg (Zu (ZhY Zk9 ZAj Zk (Zh zd5 hr (by decide) (Zb (Za 1) (Zb (Zm (Zp ⟨g.k_End,g.zn14⟩) (Za 0)) Zf))) (Zh zd10 hr (by decide) (Zb (Za 0) Zf)))))
theorem ZyF (D:Zw K mg "fits" Zql Ztp) (g:Glb K mg) (zd42:Zq P w K mg base 3 "is_in_window" zo) (zd14:Zq P w K mg base 2 "length" ZcG) (zd5:Zq P w K mg base 1 "offset" zF) (zd4:Zq P w K mg base 1 "plus" zk):Zq P w K mg base 4 "fits" ZgP:=
 Z0 D zc41 2 4 rfl rfl fun f cdv A outer s H E hr=>(Ze (ZI 2 zc41.nd (Zh zd14 hr (by decide) (Zb (Za 1) Zf)))
 (Ze (ZE (ZC (Zal hr.units) (Za 2) Zk) (Zg (Zu (ZhY Zk9 Zk9 Zk (Zh zd5 hr (by decide) (Zb (ZF ZG (Za 1) (Zl g.zc24)) (Zb (Zm (Zp ⟨g.k_End,g.zn14⟩) (Za 0)) Zf))) (Zl g.zc30)))) Zv)
 (Ze (ZI 3 zc41.nd (Zh zd4 hr (by decide) (Zb (ZF ZG (Za 1) (Zl g.zc24)) (Zb (Zy Zd7 (Za 2) Zk) Zf))))
 (Zg (Zu (Zl4 (Zh zd42 hr (by decide) (Zb (Za 0) (Zb (ZF ZG (Za 1) (Zl g.zc24)) Zf))) (Zdi (Zh zd42 hr (by decide) (Zb (Za 0) (Zb (Za 3) Zf))))))))))
theorem Zyw (D:Zw K mg "end_what_is_acknowledged" Zqc Ztg) (g:Glb K mg) (zd11:Zq P w K mg base 3 "has_sent_fin" Zbl):Zq P w K mg base 4 "end_what_is_acknowledged" ZT:=
 Z0 D Zzv 2 2 rfl rfl fun f cdv A outer s H E hr=>(Ze (ZE (MW.mt (Zd8 (Za7 (ZB (Zh zd11 hr (by decide) (Zb (Za 0) Zf)))) (ZaG (ZC (Zfx hr.units) (Zm (Zp ⟨g.k_End,g.zn21⟩) (Za 0)) (Zm (Zp ⟨g.k_End,g.zn8⟩) (Za 0)))))) (Zg Zey) Zv)
 (Zg (ZE (ZC (Zal hr.units) (Zm (Zp ⟨g.k_End,g.zn16⟩) (Za 0)) (Zx g.zc41)) (Zg (Zt (Zp ⟨g.k_End,g.zn16⟩) (Za 0) (Zx g.zc42))) (Zg (ZE (ZC (Zal hr.units) (Zm (Zp ⟨g.k_End,g.zn16⟩) (Za 0)) (Zx g.zc4)) (Ze (Zt (Zp ⟨g.k_End,g.zn16⟩) (Za 0) (Zx g.zc40))
   (Zg (Zt (Zp ⟨g.k_End,g.zn15⟩) (Za 0) (Za 1)))) (Zg (ZE (ZC (Zal hr.units) (Zm (Zp ⟨g.k_End,g.zn16⟩) (Za 0)) (Zx g.zc14)) (Zg (Zt (Zp ⟨g.k_End,g.zn16⟩) (Za 0) (Zx g.zc2))) Zv)))))))
theorem Zyz (D:Zw K mg "take_window" Zqf Ztj) (g:Glb K mg) :Zq P w K mg base 1 "take_window" Zaz:=
 Z0 D Zzx 2 2 rfl rfl fun f cdv A outer s H E hr=>(Ze (Zt (Zp ⟨g.k_End,g.zn23⟩) (Za 0) (ZF ZG (Za 1) (Zl g.zc43)))
 (Ze (Zt (Zp ⟨g.k_End,g.zn18⟩) (Za 0) (ZF ZG (Za 1) (Zl g.zc24)))
 (Zg (Zt (Zp ⟨g.k_End,g.zn19⟩) (Za 0) (ZF ZG (Za 1) (Zl g.zc1))))))
theorem ZyA (D:Zw K mg "has_answered_syn" Zqg Ztk) (g:Glb K mg) (zd30:Zq P w K mg base 4 "owe_reset_for" ZY) (zd47:Zq P w K mg base 1 "take_window" Zaz):Zq P w K mg base 5 "has_answered_syn" zt:=
 Z0 D Zzy 2 2 rfl rfl fun f cdv A outer s H E hr=>(Ze (ZE (MW.mt (Zd8 (ZC (Zal hr.units) (Zm (Zp ⟨g.k_End,g.zn8⟩) (Za 0)) (Zm (Zp ⟨g.k_End,g.zn5⟩) (Za 0))) (ZaG (ZC (Zfx hr.units) (ZF ZG (Za 1) (Zl g.zc1)) (Zm (Zp ⟨g.k_End,g.zn8⟩) (Za 0)))))) (Ze (ZP (Zh zd30 hr (by decide) (Zb (Za 0) (Zb (Za 1) Zf))))
  (Zg (Zu zr))) Zv)
 (Ze (Zt (Zp ⟨g.k_End,g.zn21⟩) (Za 0) (ZF ZG (Za 1) (Zl g.zc1)))
 (Ze (Zt (Zp ⟨g.k_End,g.zn16⟩) (Za 0) (Zcu (ZB (Zm (Zp ⟨g.k_End,g.zn6⟩) (Za 0))) (Zx g.zc41) (Zx g.zc25)))
 (Ze (ZP (Zh zd47 hr (by decide) (Zb (Za 0) (Zb (Za 1) Zf))))
 (Zg (Zu zr))))))
theorem Zyx (D:Zw K mg "is_newer" Zqd Zth) (g:Glb K mg) (zd6:Zq P w K mg base 2 "past" Zco):Zq P w K mg base 3 "is_newer" Zdf:=
 Z0 D Zzw 2 2 rfl rfl fun f cdv A outer s H E hr=>(Ze (ZE (ZC (Zal hr.units) (ZF ZG (Za 1) (Zl g.zc24)) (Zm (Zp ⟨g.k_End,g.zn18⟩) (Za 0))) (Zg (Zu (Zle (Zh zd6 hr (by decide) (Zb (Zm (Zp ⟨g.k_End,g.zn19⟩) (Za 0)) (Zb (ZF ZG (Za 1) (Zl g.zc1)) Zf)))))) Zv)
 (Zg (Zu (Zh zd6 hr (by decide) (Zb (ZF ZG (Za 1) (Zl g.zc24)) (Zb (Zm (Zp ⟨g.k_End,g.zn18⟩) (Za 0)) Zf))))))
theorem Zyy (D:Zw K mg "hear_answer" Zqe Zti) (g:Glb K mg) (zd49:Zq P w K mg base 3 "is_newer" Zdf) (zd5:Zq P w K mg base 1 "offset" zF) (zd6:Zq P w K mg base 2 "past" Zco) (zd8:Zq P w K mg base 1 "start_timer" Z7) (zd3:Zq P w K mg base 1 "take" Zcn) (zd47:Zq P w K mg base 1 "take_window" Zaz):Zq P w K mg base 4 "hear_answer" zQ:=
 Z0 D zc48 3 6 rfl rfl fun f cdv A outer s H E hr=>(Ze (ZI 3 zc48.nd (ZF ZG (Za 1) (Zl g.zc1)))
 (Ze (ZI 4 zc48.nd (Zh zd6 hr (by decide) (Zb (Za 3) (Zb (Zm (Zp ⟨g.k_End,g.zn21⟩) (Za 0)) Zf))))
 (Ze (ZE (ZB (Za 4)) (Ze (ZP (Zh zd3 hr (by decide) (Zb (Zm (Zp ⟨g.k_End,g.zn24⟩) (Za 0)) (Zb (Zh zd5 hr (by decide) (Zb (Za 3) (Zb (Zm (Zp ⟨g.k_End,g.zn21⟩) (Za 0)) Zf))) Zf))))
  (Ze (Zt (Zp ⟨g.k_End,g.zn21⟩) (Za 0) (Za 3))
  (Zg (ZE (ZC (Zfx hr.units) (Zm (Zp ⟨g.k_End,g.zn21⟩) (Za 0)) (Zm (Zp ⟨g.k_End,g.zn8⟩) (Za 0))) (Zg (ZP (Zh zd8 hr (by decide) (Zb (Za 0) (Zb (Za 2) Zf))))) Zv)))) Zv)
 (Ze (ZE (ZB (Zh zd6 hr (by decide) (Zb (Zm (Zp ⟨g.k_End,g.zn21⟩) (Za 0)) (Zb (Za 3) Zf)))) (Zg Zey) Zv)
 (Ze (ZI 5 zc48.nd (z7 (Zal hr.units) (Zm (Zp ⟨g.k_End,g.zn23⟩) (Za 0)) Zk))
 (Ze (ZE (MW.mt (Zd8 (ZB (Za 4)) (ZaG (ZB (Zh zd49 hr (by decide) (Zb (Za 0) (Zb (Za 1) Zf))))))) (Zg (ZP (Zh zd47 hr (by decide) (Zb (Za 0) (Zb (Za 1) Zf))))) Zv)
 (Zg (ZE (MW.mt (Zd8 (ZB (Za 5)) (ZaG (ZC (Zal hr.units) (Zm (Zp ⟨g.k_End,g.zn23⟩) (Za 0)) Zk)))) (Zg (Zt (Zp ⟨g.k_End,g.zn20⟩) (Za 0) Zk)) Zv))))))))
theorem ZyB (D:Zw K mg "goes_on_behind_answer" Zqh Ztl) (g:Glb K mg) (zd50:Zq P w K mg base 4 "end_what_is_acknowledged" ZT) (zd46:Zq P w K mg base 5 "has_answered_syn" zt) (zd48:Zq P w K mg base 4 "hear_answer" zQ) (zd6:Zq P w K mg base 2 "past" Zco):Zq P w K mg base 6 "goes_on_behind_answer" ZZ:=
 Z0 D Zzz 3 3 rfl rfl fun f cdv A outer s H E hr=>(Ze (ZE (ZC (Zal hr.units) (Zm (Zp ⟨g.k_End,g.zn16⟩) (Za 0)) (Zx g.zc37)) (Zg (Zu (Zh zd46 hr (by decide) (Zb (Za 0) (Zb (Za 1) Zf))))) Zv)
 (Ze (ZE (ZB (Zh zd6 hr (by decide) (Zb (ZF ZG (Za 1) (Zl g.zc1)) (Zb (Zm (Zp ⟨g.k_End,g.zn8⟩) (Za 0)) Zf)))) (Ze (Zt (Zp ⟨g.k_End,g.zn11⟩) (Za 0) zr)
  (Zg (Zu zr))) Zv)
 (Ze (ZP (Zh zd48 hr (by decide) (Zb (Za 0) (Zb (Za 1) (Zb (Za 2) Zf)))))
 (Ze (ZP (Zh zd50 hr (by decide) (Zb (Za 0) (Zb (Za 2) Zf))))
 (Zg (Zu (z7 (Zfx hr.units) (Zm (Zp ⟨g.k_End,g.zn16⟩) (Za 0)) (Zx g.zc2))))))))
theorem ZyC (D:Zw K mg "hear_reset" Zqi Ztm) (g:Glb K mg) :Zq P w K mg base 1 "hear_reset" Zbs:=
 Z0 D zc44 2 2 rfl rfl fun f cdv A outer s H E hr=>(Ze (ZE (ZC (Zal hr.units) (Zm (Zp ⟨g.k_End,g.zn16⟩) (Za 0)) (Zx g.zc40)) (Zg Zey) Zv)
 (Zg (ZE (ZC (Zal hr.units) (ZF ZG (Za 1) (Zl g.zc24)) (Zm (Zp ⟨g.k_End,g.zn14⟩) (Za 0))) (Ze (Zt (Zp ⟨g.k_End,g.zn16⟩) (Za 0) (Zx g.zc2))
  (Zg (Zt (Zp ⟨g.k_End,g.zn4⟩) (Za 0) (Zx g.zc28)))) (Zg (Zt (Zp ⟨g.k_End,g.zn11⟩) (Za 0) zr)))))
theorem Zys (D:Zw K mg "draw_in_order" Zp8 Ztc) (g:Glb K mg) (zd2:Zq P w K mg base 2 "lay" Zgc) (zd4:Zq P w K mg base 1 "plus" zk):Zq P w K mg base 3 "draw_in_order" Za1:=
 Z0 D zc54 1 2 rfl rfl fun f cdv A outer s H E hr=>(Ze (ZgR 1 zc54.nd Zf)
 (Ze (Zkv 200 PassesOwn.never (MW.mt (ZcN (ZC (Zfx hr.units) (Zm (Zp ⟨g.k_End,g.zn14⟩) (Za 0)) (Zm (Zp ⟨g.k_End,g.zn3⟩) (Za 0))) (ZaV (Zld hr (Zm (Zp ⟨g.k_End,g.zn14⟩) (Za 0)) (Zm (Zp ⟨g.k_End,g.zn2⟩) (Za 0)))))) (Ze (ZgS 1 (Zl6 (Zm (Zp ⟨g.k_End,g.zn2⟩) (Za 0)) (Zm (Zp ⟨g.k_End,g.zn14⟩) (Za 0)) ⟨rfl,rfl,rfl,rfl⟩) (hpe:=fun h=>ZiV PySem.F.plainAttrs_list PySem.F.slot_list_append PySem.F.type_list_append Zd9 h (Zer (Zl6 (Zm (Zp ⟨g.k_End,g.zn2⟩) (Za 0)) (Zm (Zp ⟨g.k_End,g.zn14⟩) (Za 0)) ⟨rfl,rfl,rfl,rfl⟩) ZfG)))
  (Zg (Zt (Zp ⟨g.k_End,g.zn14⟩) (Za 0) (Zh zd4 hr (by decide) (Zb (Zm (Zp ⟨g.k_End,g.zn14⟩) (Za 0)) (Zb Zk Zf)))))))
 (Zg (Zb0 1 (ZP (Zh zd2 hr (by decide) (Zb (Zm (Zp ⟨g.k_End,g.zn1⟩) (Za 0)) (Zb (Za 1) Zf))))))))
theorem Zyr (D:Zw K mg "hear_fin" Zp7 Ztb) (g:Glb K mg) (zd4:Zq P w K mg base 1 "plus" zk):Zq P w K mg base 2 "hear_fin" Zcr:=
 Z0 D Zzt 2 2 rfl rfl fun f cdv A outer s H E hr=>(Ze (Zt (Zp ⟨g.k_End,g.zn14⟩) (Za 0) (Zh zd4 hr (by decide) (Zb (Zm (Zp ⟨g.k_End,g.zn14⟩) (Za 0)) (Zb Zk Zf))))
 (Zg (ZE (ZC (Zal hr.units) (Zm (Zp ⟨g.k_End,g.zn16⟩) (Za 0)) (Zx g.zc25)) (Zg (Zt (Zp ⟨g.k_End,g.zn16⟩) (Za 0) (Zx g.zc3))) (Zg (ZE (ZC (Zal hr.units) (Zm (Zp ⟨g.k_End,g.zn16⟩) (Za 0)) (Zx g.zc41)) (Zg (Zt (Zp ⟨g.k_End,g.zn16⟩) (Za 0) (Zx g.zc4))) (Ze (Zt (Zp ⟨g.k_End,g.zn16⟩) (Za 0) (Zx g.zc40))
   (Zg (Zt (Zp ⟨g.k_End,g.zn15⟩) (Za 0) (Za 1)))))))))
theorem Zyu (D:Zw K mg "keep_data" Zqa Zte) (g:Glb K mg) (zd42:Zq P w K mg base 3 "is_in_window" zo) (zd4:Zq P w K mg base 1 "plus" zk):Zq P w K mg base 4 "keep_data" ZbY:=
 Z0 D zc52 2 5 rfl rfl fun f cdv A outer s H E hr=>(Ze (ZrB 2 3 zc52.nd PassesOwn.never g.b_enumerate (Zb (ZF ZG (Za 1) (Zl g.zc5)) Zf) (Ze (ZI 4 zc52.nd (Zh zd4 hr (by decide) (Zb (ZF ZG (Za 1) (Zl g.zc24)) (Zb (Za 2) Zf))))
  (Zg (ZE (ZB (Zh zd42 hr (by decide) (Zb (Za 0) (Zb (Za 4) Zf)))) (Zg (ZP (ZoJ (Zm (Zp ⟨g.k_End,g.zn2⟩) (Za 0)) (Za 4) (Za 3) ⟨rfl,rfl,rfl,rfl⟩))) Zv))))
 (Zg (ZE (ZC Zlb (zp ZdI g.b_len PySem.boot_len (Zb (ZF ZG (Za 1) (Zl g.zc5)) Zf)) Zk) (Zg (Zt (Zp ⟨g.k_End,g.zn11⟩) (Za 0) zr)) Zv)))
theorem Zyt (D:Zw K mg "keep_fin" Zp9 Ztd) (g:Glb K mg) (zd16:Zq P w K mg base 2 "bears" ZV) (zd42:Zq P w K mg base 3 "is_in_window" zo) (zd4:Zq P w K mg base 1 "plus" zk):Zq P w K mg base 4 "keep_fin" Zcq:=
 Z0 D zc53 2 3 rfl rfl fun f cdv A outer s H E hr=>(Ze (ZE (Za7 (ZB (Zh zd16 hr (by decide) (Zb (Za 1) (Zb (Zl g.zc6) Zf))))) (Zg Zey) Zv)
 (Ze (Zt (Zp ⟨g.k_End,g.zn11⟩) (Za 0) zr)
 (Ze (ZI 2 zc53.nd (Zh zd4 hr (by decide) (Zb (ZF ZG (Za 1) (Zl g.zc24)) (Zb (zp ZdI g.b_len PySem.boot_len (Zb (ZF ZG (Za 1) (Zl g.zc5)) Zf)) Zf))))
 (Zg (ZE (MW.mt (ZcN (ZC Zla (Zm (Zp ⟨g.k_End,g.zn3⟩) (Za 0)) zJ) (ZaV (ZB (Zh zd42 hr (by decide) (Zb (Za 0) (Zb (Za 2) Zf))))))) (Zg (Zt (Zp ⟨g.k_End,g.zn3⟩) (Za 0) (Za 2))) Zv)))))
theorem Zyv (D:Zw K mg "hear_stream" Zqb Ztf) (g:Glb K mg) (zd54:Zq P w K mg base 3 "draw_in_order" Za1) (zd55:Zq P w K mg base 2 "hear_fin" Zcr) (zd52:Zq P w K mg base 4 "keep_data" ZbY) (zd53:Zq P w K mg base 4 "keep_fin" Zcq):Zq P w K mg base 5 "hear_stream" ZaA:=
 Z0 D Zzu 3 3 rfl rfl fun f cdv A outer s H E hr=>(Ze (ZE (ZC Zju (Zm (Zp ⟨g.k_End,g.zn16⟩) (Za 0)) (zA (Zb (Zx g.zc25) (Zb (Zx g.zc41) (Zb (Zx g.zc42) Zf)))) (by with_unfolding_all rfl)) (Zg Zey) Zv)
 (Ze (ZP (Zh zd52 hr (by decide) (Zb (Za 0) (Zb (Za 1) Zf))))
 (Ze (ZP (Zh zd53 hr (by decide) (Zb (Za 0) (Zb (Za 1) Zf))))
 (Ze (ZP (Zh zd54 hr (by decide) (Zb (Za 0) Zf)))
 (Zg (ZE (ZC (Zal hr.units) (Zm (Zp ⟨g.k_End,g.zn14⟩) (Za 0)) (Zm (Zp ⟨g.k_End,g.zn3⟩) (Za 0))) (Zg (ZP (Zh zd55 hr (by decide) (Zb (Za 0) (Zb (Za 2) Zf))))) Zv))))))
theorem ZyD (D:Zw K mg "turn_away" Zqj Ztn) (g:Glb K mg) (zd16:Zq P w K mg base 2 "bears" ZV):Zq P w K mg base 3 "turn_away" Zbk:=
 Z0 D zc43 3 3 rfl rfl fun f cdv A outer s H E hr=>(Ze (ZE (ZB (Zh zd16 hr (by decide) (Zb (Za 1) (Zb (Zl g.zc32) Zf)))) (Zg Zey) Zv)
 (Ze (ZE (MW.mt (ZcN (ZC (Zal hr.units) (Zm (Zp ⟨g.k_End,g.zn16⟩) (Za 0)) (Zx g.zc37)) (ZcN (ZB (Zh zd16 hr (by decide) (Zb (Za 1) (Zb (Zl g.zc36) Zf)))) (ZaV (Za7 (ZB (Zh zd16 hr (by decide) (Zb (Za 1) (Zb (Zl g.zc0) Zf))))))))) (Zg (Zt (Zp ⟨g.k_End,g.zn12⟩) (Za 0) zr)) (Zg (Zt (Zp ⟨g.k_End,g.zn11⟩) (Za 0) zr)))
 (Zg (ZE (ZC (Zal hr.units) (Zm (Zp ⟨g.k_End,g.zn16⟩) (Za 0)) (Zx g.zc40)) (Zg (Zt (Zp ⟨g.k_End,g.zn15⟩) (Za 0) (Za 2))) Zv))))
theorem ZyG (D:Zw K mg "come_to_stream" Zqm Ztq) (g:Glb K mg) (zd16:Zq P w K mg base 2 "bears" ZV) (zd41:Zq P w K mg base 4 "fits" ZgP) (zd45:Zq P w K mg base 6 "goes_on_behind_answer" ZZ) (zd44:Zq P w K mg base 1 "hear_reset" Zbs) (zd51:Zq P w K mg base 5 "hear_stream" ZaA) (zd43:Zq P w K mg base 3 "turn_away" Zbk):Zq P w K mg base 7 "come_to_stream" Z9:=
 Z0 D zc40 3 3 rfl rfl fun f cdv A outer s H E hr=>(Zg (ZE (Za7 (ZB (Zh zd41 hr (by decide) (Zb (Za 0) (Zb (Za 1) Zf))))) (Zg (ZP (Zh zd43 hr (by decide) (Zb (Za 0) (Zb (Za 1) (Zb (Za 2) Zf)))))) (Zg (ZE (ZB (Zh zd16 hr (by decide) (Zb (Za 1) (Zb (Zl g.zc32) Zf)))) (Zg (ZP (Zh zd44 hr (by decide) (Zb (Za 0) (Zb (Za 1) Zf))))) (Zg (ZE (ZB (Zh zd16 hr (by decide) (Zb (Za 1) (Zb (Zl g.zc36) Zf)))) (Zg (Zt (Zp ⟨g.k_End,g.zn11⟩) (Za 0) zr)) (Zg (ZE (MW.mt (ZcN (ZB (Zh zd16 hr (by decide) (Zb (Za 1) (Zb (Zl g.zc0) Zf)))) (ZaV (ZB (Zh zd45 hr (by decide) (Zb (Za 0) (Zb (Za 1) (Zb (Za 2) Zf)))))))) (Zg (ZP (Zh zd51 hr (by decide) (Zb (Za 0) (Zb (Za 1) (Zb (Za 2) Zf)))))) Zv))))))))
theorem ZyH (D:Zw K mg "is_for" Zqn Ztr) (g:Glb K mg) :Zq P w K mg base 1 "is_for" Ze2:=
 Z0 D zc39 2 2 rfl rfl fun f cdv A outer s H E hr=>(Zg (Zu (ZbR (z7 (Zal hr.units) (ZF ZG (Za 1) (Zl g.zc9)) (Zm (Zp ⟨g.k_End,g.zn9⟩) (Za 0))) (Zdi (Zl4 (z7 Zkr (Zm (Zp ⟨g.k_End,g.zn16⟩) (Za 0)) (zA (Zb (Zx g.zc2) (Zb (Zx g.zc17) Zf))) (by with_unfolding_all rfl)) (Zdi (z7 (Zal hr.units) (ZF ZG (Za 1) (Zl g.zc34)) (Zm (Zp ⟨g.k_End,g.zn17⟩) (Za 0)))))))))
theorem ZyI (D:Zw K mg "arrive" Zqo Zts) (g:Glb K mg) (zd31:Zq P w K mg base 5 "come_to_closed" ZaF) (zd32:Zq P w K mg base 5 "come_to_listen" zx) (zd40:Zq P w K mg base 7 "come_to_stream" Z9) (zd34:Zq P w K mg base 5 "come_to_syn_sent" ZU) (zd26:Zq P w K mg base 4 "get" Zg8) (zd39:Zq P w K mg base 1 "is_for" Ze2) (zd23:Zq P w K mg base 3 "is_right" zN):Zq P w K mg base 8 "arrive" Za3:=
 Z0 D zc38 3 4 rfl rfl fun f cdv A outer s H E hr=>(Ze (ZE (Za7 (ZB (Zh zd23 hr (by decide) (Zb (Za 1) Zf)))) (Zg (Zu zr)) Zv)
 (Ze (ZI 3 zc38.nd (Zh zd26 hr (by decide) (Zb (Za 1) Zf)))
 (Ze (ZE (Za7 (ZB (Zh zd39 hr (by decide) (Zb (Za 0) (Zb (Za 3) Zf))))) (Zg (Zu zr)) Zv)
 (Ze (ZE (ZC (Zal hr.units) (Zm (Zp ⟨g.k_End,g.zn16⟩) (Za 0)) (Zx g.zc2)) (Zg (ZP (Zh zd31 hr (by decide) (Zb (Za 0) (Zb (Za 3) Zf))))) (Zg (ZE (ZC (Zal hr.units) (Zm (Zp ⟨g.k_End,g.zn16⟩) (Za 0)) (Zx g.zc17)) (Zg (ZP (Zh zd32 hr (by decide) (Zb (Za 0) (Zb (Za 3) Zf))))) (Zg (ZE (ZC (Zal hr.units) (Zm (Zp ⟨g.k_End,g.zn16⟩) (Za 0)) (Zx g.zc38)) (Zg (ZP (Zh zd34 hr (by decide) (Zb (Za 0) (Zb (Za 3) (Zb (Za 2) Zf)))))) (Zg (ZP (Zh zd40 hr (by decide) (Zb (Za 0) (Zb (Za 3) (Zb (Za 2) Zf)))))))))))
 (Zg (Zu zr))))))
theorem Zyq (D:Zw K mg "opened" Zp6 Zta) (g:Glb K mg) (zd7:MMk P w K mg base 3 "End" Zcs):Zq P w K mg base 5 "opened" Ze1:=
 Z0 D Zzs 4 4 rfl rfl fun f cdv A outer s H E hr=>(Zg (Zu (Zjx zd7 hr (by decide) (Zb (Za 0) (Zb (Za 1) (Zb (Za 2) (Zb (Za 3) Zf)))))))
theorem Zyp (D:Zw K mg "write" Zp5 Zs9) (g:Glb K mg) (zd2:Zq P w K mg base 2 "lay" Zgc) (zd4:Zq P w K mg base 1 "plus" zk):Zq P w K mg base 3 "write" p_write:=
 Z0 D zc57 2 3 rfl rfl fun f cdv A outer s H E hr=>(Ze (ZE (MW.mt (Zd8 (ZB (Zm (Zp ⟨g.k_End,g.zn6⟩) (Za 0))) (ZaG (ZC Zju (Zm (Zp ⟨g.k_End,g.zn16⟩) (Za 0)) (zA (Zb (Zx g.zc38) (Zb (Zx g.zc37) (Zb (Zx g.zc25) (Zb (Zx g.zc3) Zf))))) (by with_unfolding_all rfl))))) (Zg (Zu Zk)) Zv)
 (Ze (ZI 2 zc57.nd (Zh zd2 hr (by decide) (Zb (Zm (Zp ⟨g.k_End,g.zn24⟩) (Za 0)) (Zb (Za 1) Zf))))
 (Ze (Zt (Zp ⟨g.k_End,g.zn0⟩) (Za 0) (Zh zd4 hr (by decide) (Zb (Zm (Zp ⟨g.k_End,g.zn0⟩) (Za 0)) (Zb (Za 2) Zf))))
 (Zg (Zu (Za 2))))))
theorem Zyo (D:Zw K mg "read" Zp4 Zs8) (g:Glb K mg) (zd10:Zq P w K mg base 2 "our_window" zP) (zd3:Zq P w K mg base 1 "take" Zcn):Zq P w K mg base 3 "read" ZdP:=
 Z0 D zc58 2 4 rfl rfl fun f cdv A outer s H E hr=>(Ze (ZI 2 zc58.nd (z7 (Zal hr.units) (Zh zd10 hr (by decide) (Zb (Za 0) Zf)) Zk))
 (Ze (ZI 3 zc58.nd (Zh zd3 hr (by decide) (Zb (Zm (Zp ⟨g.k_End,g.zn1⟩) (Za 0)) (Zb (Za 1) Zf))))
 (Ze (ZE (MW.mt (ZcN (ZB (Za 2)) (ZcN (ZC Zlb (Zh zd10 hr (by decide) (Zb (Za 0) Zf)) Zk) (ZaV (ZC Zkr (Zm (Zp ⟨g.k_End,g.zn16⟩) (Za 0)) (zA (Zb (Zx g.zc25) (Zb (Zx g.zc41) (Zb (Zx g.zc42) Zf)))) (by with_unfolding_all rfl)))))) (Zg (Zt (Zp ⟨g.k_End,g.zn11⟩) (Za 0) zr)) Zv)
 (Zg (Zu (Za 3))))))
theorem Zyi (D:Zw K mg "most_at_once" ZpY Zs2) (g:Glb K mg) :Zq P w K mg base 1 "most_at_once" Zae:=
 Z0 D Zzq 1 1 rfl rfl fun f cdv A outer s H E hr=>(Zg (Zu (zp Zmx g.b_min PyProof.Rows.boot_min (Zb (Zm (Zp ⟨g.k_End,g.zn7⟩) (Za 0)) (Zb (Zl g.zc10) Zf)))))
theorem Zyh (D:Zw K mg "paid_syn" ZpX Zs1) (g:Glb K mg) :Zq P w K mg base 1 "paid_syn" ZbO:=
 Z0 D Zzp 1 1 rfl rfl fun f cdv A outer s H E hr=>(Ze (Zt (Zp ⟨g.k_End,g.zn12⟩) (Za 0) zr)
 (Ze (ZE (ZC (Zal hr.units) (Zm (Zp ⟨g.k_End,g.zn16⟩) (Za 0)) (Zx g.zc38)) (Zg (Zu (zA (Zb (Zm (Zp ⟨g.k_End,g.zn9⟩) (Za 0)) (Zb (Zm (Zp ⟨g.k_End,g.zn17⟩) (Za 0)) (Zb (Zm (Zp ⟨g.k_End,g.zn5⟩) (Za 0)) (Zb Zk (Zb (Zl g.zc36) (Zb (Zl g.zc30) (Zb (Zl g.zc10) (Zb (zA Zf) Zf))))))))))) Zv)
 (Zg (Zu (zA (Zb (Zm (Zp ⟨g.k_End,g.zn9⟩) (Za 0)) (Zb (Zm (Zp ⟨g.k_End,g.zn17⟩) (Za 0)) (Zb (Zm (Zp ⟨g.k_End,g.zn5⟩) (Za 0)) (Zb (Zm (Zp ⟨g.k_End,g.zn14⟩) (Za 0)) (Zb (Zy Z2 (Zl g.zc36) (Zl g.zc0)) (Zb (Zl g.zc30) (Zb (Zl g.zc10) (Zb (zA Zf) Zf)))))))))))))
theorem Zyg (D:Zw K mg "segment_of" ZpW Zs0) (g:Glb K mg) (zd10:Zq P w K mg base 2 "our_window" zP):Zq P w K mg base 3 "segment_of" zE:=
 Z0 D Zzo 4 4 rfl rfl fun f cdv A outer s H E hr=>(Zg (Zu (zA (Zb (Zm (Zp ⟨g.k_End,g.zn9⟩) (Za 0)) (Zb (Zm (Zp ⟨g.k_End,g.zn17⟩) (Za 0)) (Zb (Za 1) (Zb (Zm (Zp ⟨g.k_End,g.zn14⟩) (Za 0)) (Zb (Zy Z2 (Za 2) (Zl g.zc0)) (Zb (Zh zd10 hr (by decide) (Zb (Za 0) Zf)) (Zb Zk (Zb (ZgT Zmw g.b_tuple PyProof.Rows.boot_tuple (Zb (Za 3) Zf)) Zf)))))))))))
theorem Zyj (D:Zw K mg "again" ZpZ Zs3) (g:Glb K mg) (zd64:Zq P w K mg base 1 "most_at_once" Zae) (zd5:Zq P w K mg base 1 "offset" zF) (zd65:Zq P w K mg base 1 "paid_syn" ZbO) (zd66:Zq P w K mg base 3 "segment_of" zE):Zq P w K mg base 4 "again" Zdx:=
 Z0 D zc63 2 3 rfl rfl fun f cdv A outer s H E hr=>(Ze (ZE (ZC (Zal hr.units) (Zm (Zp ⟨g.k_End,g.zn20⟩) (Za 0)) (Zl g.zc21)) (Ze (Zt (Zp ⟨g.k_End,g.zn16⟩) (Za 0) (Zx g.zc2))
  (Ze (Zt (Zp ⟨g.k_End,g.zn4⟩) (Za 0) (Zx g.zc39))
  (Zg (Zu zJ)))) Zv)
 (Ze (Zt (Zp ⟨g.k_End,g.zn20⟩) (Za 0) (Zy Z2 (Zm (Zp ⟨g.k_End,g.zn20⟩) (Za 0)) Zk))
 (Ze (Zt (Zp ⟨g.k_End,g.zn22⟩) (Za 0) (zp Zmx g.b_min PyProof.Rows.boot_min (Zb (Zy Zdy Zk (Zm (Zp ⟨g.k_End,g.zn22⟩) (Za 0))) (Zb (Zl g.zc18) Zf))))
 (Ze (Zt (Zp ⟨g.k_End,g.zn15⟩) (Za 0) (Za 1))
 (Ze (ZE (ZC Zkr (Zm (Zp ⟨g.k_End,g.zn16⟩) (Za 0)) (zA (Zb (Zx g.zc38) (Zb (Zx g.zc37) Zf))) (by with_unfolding_all rfl)) (Zg (Zu (Zh zd65 hr (by decide) (Zb (Za 0) Zf)))) Zv)
 (Ze (ZI 2 zc63.nd (Zea (Zm (Zp ⟨g.k_Pile,g.zn31⟩) (Zm (Zp ⟨g.k_End,g.zn24⟩) (Za 0))) ZdA (ZcB (zp Zmx g.b_min PyProof.Rows.boot_min (Zb (Zh zd5 hr (by decide) (Zb (Zm (Zp ⟨g.k_End,g.zn8⟩) (Za 0)) (Zb (Zm (Zp ⟨g.k_End,g.zn21⟩) (Za 0)) Zf))) (Zb (Zh zd64 hr (by decide) (Zb (Za 0) Zf)) Zf))))))
 (Zg (Zu (Zh zd66 hr (by decide) (Zb (Za 0) (Zb (Zm (Zp ⟨g.k_End,g.zn21⟩) (Za 0)) (Zb (Zcu (ZC Zlb (zp ZdI g.b_len PySem.boot_len (Zb (Za 2) Zf)) Zk) Zk (Zl g.zc6)) (Zb (Za 2) Zf)))))))))))))
theorem Zx5 (D:Zw K mg "going_as_answer" ZpL ZsP) (g:Glb K mg) (zd66:Zq P w K mg base 3 "segment_of" zE):Zq P w K mg base 4 "going_as_answer" zZ:=
 Z0 D Zzg 1 1 rfl rfl fun f cdv A outer s H E hr=>(Ze (ZE (Za7 (ZB (Zm (Zp ⟨g.k_End,g.zn11⟩) (Za 0)))) (Zg (Zu zJ)) Zv)
 (Ze (Zt (Zp ⟨g.k_End,g.zn11⟩) (Za 0) zr)
 (Zg (Zu (Zh zd66 hr (by decide) (Zb (Za 0) (Zb (Zm (Zp ⟨g.k_End,g.zn8⟩) (Za 0)) (Zb Zk (Zb (Za8 Zf) Zf)))))))))
theorem Zyb (D:Zw K mg "unsent" ZpR ZsV) (g:Glb K mg) (zd5:Zq P w K mg base 1 "offset" zF):Zq P w K mg base 2 "unsent" ZbF:=
 Z0 D Zzk 1 1 rfl rfl fun f cdv A outer s H E hr=>(Zg (Zu (Zh zd5 hr (by decide) (Zb (Zm (Zp ⟨g.k_End,g.zn0⟩) (Za 0)) (Zb (Zm (Zp ⟨g.k_End,g.zn8⟩) (Za 0)) Zf)))))
theorem Zyc (D:Zw K mg "has_new_data" ZpS ZsW) (g:Glb K mg) (zd71:Zq P w K mg base 2 "unsent" ZbF):Zq P w K mg base 3 "has_new_data" Zag:=
 Z0 D Zzl 1 1 rfl rfl fun f cdv A outer s H E hr=>(Zg (Zu (ZbR (z7 Zkr (Zm (Zp ⟨g.k_End,g.zn16⟩) (Za 0)) (zA (Zb (Zx g.zc25) (Zb (Zx g.zc41) (Zb (Zx g.zc3) (Zb (Zx g.zc4) (Zb (Zx g.zc14) Zf)))))) (by with_unfolding_all rfl)) (Zdi (z7 Zlb (Zh zd71 hr (by decide) (Zb (Za 0) Zf)) Zk)))))
theorem Zya (D:Zw K mg "has_new_fin" ZpQ ZsU) (g:Glb K mg) (zd71:Zq P w K mg base 2 "unsent" ZbF):Zq P w K mg base 3 "has_new_fin" ZbG:=
 Z0 D Zzj 1 1 rfl rfl fun f cdv A outer s H E hr=>(Zg (Zu (ZbR (z7 Zkr (Zm (Zp ⟨g.k_End,g.zn16⟩) (Za 0)) (zA (Zb (Zx g.zc41) (Zb (Zx g.zc4) (Zb (Zx g.zc14) Zf)))) (by with_unfolding_all rfl)) (Zdi (z7 (Zal hr.units) (Zh zd71 hr (by decide) (Zb (Za 0) Zf)) Zk)))))
theorem Zyd (D:Zw K mg "has_more" ZpT ZsX) (g:Glb K mg) (zd70:Zq P w K mg base 3 "has_new_data" Zag) (zd72:Zq P w K mg base 3 "has_new_fin" ZbG):Zq P w K mg base 4 "has_more" ZbQ:=
 Z0 D Zzm 1 1 rfl rfl fun f cdv A outer s H E hr=>(Zg (Zu (Zl4 (Zh zd70 hr (by decide) (Zb (Za 0) Zf)) (Zdi (Zh zd72 hr (by decide) (Zb (Za 0) Zf))))))
theorem Zx8 (D:Zw K mg "new_data" ZpO ZsS) (g:Glb K mg) (zd64:Zq P w K mg base 1 "most_at_once" Zae) (zd5:Zq P w K mg base 1 "offset" zF) (zd4:Zq P w K mg base 1 "plus" zk) (zd66:Zq P w K mg base 3 "segment_of" zE) (zd71:Zq P w K mg base 2 "unsent" ZbF):Zq P w K mg base 4 "new_data" Zcp:=
 Z0 D zc74 2 5 rfl rfl fun f cdv A outer s H E hr=>(Ze (ZI 2 zc74.nd (Zm (Zp ⟨g.k_End,g.zn8⟩) (Za 0)))
 (Ze (ZI 3 zc74.nd (zp Zmx g.b_min PyProof.Rows.boot_min (Zb (Zh zd64 hr (by decide) (Zb (Za 0) Zf)) (Zb (Zh zd71 hr (by decide) (Zb (Za 0) Zf)) (Zb (Za 1) Zf)))))
 (Ze (ZI 4 zc74.nd (Zh zd5 hr (by decide) (Zb (Za 2) (Zb (Zm (Zp ⟨g.k_End,g.zn21⟩) (Za 0)) Zf))))
 (Ze (Zt (Zp ⟨g.k_End,g.zn8⟩) (Za 0) (Zh zd4 hr (by decide) (Zb (Za 2) (Zb (Za 3) Zf))))
 (Zg (Zu (Zh zd66 hr (by decide) (Zb (Za 0) (Zb (Za 2) (Zb (Zcu (ZC (Zal hr.units) (Zh zd71 hr (by decide) (Zb (Za 0) Zf)) Zk) (Zl g.zc26) Zk) (Zb (Zea (Zm (Zp ⟨g.k_Pile,g.zn31⟩) (Zm (Zp ⟨g.k_End,g.zn24⟩) (Za 0))) (ZcB (Za 4)) (ZcB (Zy Z2 (Za 4) (Za 3)))) Zf)))))))))))
theorem Zx7 (D:Zw K mg "new_fin" ZpN ZsR) (g:Glb K mg) (zd4:Zq P w K mg base 1 "plus" zk) (zd66:Zq P w K mg base 3 "segment_of" zE):Zq P w K mg base 4 "new_fin" Zd4:=
 Z0 D zc75 1 2 rfl rfl fun f cdv A outer s H E hr=>(Ze (ZI 1 zc75.nd (Zm (Zp ⟨g.k_End,g.zn8⟩) (Za 0)))
 (Ze (Zt (Zp ⟨g.k_End,g.zn8⟩) (Za 0) (Zh zd4 hr (by decide) (Zb (Za 1) (Zb Zk Zf))))
 (Zg (Zu (Zh zd66 hr (by decide) (Zb (Za 0) (Zb (Za 1) (Zb (Zl g.zc6) (Zb (Za8 Zf) Zf)))))))))
theorem Zx9 (D:Zw K mg "new_piece" ZpP ZsT) (g:Glb K mg) (zd70:Zq P w K mg base 3 "has_new_data" Zag) (zd74:Zq P w K mg base 4 "new_data" Zcp) (zd75:Zq P w K mg base 4 "new_fin" Zd4):Zq P w K mg base 5 "new_piece" ZaP:=
 Z0 D Zzi 2 2 rfl rfl fun f cdv A outer s H E hr=>(Ze (Zt (Zp ⟨g.k_End,g.zn13⟩) (Za 0) zr)
 (Zg (Zu (Zcu (ZB (Zh zd70 hr (by decide) (Zb (Za 0) Zf))) (Zh zd74 hr (by decide) (Zb (Za 0) (Zb (Za 1) Zf))) (Zh zd75 hr (by decide) (Zb (Za 0) Zf))))))
theorem Zye (D:Zw K mg "new_syn" ZpU ZsY) (g:Glb K mg) (zd65:Zq P w K mg base 1 "paid_syn" ZbO) (zd4:Zq P w K mg base 1 "plus" zk) (zd8:Zq P w K mg base 1 "start_timer" Z7):Zq P w K mg base 2 "new_syn" Zc5:=
 Z0 D Zzn 2 2 rfl rfl fun f cdv A outer s H E hr=>(Ze (ZE (ZC (Zal hr.units) (Zm (Zp ⟨g.k_End,g.zn8⟩) (Za 0)) (Zm (Zp ⟨g.k_End,g.zn21⟩) (Za 0))) (Zg (ZP (Zh zd8 hr (by decide) (Zb (Za 0) (Zb (Za 1) Zf))))) Zv)
 (Ze (Zt (Zp ⟨g.k_End,g.zn8⟩) (Za 0) (Zh zd4 hr (by decide) (Zb (Zm (Zp ⟨g.k_End,g.zn5⟩) (Za 0)) (Zb Zk Zf))))
 (Zg (Zu (Zh zd65 hr (by decide) (Zb (Za 0) Zf))))))
theorem Zyf (D:Zw K mg "going_as_new" ZpV ZsZ) (g:Glb K mg) (zd69:Zq P w K mg base 4 "has_more" ZbQ) (zd73:Zq P w K mg base 5 "new_piece" ZaP) (zd68:Zq P w K mg base 2 "new_syn" Zc5) (zd5:Zq P w K mg base 1 "offset" zF) (zd8:Zq P w K mg base 1 "start_timer" Z7):Zq P w K mg base 6 "going_as_new" Z6:=
 Z0 D zc67 2 3 rfl rfl fun f cdv A outer s H E hr=>(Ze (ZE (ZC Zkr (Zm (Zp ⟨g.k_End,g.zn16⟩) (Za 0)) (zA (Zb (Zx g.zc38) (Zb (Zx g.zc37) Zf))) (by with_unfolding_all rfl)) (Zg (Zu (Zcu (MW.mt (Zd8 (ZC (Zal hr.units) (Zm (Zp ⟨g.k_End,g.zn8⟩) (Za 0)) (Zm (Zp ⟨g.k_End,g.zn5⟩) (Za 0))) (ZaG (ZB (Zm (Zp ⟨g.k_End,g.zn12⟩) (Za 0)))))) (Zh zd68 hr (by decide) (Zb (Za 0) (Zb (Za 1) Zf))) zJ))) Zv)
 (Ze (ZI 2 zc67.nd (Zy Zd7 (Zm (Zp ⟨g.k_End,g.zn23⟩) (Za 0)) (Zh zd5 hr (by decide) (Zb (Zm (Zp ⟨g.k_End,g.zn8⟩) (Za 0)) (Zb (Zm (Zp ⟨g.k_End,g.zn21⟩) (Za 0)) Zf)))))
 (Ze (ZE (MW.mt (Zd8 (ZC Zk9 (Za 2) Zk) (ZaG (Za7 (ZB (Zh zd69 hr (by decide) (Zb (Za 0) Zf))))))) (Zg (Zu zJ)) Zv)
 (Ze (ZE (ZC (Zal hr.units) (Zm (Zp ⟨g.k_End,g.zn8⟩) (Za 0)) (Zm (Zp ⟨g.k_End,g.zn21⟩) (Za 0))) (Zg (ZP (Zh zd8 hr (by decide) (Zb (Za 0) (Zb (Za 1) Zf))))) Zv)
 (Ze (Zt (Zp ⟨g.k_End,g.zn11⟩) (Za 0) zr)
 (Zg (Zu (Zh zd73 hr (by decide) (Zb (Za 0) (Zb (Za 2) Zf))))))))))
theorem Zyk (D:Zw K mg "is_due" Zp0 Zs4) (g:Glb K mg) :Zq P w K mg base 1 "is_due" Zdg:=
 Z0 D Zzr 2 2 rfl rfl fun f cdv A outer s H E hr=>(Zg (Zu (z7 Zry (Zy Zd7 (Za 1) (Zm (Zp ⟨g.k_End,g.zn15⟩) (Za 0))) (Zm (Zp ⟨g.k_End,g.zn22⟩) (Za 0)))))
theorem Zx6 (D:Zw K mg "going_as_probe" ZpM ZsQ) (g:Glb K mg) (zd69:Zq P w K mg base 4 "has_more" ZbQ) (zd62:Zq P w K mg base 1 "is_due" Zdg) (zd73:Zq P w K mg base 5 "new_piece" ZaP) (zd8:Zq P w K mg base 1 "start_timer" Z7):Zq P w K mg base 6 "going_as_probe" Z8:=
 Z0 D Zzh 2 2 rfl rfl fun f cdv A outer s H E hr=>(Ze (ZE (MW.mt (Zd8 (ZC (Zfx hr.units) (Zm (Zp ⟨g.k_End,g.zn8⟩) (Za 0)) (Zm (Zp ⟨g.k_End,g.zn21⟩) (Za 0))) (Zd8 (ZC (Zfx hr.units) (Zm (Zp ⟨g.k_End,g.zn23⟩) (Za 0)) Zk) (ZaG (Za7 (ZB (Zh zd69 hr (by decide) (Zb (Za 0) Zf)))))))) (Ze (Zt (Zp ⟨g.k_End,g.zn13⟩) (Za 0) zr)
  (Zg (Zu zJ))) Zv)
 (Ze (ZE (Za7 (ZB (Zm (Zp ⟨g.k_End,g.zn13⟩) (Za 0)))) (Ze (Zt (Zp ⟨g.k_End,g.zn13⟩) (Za 0) zr)
  (Zg (ZP (Zh zd8 hr (by decide) (Zb (Za 0) (Zb (Za 1) Zf)))))) Zv)
 (Ze (ZE (Za7 (ZB (Zh zd62 hr (by decide) (Zb (Za 0) (Zb (Za 1) Zf))))) (Zg (Zu zJ)) Zv)
 (Ze (Zt (Zp ⟨g.k_End,g.zn15⟩) (Za 0) (Za 1))
 (Zg (Zu (Zh zd73 hr (by decide) (Zb (Za 0) (Zb Zk Zf)))))))))
theorem Zyl (D:Zw K mg "paid_reset" Zp1 Zs5) (g:Glb K mg) :Zq P w K mg base 1 "paid_reset" ZcX:=
 Z0 D zc61 1 2 rfl rfl fun f cdv A outer s H E hr=>(Ze (ZI 1 zc61.nd (Zm (Zp ⟨g.k_End,g.zn10⟩) (Za 0)))
 (Ze (Zt (Zp ⟨g.k_End,g.zn10⟩) (Za 0) zJ)
 (Zg (Zu (Za 1)))))
theorem Zym (D:Zw K mg "going" Zp2 Zs6) (g:Glb K mg) (zd63:Zq P w K mg base 4 "again" Zdx) (zd77:Zq P w K mg base 4 "going_as_answer" zZ) (zd67:Zq P w K mg base 6 "going_as_new" Z6) (zd76:Zq P w K mg base 6 "going_as_probe" Z8) (zd62:Zq P w K mg base 1 "is_due" Zdg) (zd61:Zq P w K mg base 1 "paid_reset" ZcX):Zq P w K mg base 7 "going" Zev:=
 Z0 D zc60 2 3 rfl rfl fun f cdv A outer s H E hr=>(Ze (ZE (ZC Zew (Zm (Zp ⟨g.k_End,g.zn10⟩) (Za 0)) zJ) (Zg (Zu (Zh zd61 hr (by decide) (Zb (Za 0) Zf)))) Zv)
 (Ze (ZE (MW.mt (ZcN (ZC (Zal hr.units) (Zm (Zp ⟨g.k_End,g.zn16⟩) (Za 0)) (Zx g.zc40)) (ZaV (ZC Zry (Zy Zd7 (Za 1) (Zm (Zp ⟨g.k_End,g.zn15⟩) (Za 0))) (Zl g.zc15))))) (Zg (Zt (Zp ⟨g.k_End,g.zn16⟩) (Za 0) (Zx g.zc2))) Zv)
 (Ze (ZE (ZC Zkr (Zm (Zp ⟨g.k_End,g.zn16⟩) (Za 0)) (zA (Zb (Zx g.zc2) (Zb (Zx g.zc17) Zf))) (by with_unfolding_all rfl)) (Zg (Zu zJ)) Zv)
 (Ze (ZE (MW.mt (ZcN (ZC (Zfx hr.units) (Zm (Zp ⟨g.k_End,g.zn8⟩) (Za 0)) (Zm (Zp ⟨g.k_End,g.zn21⟩) (Za 0))) (ZaV (ZB (Zh zd62 hr (by decide) (Zb (Za 0) (Zb (Za 1) Zf))))))) (Zg (Zu (Zh zd63 hr (by decide) (Zb (Za 0) (Zb (Za 1) Zf))))) Zv)
 (Ze (ZI 2 zc60.nd (Zh zd67 hr (by decide) (Zb (Za 0) (Zb (Za 1) Zf))))
 (Ze (ZE (ZC Zla (Za 2) zJ) (Zg (ZI 2 zc60.nd (Zh zd76 hr (by decide) (Zb (Za 0) (Zb (Za 1) Zf))))) Zv)
 (Ze (ZE (ZC Zla (Za 2) zJ) (Zg (ZI 2 zc60.nd (Zh zd77 hr (by decide) (Zb (Za 0) Zf)))) Zv)
 (Zg (Zu (Za 2))))))))))
theorem Zyn (D:Zw K mg "send" Zp3 Zs7) (g:Glb K mg) (zd60:Zq P w K mg base 7 "going" Zev) (zd17:Zq P w K mg base 4 "put" ZhS):Zq P w K mg base 8 "send" Zet:=
 Z0 D zc59 2 3 rfl rfl fun f cdv A outer s H E hr=>(Ze (ZI 2 zc59.nd (Zh zd60 hr (by decide) (Zb (Za 0) (Zb (Za 1) Zf))))
 (Zg (Zu (Zcu (ZC Zla (Za 2) zJ) (Za8 Zf) (Zh zd17 hr (by decide) (Zb (Za 2) Zf))))))
theorem Zx4 (D:Mk0 K mg "Host" "Host.__init__" ZmI ZnD) (g:Glb K mg) :MMk P w K mg base 1 "Host" ZaQ:=
 mk0 D Zzf 2 2 rfl rfl fun f cdv A outer s H E hr=>(Ze (Zt (Zp ⟨g.k_Host,g.zn25⟩) (Za 0) (Za 1))
 (Ze (Zt (Zp ⟨g.k_Host,g.zn26⟩) (Za 0) (Zl5 Zf))
 (Ze (Zt (Zp ⟨g.k_Host,g.zn27⟩) (Za 0) Zna)
 (Ze (Zt (Zp ⟨g.k_Host,g.zn30⟩) (Za 0) ZkA)
 (Ze (Zt (Zp ⟨g.k_Host,g.zn28⟩) (Za 0) zJ)
 (Zg (Zt (Zp ⟨g.k_Host,g.zn29⟩) (Za 0) Zk)))))))
theorem Zx3 (D:Me0 K mg "Host" "listens" "Host.listens" ZmH ZnC) (g:Glb K mg) :Zem P w K mg base 1 "Host" "listens" zG:=
 me0 D g.k_Host Zze 2 2 rfl rfl fun f cdv A outer s H E hr=>(Ze (ZE (Zld hr (Za 1) (Zm (Zp ⟨g.k_Host,g.zn30⟩) (Za 0))) (Zg Zgi) Zv)
 (Zg (ZrC hr (Zm (Zp ⟨g.k_Host,g.zn30⟩) (Za 0)) (Za 1) (Zl5 Zf))))
theorem ZxY (D:Zw K mg "live_end" ZpK ZsO) (g:Glb K mg) :Zq P w K mg base 1 "live_end" Zaf:=
 Z0 D zc84 3 4 rfl rfl fun f cdv A outer s H E hr=>(Ze (ZI 3 zc84.nd (ZoK hr (Zm (Zp ⟨g.k_Host,g.zn27⟩) (Za 0)) (zA (Zb (Za 1) (Zb (Za 2) Zf))) ⟨rfl,rfl,rfl,rfl⟩))
 (Zg (Zu (Zcu (MW.mt (Zd8 (ZC Zla (Za 3) zJ) (ZaG (ZC (Zal hr.units) (Zm (Zp ⟨g.k_End,g.zn16⟩) (Za 3)) (Zx g.zc2))))) zJ (Za 3)))))
theorem ZxX (D:Zw K mg "made_end" ZpJ ZsN) (g:Glb K mg) (zd56:Zq P w K mg base 5 "opened" Ze1) (zd4:Zq P w K mg base 1 "plus" zk):Zq P w K mg base 6 "made_end" ZaT:=
 Z0 D zc85 4 5 rfl rfl fun f cdv A outer s H E hr=>(Ze (ZI 4 zc85.nd (Zh zd56 hr (by decide) (Zb (Za 1) (Zb (Za 2) (Zb (Zm (Zp ⟨g.k_Host,g.zn25⟩) (Za 0)) (Zb (Za 3) Zf))))))
 (Ze (Zt (Zp ⟨g.k_Host,g.zn25⟩) (Za 0) (Zh zd4 hr (by decide) (Zb (Zm (Zp ⟨g.k_Host,g.zn25⟩) (Za 0)) (Zb (Zl g.zc35) Zf))))
 (Ze (ZP (Zl7 (ZiV PySem.F.plainAttrs_list PySem.F.slot_list_append PySem.F.type_list_append Zd9 (Zm (Zp ⟨g.k_Host,g.zn26⟩) (Za 0)) (Zer (Za 4) ZfG))))
 (Ze (ZoH hr (Zm (Zp ⟨g.k_Host,g.zn27⟩) (Za 0)) (zA (Zb (Za 1) (Zb (Za 2) Zf))) (Za 4))
 (Zg (Zu (Za 4)))))))
theorem Zx2 (D:Me0 K mg "Host" "calls" "Host.calls" ZmG ZnB) (g:Glb K mg) (zd84:Zq P w K mg base 1 "live_end" Zaf) (zd85:Zq P w K mg base 6 "made_end" ZaT):Zem P w K mg base 7 "Host" "calls" ZaU:=
 me0 D g.k_Host Zzd 3 3 rfl rfl fun f cdv A outer s H E hr=>(Ze (ZE (ZC Zew (Zh zd84 hr (by decide) (Zb (Za 0) (Zb (Za 1) (Zb (Za 2) Zf)))) zJ) (Zg Zgi) Zv)
 (Zg (Zu (Zh zd85 hr (by decide) (Zb (Za 0) (Zb (Za 1) (Zb (Za 2) (Zb zr Zf))))))))
theorem ZxV (D:Zw K mg "is_call" ZpH ZsL) (g:Glb K mg) (zd16:Zq P w K mg base 2 "bears" ZV):Zq P w K mg base 3 "is_call" Zd5:=
 Z0 D Zzc 1 1 rfl rfl fun f cdv A outer s H E hr=>(Zg (Zu (ZbR (Zh zd16 hr (by decide) (Zb (Za 0) (Zb (Zl g.zc36) Zf))) (ZbR (Zle (Zh zd16 hr (by decide) (Zb (Za 0) (Zb (Zl g.zc0) Zf)))) (Zdi (Zle (Zh zd16 hr (by decide) (Zb (Za 0) (Zb (Zl g.zc32) Zf)))))))))
theorem ZxW (D:Zw K mg "end_for" ZpI ZsM) (g:Glb K mg) (zd87:Zq P w K mg base 3 "is_call" Zd5) (zd84:Zq P w K mg base 1 "live_end" Zaf) (zd85:Zq P w K mg base 6 "made_end" ZaT):Zq P w K mg base 7 "end_for" Zc7:=
 Z0 D zc86 2 3 rfl rfl fun f cdv A outer s H E hr=>(Ze (ZI 2 zc86.nd (Zh zd84 hr (by decide) (Zb (Za 0) (Zb (ZF ZG (Za 1) (Zl g.zc9)) (Zb (ZF ZG (Za 1) (Zl g.zc34)) Zf)))))
 (Ze (ZE (MW.mt (ZcN (ZC Zla (Za 2) zJ) (ZcN (Zld hr (ZF ZG (Za 1) (Zl g.zc9)) (Zm (Zp ⟨g.k_Host,g.zn30⟩) (Za 0))) (ZaV (ZB (Zh zd87 hr (by decide) (Zb (Za 1) Zf))))))) (Ze (ZI 2 zc86.nd (Zh zd85 hr (by decide) (Zb (Za 0) (Zb (ZF ZG (Za 1) (Zl g.zc9)) (Zb (ZF ZG (Za 1) (Zl g.zc34)) (Zb zr Zf))))))
  (Zg (ZP (Zl7 (ZiV PySem.F.plainAttrs_list PySem.F.slot_list_append PySem.F.type_list_append Zd9 (Zlf hr (Zm (Zp ⟨g.k_Host,g.zn30⟩) (Za 0)) (ZF ZG (Za 1) (Zl g.zc9)) (fun _ _=>rfl)) (Zer (Za 2) ZfG)))))) Zv)
 (Zg (Zu (Za 2)))))
theorem Zx1 (D:Me0 K mg "Host" "arrives" "Host.arrives" ZmF ZnA) (g:Glb K mg) (zd38:Zq P w K mg base 8 "arrive" Za3) (zd16:Zq P w K mg base 2 "bears" ZV) (zd86:Zq P w K mg base 7 "end_for" Zc7) (zd26:Zq P w K mg base 4 "get" Zg8) (zd23:Zq P w K mg base 3 "is_right" zN) (zd29:Zq P w K mg base 3 "reset_for" ZaO):Zem P w K mg base 9 "Host" "arrives" p_Host_arrives:=
 me0 D g.k_Host zc81 3 5 rfl rfl fun f cdv A outer s H E hr=>(Ze (ZE (Za7 (ZB (Zh zd23 hr (by decide) (Zb (Za 1) Zf)))) (Zg (Zu zr)) Zv)
 (Ze (ZI 3 zc81.nd (Zh zd26 hr (by decide) (Zb (Za 1) Zf)))
 (Ze (ZI 4 zc81.nd (Zh zd86 hr (by decide) (Zb (Za 0) (Zb (Za 3) Zf))))
 (Ze (ZE (ZC Zew (Za 4) zJ) (Zg (ZP (Zh zd38 hr (by decide) (Zb (Za 4) (Zb (Za 1) (Zb (Za 2) Zf)))))) (Zg (ZE (Za7 (ZB (Zh zd16 hr (by decide) (Zb (Za 3) (Zb (Zl g.zc32) Zf))))) (Zg (Zt (Zp ⟨g.k_Host,g.zn28⟩) (Za 0) (Zh zd29 hr (by decide) (Zb (Za 3) Zf)))) Zv)))
 (Zg (Zu zr))))))
theorem Zx0 (D:Me0 K mg "Host" "sends" "Host.sends" ZmE Znz) (g:Glb K mg) (zd17:Zq P w K mg base 4 "put" ZhS) (zd59:Zq P w K mg base 8 "send" Zet):Zem P w K mg base 9 "Host" "sends" p_Host_sends:=
 me0 D g.k_Host zc82 2 6 rfl rfl fun f cdv A outer s H E hr=>(Ze (ZE (ZC Zew (Zm (Zp ⟨g.k_Host,g.zn28⟩) (Za 0)) zJ) (Ze (ZI 2 zc82.nd (Zh zd17 hr (by decide) (Zb (Zm (Zp ⟨g.k_Host,g.zn28⟩) (Za 0)) Zf)))
  (Ze (Zt (Zp ⟨g.k_Host,g.zn28⟩) (Za 0) zJ)
  (Zg (Zu (Za 2))))) Zv)
 (Ze (ZI 3 zc82.nd (zp ZdI g.b_len PySem.boot_len (Zb (Zm (Zp ⟨g.k_Host,g.zn26⟩) (Za 0)) Zf)))
 (Ze (Zez PassesOwn.never (Zc8 g.b_range (Zb (Za 3) Zf)) (ZcZ 4 zc82.nd) (Ze (ZI 5 zc82.nd (Zy ZbI (Zy Z2 (Zm (Zp ⟨g.k_Host,g.zn29⟩) (Za 0)) (Za 4)) (Za 3)))
  (Ze (ZI 2 zc82.nd (Zh zd59 hr (by decide) (Zb (ZF ZG (Zm (Zp ⟨g.k_Host,g.zn26⟩) (Za 0)) (Za 5)) (Zb (Za 1) Zf))))
  (Zg (ZE (ZC Zlb (zp ZdI g.b_len PySem.boot_len (Zb (Za 2) Zf)) Zk) (Ze (Zt (Zp ⟨g.k_Host,g.zn29⟩) (Za 0) (Zy Z2 (Za 5) Zk))
   (Zg (Zu (Za 2)))) Zv)))))
 (Zg (Zu (Za8 Zf))))))
theorem ZxZ (D:Me0 K mg "Host" "taken_end" "Host.taken_end" ZkU Zny) (g:Glb K mg) :Zem P w K mg base 1 "Host" "taken_end" ZH:=
 me0 D g.k_Host zc83 2 3 rfl rfl fun f cdv A outer s H E hr=>(Ze (ZE (Zm8 hr (Za 1) (Zm (Zp ⟨g.k_Host,g.zn30⟩) (Za 0))) (Zg Zgi) Zv)
 (Ze (Zm9 2 zc83.nd (show Zb6 _ (Zj ZkU) "end" ["self","port","ready"] ["end"] [] from ⟨rfl,by decide +kernel,by decide +kernel,by decide +kernel,by decide +kernel,by decide +kernel,rfl,by decide,by decide +kernel⟩) rfl rfl (ZhX (Zlf hr (Zm (Zp ⟨g.k_Host,g.zn30⟩) (Za 0)) (Za 1) (fun _ _=>rfl))) (fun _ _ _ _ _=>⟨(ZC Zju (Zm (Zp ⟨g.k_End,g.zn16⟩) (Za 0)) (zA (Zb (Zx g.zc17) (Zb (Zx g.zc37) (Zb (Zx g.zc2) Zf)))) (by with_unfolding_all rfl)),(Za 0)⟩))
 (Ze (ZE (ZC (Zal hr.units) (zp ZdI g.b_len PySem.boot_len (Zb (Za 2) Zf)) Zk) (Zg (Zu zJ)) Zv)
 (Ze (ZP (ZrD (ZiV PySem.F.plainAttrs_list PySem.F.slot_list_remove PySem.F.type_list_remove Zm7 (Zlf hr (Zm (Zp ⟨g.k_Host,g.zn30⟩) (Za 0)) (Za 1) (fun _ _=>rfl)) (Zer (ZF ZG (Za 2) Zk) ZfG))))
 (Zg (Zu (ZF ZG (Za 2) Zk)))))))
theorem ZxU (D:Zw K mg "_law_cell" ZpG ZsK) (g:Glb K mg) :Zq P w K mg base 1 "_law_cell" ZgW:=
 Z0 D Zzb 2 2 rfl rfl fun f cdv A outer s H E hr=>(Ze (ZE (ZB (Za 0)) (Zg (Zu (ZF ZG (Za 0) (Zy ZbI (Za 1) (zp ZdI g.b_len PySem.boot_len (Zb (Za 0) Zf)))))) Zv)
 (Zg (Zu Zk)))
theorem ZxT (D:Zw K mg "_law_mix" ZpF ZsJ) (g:Glb K mg) (zd88:Zq P w K mg base 1 "_law_cell" ZgW):Zq P w K mg base 2 "_law_mix" ZaR:=
 Z0 D zc89 2 3 rfl rfl fun f cdv A outer s H E hr=>(Ze (ZI 2 zc89.nd (Zy ZbI (Zy Z2 (Zh zd88 hr (by decide) (Zb (Za 0) (Zb (Za 1) Zf))) (Zy Zdy Zk (Zy Z2 (Za 1) Zk))) Zk))
 (Ze (ZI 2 zc89.nd (Zy ZbI (Zy Zdy (Za 2) Zk) Zk))
 (Zg (Zu (Zy ZbI (Zy Z2 (Zy Zdy (Zy ZiZ (Za 2) Zk) Zk) (Za 2)) Zk)))))
theorem ZxS (D:Zw K mg "_law_flow" ZpE ZsI) (g:Glb K mg) (zd81:Zem P w K mg base 9 "Host" "arrives" p_Host_arrives) (zd82:Zem P w K mg base 9 "Host" "sends" p_Host_sends):Zq P w K mg base 10 "_law_flow" l_flow:=
 Z0 D zc90 2 6 rfl rfl fun f cdv A outer s H E hr=>(Ze (Zez PassesOwn.never (Zc8 g.b_range (Zb Zk Zf)) (ZcZ 2 zc90.nd) (Ze (ZI 3 zc90.nd zr)
  (Ze (Zez PassesOwn.never (Zc8 g.b_range (Zb Zk Zf)) (ZcZ 4 zc90.nd) (Ze (ZI 5 zc90.nd (Zc0 zd82 hr (by decide) (ZF ZG (Za 0) (Za 4)) (Zb Zk Zf)))
   (Zg (ZE (ZC (Zfx hr.units) (Za 5) (Za8 Zf)) (Ze (ZI 3 zc90.nd zr)
    (Ze (ZP (Zc0 zd81 hr (by decide) (ZF ZG (Za 0) (Zy Zd7 Zk (Za 4))) (Zb (Za 5) (Zb Zk Zf))))
    (Zg (ZE (ZC (Zal hr.units) (Zy ZbI (Zy Z2 (Za 1) (Za 2)) Zk) Zk) (Zg (ZP (Zc0 zd81 hr (by decide) (ZF ZG (Za 0) (Zy Zd7 Zk (Za 4))) (Zb (Za 5) (Zb Zk Zf))))) Zv)))) Zv))))
  (Zg (ZE (ZB (Za 3)) (Zg (Zu zr)) Zv)))))
 (Zg (Zu zr)))
theorem ZxR {fl:Addr} {fdl:FuncData} (F:Fun K "law" "law" Ziz fl fdl) (g:Glb K mg) (zd78:MMk P w K mg base 1 "Host" ZaQ) (zd80:Zem P w K mg base 7 "Host" "calls" ZaU) (zd79:Zem P w K mg base 1 "Host" "listens" zG) (zd83:Zem P w K mg base 1 "Host" "taken_end" ZH) (zd90:Zq P w K mg base 10 "_law_flow" l_flow) (zd89:Zq P w K mg base 2 "_law_mix" ZaR) (zd58:Zq P w K mg base 3 "read" ZdP) (zd9:Zq P w K mg base 1 "state" Zes) (zd57:Zq P w K mg base 3 "write" p_write):FnOk P w K mg base CX0 11 fl fdl Znx (spM ⟨zB mg,K⟩ Zmf):=
 mfn F zc91 1 11 rfl rfl fun cdv A outer s H E hr=>(Ze (ZI 1 zc91.nd (Za8 (Zb (Zjx zd78 hr (by decide) (Zb (Zh zd89 hr (by decide) (Zb (Za 0) (Zb Zk Zf))) Zf)) (Zb (Zjx zd78 hr (by decide) (Zb (Zy Zd7 (Zy Zd7 Zk Zk) (Zy ZbI (Zh zd89 hr (by decide) (Zb (Za 0) (Zb Zk Zf))) Zk)) Zf)) Zf))))
 (Ze (ZI 2 zc91.nd (Za8 (Zb (Zy ZbI (Zh zd89 hr (by decide) (Zb (Za 0) (Zb Zk Zf))) Zk) (Zb (Zy Z2 Zk (Zy ZbI (Zh zd89 hr (by decide) (Zb (Za 0) (Zb Zk Zf))) Zk)) Zf))))
 (Ze (Zez PassesOwn.never (ZhX (Za 2)) (ZcZ 3 zc91.nd) (Zg (ZE (MW.mt (Zd8 (ZC Zew (Zc0 zd79 hr (by decide) (ZF ZG (Za 1) Zk) (Zb (Za 3) Zf)) zJ) (ZaG (ZC Zew (Zc0 zd83 hr (by decide) (ZF ZG (Za 1) Zk) (Zb (Za 3) Zf)) zJ)))) (Zg (Zu zr)) Zv)))
 (Ze (ZgR 4 zc91.nd Zf)
 (Ze (Zez PassesOwn.never (Zc8 g.b_range (Zb (Zy Z2 Zk (Zy ZbI (Zh zd89 hr (by decide) (Zb (Za 0) (Zb Zk Zf))) Zk)) Zf)) (ZcZ 5 zc91.nd) (Ze (ZI 6 zc91.nd (Zy Z2 (Zy Zdy Zk (Za 5)) (Zy ZbI (Zh zd89 hr (by decide) (Zb (Za 0) (Zb (Zy Z2 Zk (Za 5)) Zf))) Zk)))
  (Ze (ZI 7 zc91.nd (ZF ZG (Za 2) (Zy ZbI (Zh zd89 hr (by decide) (Zb (Za 0) (Zb (Zy Z2 Zk (Za 5)) Zf))) Zk)))
  (Zg (ZgS 4 (zA (Zb (Zc0 zd80 hr (by decide) (ZF ZG (Za 1) Zk) (Zb (Za 6) (Zb (Za 7) Zf))) (Zb (Za 7) Zf))) (hpe:=fun h=>ZiV PySem.F.plainAttrs_list PySem.F.slot_list_append PySem.F.type_list_append Zd9 h (Zer (zA (Zb (Zc0 zd80 hr (by decide) (ZF ZG (Za 1) Zk) (Zb (Za 6) (Zb (Za 7) Zf))) (Zb (Za 7) Zf))) ZfG)))))))
 (Ze (ZE (Za7 (ZB (Zh zd90 hr (by decide) (Zb (Za 1) (Zb (Zh zd89 hr (by decide) (Zb (Za 0) (Zb Zk Zf))) Zf))))) (Zg (Zu zr)) Zv)
 (Ze (ZgR 8 zc91.nd Zf)
 (Ze (Zez PassesOwn.never (ZhX (Za 2)) (ZcZ 3 zc91.nd) (Ze (Zb0 4 (Zez PassesOwn.never (ZhX (Zu4 (show Zb6 _ (Zj Ziz) "_law_one" ["_law_script","_law_hosts","_law_ports","_law_port","_law_callers","_law_k","_law_mine","_law_goal","_law_pairs","_law_one","_law_end"] ["_law_one","_law_port"] [3] from ⟨rfl,by decide +kernel,by decide +kernel,by decide +kernel,by decide +kernel,by decide +kernel,rfl,by decide,by decide +kernel⟩) rfl rfl (ZhX (Za 4)) (fun _ _ _ _ _=>⟨(ZC (Zal hr.units) (ZF ZG (Za 0) Zk) (Za 1)),(Za 0)⟩))) (ZcZ 9 zc91.nd) (Ze (ZI 10 zc91.nd (Zc0 zd83 hr (by decide) (ZF ZG (Za 1) Zk) (Zb (Za 3) Zf)))
   (Ze (ZE (MW.mt (Zd8 (ZC Zla (Za 10) zJ) (Zd8 (ZC (Zfx hr.units) (Zh zd9 hr (by decide) (Zb (Za 10) Zf)) ZoI) (ZaG (ZC (Zfx hr.units) (Zh zd9 hr (by decide) (Zb (ZF ZG (Za 9) Zk) Zf)) ZoI))))) (Zg (Zu zr)) Zv)
   (Zg (ZgS 8 (zA (Zb (ZF ZG (Za 9) Zk) (Zb (Za 10) Zf))) (hpe:=fun h=>ZiV PySem.F.plainAttrs_list PySem.F.slot_list_append PySem.F.type_list_append Zd9 h (Zer (zA (Zb (ZF ZG (Za 9) Zk) (Zb (Za 10) Zf))) ZfG))))))))
  (Zg (ZE (ZC Zew (Zc0 zd83 hr (by decide) (ZF ZG (Za 1) Zk) (Zb (Za 3) Zf)) zJ) (Zg (Zu zr)) Zv))))
 (Ze (Zb0 8 (Zez PassesOwn.never (Zc8 g.b_range (Zb (zp ZdI g.b_len PySem.boot_len (Zb (Za 8) Zf)) Zf)) (ZcZ 5 zc91.nd) (Ze (Zb0 8 (ZP (Zh zd57 hr (by decide) (Zb (ZF ZG (ZF ZG (Za 8) (Za 5)) Zk) (Zb (Zy Zdy (Za8 (Zb (Za 5) Zf)) (Zy Z2 Zk (Zy ZbI (Zh zd89 hr (by decide) (Zb (Za 0) (Zb (Zy Z2 Zk (Za 5)) Zf))) Zk))) Zf)))))
  (Zg (Zb0 8 (ZP (Zh zd57 hr (by decide) (Zb (ZF ZG (ZF ZG (Za 8) (Za 5)) Zk) (Zb (Zy Zdy (Za8 (Zb (Zy Z2 Zk (Za 5)) Zf)) (Zy Z2 Zk (Zy ZbI (Zh zd89 hr (by decide) (Zb (Za 0) (Zb (Zy Z2 Zk (Za 5)) Zf))) Zk))) Zf)))))))))
 (Ze (ZE (Za7 (ZB (Zh zd90 hr (by decide) (Zb (Za 1) (Zb (Zh zd89 hr (by decide) (Zb (Za 0) (Zb Zk Zf))) Zf))))) (Zg (Zu zr)) Zv)
 (Ze (Zb0 8 (Zez PassesOwn.never (Zc8 g.b_range (Zb (zp ZdI g.b_len PySem.boot_len (Zb (Za 8) Zf)) Zf)) (ZcZ 5 zc91.nd) (Ze (Zb0 8 (ZE (ZC (Zfx hr.units) (Zh zd58 hr (by decide) (Zb (ZF ZG (ZF ZG (Za 8) (Za 5)) Zk) (Zb Zk Zf))) (Zy Zdy (Za8 (Zb (Za 5) Zf)) (Zy Z2 Zk (Zy ZbI (Zh zd89 hr (by decide) (Zb (Za 0) (Zb (Zy Z2 Zk (Za 5)) Zf))) Zk)))) (Zg (Zu zr)) Zv))
  (Zg (Zb0 8 (ZE (ZC (Zfx hr.units) (Zh zd58 hr (by decide) (Zb (ZF ZG (ZF ZG (Za 8) (Za 5)) Zk) (Zb Zk Zf))) (Zy Zdy (Za8 (Zb (Zy Z2 Zk (Za 5)) Zf)) (Zy Z2 Zk (Zy ZbI (Zh zd89 hr (by decide) (Zb (Za 0) (Zb (Zy Z2 Zk (Za 5)) Zf))) Zk)))) (Zg (Zu zr)) Zv))))))
 (Zg (Zu zr)))))))))))))
theorem Zu0 {fl:Addr} {fdl:FuncData} (F:Fun K "law" "law" Ziz fl fdl) (zD0:Mk0 K mg "Pile" "Pile.__init__" zs0 zP0) (zD1:Zw K mg "room" zs1 zP1) (zD2:Zw K mg "lay" zs2 zP2) (zD3:Zw K mg "take" zs3 zP3) (zD4:Zw K mg "plus" zs4 zP4) (zD5:Zw K mg "offset" zs5 zP5) (zD6:Zw K mg "past" zs6 zP6) (zD7:Mk0 K mg "End" "End.__init__" zs7 zP7) (zD8:Zw K mg "start_timer" zs8 zP8) (zD9:Zw K mg "state" zs9 zP9) (zD10:Zw K mg "our_window" ZqQ ZtU) (zD11:Zw K mg "has_sent_fin" ZqP ZtT) (zD12:Zw K mg "folded" ZqO ZtS) (zD13:Zw K mg "sum_of" ZqN ZtR) (zD14:Zw K mg "length" ZqM ZtQ) (zD15:Zw K mg "has" ZqL ZtP) (zD16:Zw K mg "bears" ZqK ZtO) (zD17:Zw K mg "put" ZqJ ZtN) (zD18:Zw K mg "bytes_ahead_of_sum" ZqI ZtM) (zD19:Zw K mg "byte_of_head" ZqH ZtL) (zD20:Zw K mg "bytes_of_most" ZqG ZtK) (zD21:Zw K mg "two_bytes" ZqF ZtJ) (zD22:Zw K mg "four_bytes" ZqE ZtI) (zD23:Zw K mg "is_right" ZqD ZtH) (zD24:Zw K mg "head_of" ZqC ZtG) (zD25:Zw K mg "is_right_long_head" ZqB ZtF) (zD26:Zw K mg "get" ZqA ZtE) (zD27:Zw K mg "two_at" Zqz ZtD) (zD28:Zw K mg "four_at" Zqy ZtC) (zD29:Zw K mg "reset_for" Zqx ZtB) (zD30:Zw K mg "owe_reset_for" Zqw ZtA) (zD31:Zw K mg "come_to_closed" Zqv Ztz) (zD32:Zw K mg "come_to_listen" Zqu Zty) (zD33:Zw K mg "hear_syn" Zqt Ztx) (zD34:Zw K mg "come_to_syn_sent" Zqs Ztw) (zD35:Zw K mg "answers_syn" Zqr Ztv) (zD36:Zw K mg "refuse" Zqq Ztu) (zD37:Zw K mg "go_on_from_syn_sent" Zqp Ztt) (zD38:Zw K mg "arrive" Zqo Zts) (zD39:Zw K mg "is_for" Zqn Ztr) (zD40:Zw K mg "come_to_stream" Zqm Ztq) (zD41:Zw K mg "fits" Zql Ztp) (zD42:Zw K mg "is_in_window" Zqk Zto) (zD43:Zw K mg "turn_away" Zqj Ztn) (zD44:Zw K mg "hear_reset" Zqi Ztm) (zD45:Zw K mg "goes_on_behind_answer" Zqh Ztl) (zD46:Zw K mg "has_answered_syn" Zqg Ztk) (zD47:Zw K mg "take_window" Zqf Ztj) (zD48:Zw K mg "hear_answer" Zqe Zti) (zD49:Zw K mg "is_newer" Zqd Zth) (zD50:Zw K mg "end_what_is_acknowledged" Zqc Ztg) (zD51:Zw K mg "hear_stream" Zqb Ztf) (zD52:Zw K mg "keep_data" Zqa Zte) (zD53:Zw K mg "keep_fin" Zp9 Ztd) (zD54:Zw K mg "draw_in_order" Zp8 Ztc) (zD55:Zw K mg "hear_fin" Zp7 Ztb) (zD56:Zw K mg "opened" Zp6 Zta) (zD57:Zw K mg "write" Zp5 Zs9) (zD58:Zw K mg "read" Zp4 Zs8) (zD59:Zw K mg "send" Zp3 Zs7) (zD60:Zw K mg "going" Zp2 Zs6) (zD61:Zw K mg "paid_reset" Zp1 Zs5) (zD62:Zw K mg "is_due" Zp0 Zs4) (zD63:Zw K mg "again" ZpZ Zs3) (zD64:Zw K mg "most_at_once" ZpY Zs2) (zD65:Zw K mg "paid_syn" ZpX Zs1) (zD66:Zw K mg "segment_of" ZpW Zs0) (zD67:Zw K mg "going_as_new" ZpV ZsZ) (zD68:Zw K mg "new_syn" ZpU ZsY) (zD69:Zw K mg "has_more" ZpT ZsX) (zD70:Zw K mg "has_new_data" ZpS ZsW) (zD71:Zw K mg "unsent" ZpR ZsV) (zD72:Zw K mg "has_new_fin" ZpQ ZsU) (zD73:Zw K mg "new_piece" ZpP ZsT) (zD74:Zw K mg "new_data" ZpO ZsS) (zD75:Zw K mg "new_fin" ZpN ZsR) (zD76:Zw K mg "going_as_probe" ZpM ZsQ) (zD77:Zw K mg "going_as_answer" ZpL ZsP) (zD78:Mk0 K mg "Host" "Host.__init__" ZmI ZnD) (zD79:Me0 K mg "Host" "listens" "Host.listens" ZmH ZnC) (zD80:Me0 K mg "Host" "calls" "Host.calls" ZmG ZnB) (zD81:Me0 K mg "Host" "arrives" "Host.arrives" ZmF ZnA) (zD82:Me0 K mg "Host" "sends" "Host.sends" ZmE Znz) (zD83:Me0 K mg "Host" "taken_end" "Host.taken_end" ZkU Zny) (zD84:Zw K mg "live_end" ZpK ZsO) (zD85:Zw K mg "made_end" ZpJ ZsN) (zD86:Zw K mg "end_for" ZpI ZsM) (zD87:Zw K mg "is_call" ZpH ZsL) (zD88:Zw K mg "_law_cell" ZpG ZsK) (zD89:Zw K mg "_law_mix" ZpF ZsJ) (zD90:Zw K mg "_law_flow" ZpE ZsI) (g:Glb K mg):FnOk P w K mg base CX0 11 fl fdl Znx (spM ⟨zB mg,K⟩ Zmf):=by
 have zd0:=zo0 (P:=P) (w:=w) (base:=base) zD0 g
 have zd1:=zo1 (P:=P) (w:=w) (base:=base) zD1 g
 have zd2:=zo2 (P:=P) (w:=w) (base:=base) zD2 g zd1
 have zd3:=zo3 (P:=P) (w:=w) (base:=base) zD3 g
 have zd4:=zo4 (P:=P) (w:=w) (base:=base) zD4 g
 have zd5:=zo5 (P:=P) (w:=w) (base:=base) zD5 g
 have zd6:=zo6 (P:=P) (w:=w) (base:=base) zD6 g zd5
 have zd7:=zo7 (P:=P) (w:=w) (base:=base) zD7 g zd0 zd4
 have zd8:=zo8 (P:=P) (w:=w) (base:=base) zD8 g
 have zd9:=zo9 (P:=P) (w:=w) (base:=base) zD9 g
 have zd10:=Zza (P:=P) (w:=w) (base:=base) zD10 g zd1
 have zd11:=Zy9 (P:=P) (w:=w) (base:=base) zD11 g zd6
 have zd12:=Zy8 (P:=P) (w:=w) (base:=base) zD12 g
 have zd13:=Zy7 (P:=P) (w:=w) (base:=base) zD13 g zd12
 have zd15:=Zy5 (P:=P) (w:=w) (base:=base) zD15 g
 have zd14:=Zy6 (P:=P) (w:=w) (base:=base) zD14 g zd15
 have zd16:=Zy4 (P:=P) (w:=w) (base:=base) zD16 g zd15
 have zd19:=Zy1 (P:=P) (w:=w) (base:=base) zD19 g
 have zd21:=ZyZ (P:=P) (w:=w) (base:=base) zD21 g
 have zd22:=ZyY (P:=P) (w:=w) (base:=base) zD22 g zd21
 have zd18:=Zy2 (P:=P) (w:=w) (base:=base) zD18 g zd19 zd22 zd21
 have zd20:=Zy0 (P:=P) (w:=w) (base:=base) zD20 g zd21
 have zd17:=Zy3 (P:=P) (w:=w) (base:=base) zD17 g zd18 zd20 zd13 zd21
 have zd24:=ZyW (P:=P) (w:=w) (base:=base) zD24 g
 have zd27:=ZyT (P:=P) (w:=w) (base:=base) zD27 g
 have zd25:=ZyV (P:=P) (w:=w) (base:=base) zD25 g zd15 zd27
 have zd23:=ZyX (P:=P) (w:=w) (base:=base) zD23 g zd19 zd12 zd24 zd25 zd27
 have zd28:=ZyS (P:=P) (w:=w) (base:=base) zD28 g zd27
 have zd26:=ZyU (P:=P) (w:=w) (base:=base) zD26 g zd28 zd24 zd23 zd27
 have zd29:=ZyR (P:=P) (w:=w) (base:=base) zD29 g zd16 zd14 zd4
 have zd30:=ZyQ (P:=P) (w:=w) (base:=base) zD30 g zd16 zd29
 have zd31:=ZyP (P:=P) (w:=w) (base:=base) zD31 g zd30
 have zd33:=ZyN (P:=P) (w:=w) (base:=base) zD33 g zd16 zd4
 have zd32:=ZyO (P:=P) (w:=w) (base:=base) zD32 g zd16 zd33 zd30
 have zd35:=ZyL (P:=P) (w:=w) (base:=base) zD35 g zd4
 have zd37:=ZyJ (P:=P) (w:=w) (base:=base) zD37 g zd16 zd8
 have zd36:=ZyK (P:=P) (w:=w) (base:=base) zD36 g zd16
 have zd34:=ZyM (P:=P) (w:=w) (base:=base) zD34 g zd35 zd16 zd37 zd33 zd30 zd36
 have zd42:=ZyE (P:=P) (w:=w) (base:=base) zD42 g zd5 zd10
 have zd41:=ZyF (P:=P) (w:=w) (base:=base) zD41 g zd42 zd14 zd5 zd4
 have zd50:=Zyw (P:=P) (w:=w) (base:=base) zD50 g zd11
 have zd47:=Zyz (P:=P) (w:=w) (base:=base) zD47 g
 have zd46:=ZyA (P:=P) (w:=w) (base:=base) zD46 g zd30 zd47
 have zd49:=Zyx (P:=P) (w:=w) (base:=base) zD49 g zd6
 have zd48:=Zyy (P:=P) (w:=w) (base:=base) zD48 g zd49 zd5 zd6 zd8 zd3 zd47
 have zd45:=ZyB (P:=P) (w:=w) (base:=base) zD45 g zd50 zd46 zd48 zd6
 have zd44:=ZyC (P:=P) (w:=w) (base:=base) zD44 g
 have zd54:=Zys (P:=P) (w:=w) (base:=base) zD54 g zd2 zd4
 have zd55:=Zyr (P:=P) (w:=w) (base:=base) zD55 g zd4
 have zd52:=Zyu (P:=P) (w:=w) (base:=base) zD52 g zd42 zd4
 have zd53:=Zyt (P:=P) (w:=w) (base:=base) zD53 g zd16 zd42 zd4
 have zd51:=Zyv (P:=P) (w:=w) (base:=base) zD51 g zd54 zd55 zd52 zd53
 have zd43:=ZyD (P:=P) (w:=w) (base:=base) zD43 g zd16
 have zd40:=ZyG (P:=P) (w:=w) (base:=base) zD40 g zd16 zd41 zd45 zd44 zd51 zd43
 have zd39:=ZyH (P:=P) (w:=w) (base:=base) zD39 g
 have zd38:=ZyI (P:=P) (w:=w) (base:=base) zD38 g zd31 zd32 zd40 zd34 zd26 zd39 zd23
 have zd56:=Zyq (P:=P) (w:=w) (base:=base) zD56 g zd7
 have zd57:=Zyp (P:=P) (w:=w) (base:=base) zD57 g zd2 zd4
 have zd58:=Zyo (P:=P) (w:=w) (base:=base) zD58 g zd10 zd3
 have zd64:=Zyi (P:=P) (w:=w) (base:=base) zD64 g
 have zd65:=Zyh (P:=P) (w:=w) (base:=base) zD65 g
 have zd66:=Zyg (P:=P) (w:=w) (base:=base) zD66 g zd10
 have zd63:=Zyj (P:=P) (w:=w) (base:=base) zD63 g zd64 zd5 zd65 zd66
 have zd77:=Zx5 (P:=P) (w:=w) (base:=base) zD77 g zd66
 have zd71:=Zyb (P:=P) (w:=w) (base:=base) zD71 g zd5
 have zd70:=Zyc (P:=P) (w:=w) (base:=base) zD70 g zd71
 have zd72:=Zya (P:=P) (w:=w) (base:=base) zD72 g zd71
 have zd69:=Zyd (P:=P) (w:=w) (base:=base) zD69 g zd70 zd72
 have zd74:=Zx8 (P:=P) (w:=w) (base:=base) zD74 g zd64 zd5 zd4 zd66 zd71
 have zd75:=Zx7 (P:=P) (w:=w) (base:=base) zD75 g zd4 zd66
 have zd73:=Zx9 (P:=P) (w:=w) (base:=base) zD73 g zd70 zd74 zd75
 have zd68:=Zye (P:=P) (w:=w) (base:=base) zD68 g zd65 zd4 zd8
 have zd67:=Zyf (P:=P) (w:=w) (base:=base) zD67 g zd69 zd73 zd68 zd5 zd8
 have zd62:=Zyk (P:=P) (w:=w) (base:=base) zD62 g
 have zd76:=Zx6 (P:=P) (w:=w) (base:=base) zD76 g zd69 zd62 zd73 zd8
 have zd61:=Zyl (P:=P) (w:=w) (base:=base) zD61 g
 have zd60:=Zym (P:=P) (w:=w) (base:=base) zD60 g zd63 zd77 zd67 zd76 zd62 zd61
 have zd59:=Zyn (P:=P) (w:=w) (base:=base) zD59 g zd60 zd17
 have zd78:=Zx4 (P:=P) (w:=w) (base:=base) zD78 g
 have zd79:=Zx3 (P:=P) (w:=w) (base:=base) zD79 g
 have zd84:=ZxY (P:=P) (w:=w) (base:=base) zD84 g
 have zd85:=ZxX (P:=P) (w:=w) (base:=base) zD85 g zd56 zd4
 have zd80:=Zx2 (P:=P) (w:=w) (base:=base) zD80 g zd84 zd85
 have zd87:=ZxV (P:=P) (w:=w) (base:=base) zD87 g zd16
 have zd86:=ZxW (P:=P) (w:=w) (base:=base) zD86 g zd87 zd84 zd85
 have zd81:=Zx1 (P:=P) (w:=w) (base:=base) zD81 g zd38 zd16 zd86 zd26 zd23 zd29
 have zd82:=Zx0 (P:=P) (w:=w) (base:=base) zD82 g zd17 zd59
 have zd83:=ZxZ (P:=P) (w:=w) (base:=base) zD83 g
 have zd88:=ZxU (P:=P) (w:=w) (base:=base) zD88 g
 have zd89:=ZxT (P:=P) (w:=w) (base:=base) zD89 g zd88
 have zd90:=ZxS (P:=P) (w:=w) (base:=base) zD90 g zd81 zd82
 exact ZxR F g zd78 zd80 zd79 zd83 zd90 zd89 zd58 zd9 zd57
end
theorem us1 {p:List Value→Prop} (h:∀a,p [a]):∀us:List Value,us.length=1→p us
 | [a],_=>h a
theorem us2 {p:List Value→Prop} (h:∀a b,p [a,b]):∀us:List Value,us.length=2→p us
 | [a,b],_=>h a b
theorem us3 {p:List Value→Prop} (h:∀a b c,p [a,b,c]):∀us:List Value,us.length=3→p us
 | [a,b,c],_=>h a b c
theorem us4 {p:List Value→Prop} (h:∀a b c d,p [a,b,c,d]):∀us:List Value,us.length=4→p us
 | [a,b,c,d],_=>h a b c d
theorem us5 {p:List Value→Prop} (h:∀a b c d e,p [a,b,c,d,e]):∀us:List Value,us.length=5→p us
 | [a,b,c,d,e],_=>h a b c d e
open PySem.W
abbrev NI (K:Frag) (n:Str) (f:Addr):Prop:=nsIn K mainGlobals n=some (some (.ref f))
abbrev FN (K:Frag) (f:Addr) (n:Str):Prop:=findIn K (.ref f) n=some none
abbrev KP (K:Frag) (f:Addr):Prop:=keepIn K (.ref f)=true
abbrev LK (K:Frag) (f:Addr) (q r:Str) (z:Stmt) (oc:Value) (od:Option Addr) (kV dc pm:Value) (an:Option Addr) (cd ct:Value) (sl:Array (Option Value)):Prop:=K.lookup f=some ⟨oc,od,.func (fnOf q r (ZeD z) (Zbd z) (Zj z) .none kV dc pm an cd ct),sl⟩
theorem dmk {K:Frag} {h:Heap} {mg:Str→Option Value} {x:Str} {z:Stmt} {f:Addr} {oc:Value} {od:Option Addr} {kV dc pm:Value} {an:Option Addr} {cd ct:Value} {sl:Array (Option Value)} {ps:List Str} (X:K.In h) (G:h.Ns mainGlobals mg) (a:NI K x f) (l:LK K f x x z oc od kV dc pm an cd ct sl) (c:codeIn K cd x=true) (k:KP K f) (hb:∀(kV doc pm:Value) (an:Option Addr) (cdv ct:Value) (us:List Value),us.length=ps.length→bindArgs (fnOf x x (ZeD z) (Zbd z) (Zj z) .none kV doc pm an cdv ct) ⟨us,[]⟩=pure (ps.zip us):=by first | exact fun _ _ _ _ _ _=>us1 fun _=>rfl | exact fun _ _ _ _ _ _=>us2 fun _ _=>rfl | exact fun _ _ _ _ _ _=>us3 fun _ _ _=>rfl | exact fun _ _ _ _ _ _=>us4 fun _ _ _ _=>rfl):Zw K mg x z ps:=⟨_,_,Zdm l c k,(Zdm l c k).binds hb,mg_of X G a⟩
theorem Zvp {l:OpenLaw} {w:World} {K:Frag} {h:Heap} {mg:Str→Option Value} {fa:Addr} (X:K.In h) (G:h.Ns mainGlobals mg) (hfa:mg "law"=some (.ref fa))
  (aC_End:NI K "End" C_End)
  (aC_Host:NI K "Host" C_Host)
  (aC_Pile:NI K "Pile" C_Pile)
  (a0:findIn K (.ref C_Pile) "__init__"=some (some (.ref f0))) (i0:isFn K (.ref f0)=true) (l0:LK K f0 "__init__" "Pile.__init__" zs0 oc0 od0 kV0 dc0 pm0 an0 cd0 ct0 sl0) (c0:codeIn K cd0 "Pile.__init__"=true) (k0:KP K f0)
  (a1:NI K "room" f1) (l1:LK K f1 "room" "room" zs1 oc1 od1 kV1 dc1 pm1 an1 cd1 ct1 sl1) (c1:codeIn K cd1 "room"=true) (k1:KP K f1)
  (a2:NI K "lay" f2) (l2:LK K f2 "lay" "lay" zs2 oc2 od2 kV2 dc2 pm2 an2 cd2 ct2 sl2) (c2:codeIn K cd2 "lay"=true) (k2:KP K f2)
  (a3:NI K "take" f3) (l3:LK K f3 "take" "take" zs3 oc3 od3 kV3 dc3 pm3 an3 cd3 ct3 sl3) (c3:codeIn K cd3 "take"=true) (k3:KP K f3)
  (a4:NI K "plus" f4) (l4:LK K f4 "plus" "plus" zs4 oc4 od4 kV4 dc4 pm4 an4 cd4 ct4 sl4) (c4:codeIn K cd4 "plus"=true) (k4:KP K f4)
  (a5:NI K "offset" f5) (l5:LK K f5 "offset" "offset" zs5 oc5 od5 kV5 dc5 pm5 an5 cd5 ct5 sl5) (c5:codeIn K cd5 "offset"=true) (k5:KP K f5)
  (a6:NI K "past" f6) (l6:LK K f6 "past" "past" zs6 oc6 od6 kV6 dc6 pm6 an6 cd6 ct6 sl6) (c6:codeIn K cd6 "past"=true) (k6:KP K f6)
  (a7:findIn K (.ref C_End) "__init__"=some (some (.ref f7))) (i7:isFn K (.ref f7)=true) (l7:LK K f7 "__init__" "End.__init__" zs7 oc7 od7 kV7 dc7 pm7 an7 cd7 ct7 sl7) (c7:codeIn K cd7 "End.__init__"=true) (k7:KP K f7)
  (a8:NI K "start_timer" f8) (l8:LK K f8 "start_timer" "start_timer" zs8 oc8 od8 kV8 dc8 pm8 an8 cd8 ct8 sl8) (c8:codeIn K cd8 "start_timer"=true) (k8:KP K f8)
  (a9:NI K "state" f9) (l9:LK K f9 "state" "state" zs9 oc9 od9 kV9 dc9 pm9 an9 cd9 ct9 sl9) (c9:codeIn K cd9 "state"=true) (k9:KP K f9)
  (a10:NI K "our_window" f10) (l10:LK K f10 "our_window" "our_window" ZqQ oc10 od10 kV10 dc10 pm10 an10 cd10 ct10 sl10) (c10:codeIn K cd10 "our_window"=true) (k10:KP K f10)
  (a11:NI K "has_sent_fin" f11) (l11:LK K f11 "has_sent_fin" "has_sent_fin" ZqP oc11 od11 kV11 dc11 pm11 an11 cd11 ct11 sl11) (c11:codeIn K cd11 "has_sent_fin"=true) (k11:KP K f11)
  (a12:NI K "folded" f12) (l12:LK K f12 "folded" "folded" ZqO oc12 od12 kV12 dc12 pm12 an12 cd12 ct12 sl12) (c12:codeIn K cd12 "folded"=true) (k12:KP K f12)
  (a13:NI K "sum_of" f13) (l13:LK K f13 "sum_of" "sum_of" ZqN oc13 od13 kV13 dc13 pm13 an13 cd13 ct13 sl13) (c13:codeIn K cd13 "sum_of"=true) (k13:KP K f13)
  (a14:NI K "length" f14) (l14:LK K f14 "length" "length" ZqM oc14 od14 kV14 dc14 pm14 an14 cd14 ct14 sl14) (c14:codeIn K cd14 "length"=true) (k14:KP K f14)
  (a15:NI K "has" f15) (l15:LK K f15 "has" "has" ZqL oc15 od15 kV15 dc15 pm15 an15 cd15 ct15 sl15) (c15:codeIn K cd15 "has"=true) (k15:KP K f15)
  (a16:NI K "bears" f16) (l16:LK K f16 "bears" "bears" ZqK oc16 od16 kV16 dc16 pm16 an16 cd16 ct16 sl16) (c16:codeIn K cd16 "bears"=true) (k16:KP K f16)
  (a17:NI K "put" f17) (l17:LK K f17 "put" "put" ZqJ oc17 od17 kV17 dc17 pm17 an17 cd17 ct17 sl17) (c17:codeIn K cd17 "put"=true) (k17:KP K f17)
  (a18:NI K "bytes_ahead_of_sum" f18) (l18:LK K f18 "bytes_ahead_of_sum" "bytes_ahead_of_sum" ZqI oc18 od18 kV18 dc18 pm18 an18 cd18 ct18 sl18) (c18:codeIn K cd18 "bytes_ahead_of_sum"=true) (k18:KP K f18)
  (a19:NI K "byte_of_head" f19) (l19:LK K f19 "byte_of_head" "byte_of_head" ZqH oc19 od19 kV19 dc19 pm19 an19 cd19 ct19 sl19) (c19:codeIn K cd19 "byte_of_head"=true) (k19:KP K f19)
  (a20:NI K "bytes_of_most" f20) (l20:LK K f20 "bytes_of_most" "bytes_of_most" ZqG oc20 od20 kV20 dc20 pm20 an20 cd20 ct20 sl20) (c20:codeIn K cd20 "bytes_of_most"=true) (k20:KP K f20)
  (a21:NI K "two_bytes" f21) (l21:LK K f21 "two_bytes" "two_bytes" ZqF oc21 od21 kV21 dc21 pm21 an21 cd21 ct21 sl21) (c21:codeIn K cd21 "two_bytes"=true) (k21:KP K f21)
  (a22:NI K "four_bytes" f22) (l22:LK K f22 "four_bytes" "four_bytes" ZqE oc22 od22 kV22 dc22 pm22 an22 cd22 ct22 sl22) (c22:codeIn K cd22 "four_bytes"=true) (k22:KP K f22)
  (a23:NI K "is_right" f23) (l23:LK K f23 "is_right" "is_right" ZqD oc23 od23 kV23 dc23 pm23 an23 cd23 ct23 sl23) (c23:codeIn K cd23 "is_right"=true) (k23:KP K f23)
  (a24:NI K "head_of" f24) (l24:LK K f24 "head_of" "head_of" ZqC oc24 od24 kV24 dc24 pm24 an24 cd24 ct24 sl24) (c24:codeIn K cd24 "head_of"=true) (k24:KP K f24)
  (a25:NI K "is_right_long_head" f25) (l25:LK K f25 "is_right_long_head" "is_right_long_head" ZqB oc25 od25 kV25 dc25 pm25 an25 cd25 ct25 sl25) (c25:codeIn K cd25 "is_right_long_head"=true) (k25:KP K f25)
  (a26:NI K "get" f26) (l26:LK K f26 "get" "get" ZqA oc26 od26 kV26 dc26 pm26 an26 cd26 ct26 sl26) (c26:codeIn K cd26 "get"=true) (k26:KP K f26)
  (a27:NI K "two_at" f27) (l27:LK K f27 "two_at" "two_at" Zqz oc27 od27 kV27 dc27 pm27 an27 cd27 ct27 sl27) (c27:codeIn K cd27 "two_at"=true) (k27:KP K f27)
  (a28:NI K "four_at" f28) (l28:LK K f28 "four_at" "four_at" Zqy oc28 od28 kV28 dc28 pm28 an28 cd28 ct28 sl28) (c28:codeIn K cd28 "four_at"=true) (k28:KP K f28)
  (a29:NI K "reset_for" f29) (l29:LK K f29 "reset_for" "reset_for" Zqx oc29 od29 kV29 dc29 pm29 an29 cd29 ct29 sl29) (c29:codeIn K cd29 "reset_for"=true) (k29:KP K f29)
  (a30:NI K "owe_reset_for" f30) (l30:LK K f30 "owe_reset_for" "owe_reset_for" Zqw oc30 od30 kV30 dc30 pm30 an30 cd30 ct30 sl30) (c30:codeIn K cd30 "owe_reset_for"=true) (k30:KP K f30)
  (a31:NI K "come_to_closed" f31) (l31:LK K f31 "come_to_closed" "come_to_closed" Zqv oc31 od31 kV31 dc31 pm31 an31 cd31 ct31 sl31) (c31:codeIn K cd31 "come_to_closed"=true) (k31:KP K f31)
  (a32:NI K "come_to_listen" f32) (l32:LK K f32 "come_to_listen" "come_to_listen" Zqu oc32 od32 kV32 dc32 pm32 an32 cd32 ct32 sl32) (c32:codeIn K cd32 "come_to_listen"=true) (k32:KP K f32)
  (a33:NI K "hear_syn" f33) (l33:LK K f33 "hear_syn" "hear_syn" Zqt oc33 od33 kV33 dc33 pm33 an33 cd33 ct33 sl33) (c33:codeIn K cd33 "hear_syn"=true) (k33:KP K f33)
  (a34:NI K "come_to_syn_sent" f34) (l34:LK K f34 "come_to_syn_sent" "come_to_syn_sent" Zqs oc34 od34 kV34 dc34 pm34 an34 cd34 ct34 sl34) (c34:codeIn K cd34 "come_to_syn_sent"=true) (k34:KP K f34)
  (a35:NI K "answers_syn" f35) (l35:LK K f35 "answers_syn" "answers_syn" Zqr oc35 od35 kV35 dc35 pm35 an35 cd35 ct35 sl35) (c35:codeIn K cd35 "answers_syn"=true) (k35:KP K f35)
  (a36:NI K "refuse" f36) (l36:LK K f36 "refuse" "refuse" Zqq oc36 od36 kV36 dc36 pm36 an36 cd36 ct36 sl36) (c36:codeIn K cd36 "refuse"=true) (k36:KP K f36)
  (a37:NI K "go_on_from_syn_sent" f37) (l37:LK K f37 "go_on_from_syn_sent" "go_on_from_syn_sent" Zqp oc37 od37 kV37 dc37 pm37 an37 cd37 ct37 sl37) (c37:codeIn K cd37 "go_on_from_syn_sent"=true) (k37:KP K f37)
  (a38:NI K "arrive" f38) (l38:LK K f38 "arrive" "arrive" Zqo oc38 od38 kV38 dc38 pm38 an38 cd38 ct38 sl38) (c38:codeIn K cd38 "arrive"=true) (k38:KP K f38)
  (a39:NI K "is_for" f39) (l39:LK K f39 "is_for" "is_for" Zqn oc39 od39 kV39 dc39 pm39 an39 cd39 ct39 sl39) (c39:codeIn K cd39 "is_for"=true) (k39:KP K f39)
  (a40:NI K "come_to_stream" f40) (l40:LK K f40 "come_to_stream" "come_to_stream" Zqm oc40 od40 kV40 dc40 pm40 an40 cd40 ct40 sl40) (c40:codeIn K cd40 "come_to_stream"=true) (k40:KP K f40)
  (a41:NI K "fits" f41) (l41:LK K f41 "fits" "fits" Zql oc41 od41 kV41 dc41 pm41 an41 cd41 ct41 sl41) (c41:codeIn K cd41 "fits"=true) (k41:KP K f41)
  (a42:NI K "is_in_window" f42) (l42:LK K f42 "is_in_window" "is_in_window" Zqk oc42 od42 kV42 dc42 pm42 an42 cd42 ct42 sl42) (c42:codeIn K cd42 "is_in_window"=true) (k42:KP K f42)
  (a43:NI K "turn_away" f43) (l43:LK K f43 "turn_away" "turn_away" Zqj oc43 od43 kV43 dc43 pm43 an43 cd43 ct43 sl43) (c43:codeIn K cd43 "turn_away"=true) (k43:KP K f43)
  (a44:NI K "hear_reset" f44) (l44:LK K f44 "hear_reset" "hear_reset" Zqi oc44 od44 kV44 dc44 pm44 an44 cd44 ct44 sl44) (c44:codeIn K cd44 "hear_reset"=true) (k44:KP K f44)
  (a45:NI K "goes_on_behind_answer" f45) (l45:LK K f45 "goes_on_behind_answer" "goes_on_behind_answer" Zqh oc45 od45 kV45 dc45 pm45 an45 cd45 ct45 sl45) (c45:codeIn K cd45 "goes_on_behind_answer"=true) (k45:KP K f45)
  (a46:NI K "has_answered_syn" f46) (l46:LK K f46 "has_answered_syn" "has_answered_syn" Zqg oc46 od46 kV46 dc46 pm46 an46 cd46 ct46 sl46) (c46:codeIn K cd46 "has_answered_syn"=true) (k46:KP K f46)
  (a47:NI K "take_window" f47) (l47:LK K f47 "take_window" "take_window" Zqf oc47 od47 kV47 dc47 pm47 an47 cd47 ct47 sl47) (c47:codeIn K cd47 "take_window"=true) (k47:KP K f47)
  (a48:NI K "hear_answer" f48) (l48:LK K f48 "hear_answer" "hear_answer" Zqe oc48 od48 kV48 dc48 pm48 an48 cd48 ct48 sl48) (c48:codeIn K cd48 "hear_answer"=true) (k48:KP K f48)
  (a49:NI K "is_newer" f49) (l49:LK K f49 "is_newer" "is_newer" Zqd oc49 od49 kV49 dc49 pm49 an49 cd49 ct49 sl49) (c49:codeIn K cd49 "is_newer"=true) (k49:KP K f49)
  (a50:NI K "end_what_is_acknowledged" f50) (l50:LK K f50 "end_what_is_acknowledged" "end_what_is_acknowledged" Zqc oc50 od50 kV50 dc50 pm50 an50 cd50 ct50 sl50) (c50:codeIn K cd50 "end_what_is_acknowledged"=true) (k50:KP K f50)
  (a51:NI K "hear_stream" f51) (l51:LK K f51 "hear_stream" "hear_stream" Zqb oc51 od51 kV51 dc51 pm51 an51 cd51 ct51 sl51) (c51:codeIn K cd51 "hear_stream"=true) (k51:KP K f51)
  (a52:NI K "keep_data" f52) (l52:LK K f52 "keep_data" "keep_data" Zqa oc52 od52 kV52 dc52 pm52 an52 cd52 ct52 sl52) (c52:codeIn K cd52 "keep_data"=true) (k52:KP K f52)
  (a53:NI K "keep_fin" f53) (l53:LK K f53 "keep_fin" "keep_fin" Zp9 oc53 od53 kV53 dc53 pm53 an53 cd53 ct53 sl53) (c53:codeIn K cd53 "keep_fin"=true) (k53:KP K f53)
  (a54:NI K "draw_in_order" f54) (l54:LK K f54 "draw_in_order" "draw_in_order" Zp8 oc54 od54 kV54 dc54 pm54 an54 cd54 ct54 sl54) (c54:codeIn K cd54 "draw_in_order"=true) (k54:KP K f54)
  (a55:NI K "hear_fin" f55) (l55:LK K f55 "hear_fin" "hear_fin" Zp7 oc55 od55 kV55 dc55 pm55 an55 cd55 ct55 sl55) (c55:codeIn K cd55 "hear_fin"=true) (k55:KP K f55)
  (a56:NI K "opened" f56) (l56:LK K f56 "opened" "opened" Zp6 oc56 od56 kV56 dc56 pm56 an56 cd56 ct56 sl56) (c56:codeIn K cd56 "opened"=true) (k56:KP K f56)
  (a57:NI K "write" f57) (l57:LK K f57 "write" "write" Zp5 oc57 od57 kV57 dc57 pm57 an57 cd57 ct57 sl57) (c57:codeIn K cd57 "write"=true) (k57:KP K f57)
  (a58:NI K "read" f58) (l58:LK K f58 "read" "read" Zp4 oc58 od58 kV58 dc58 pm58 an58 cd58 ct58 sl58) (c58:codeIn K cd58 "read"=true) (k58:KP K f58)
  (a59:NI K "send" f59) (l59:LK K f59 "send" "send" Zp3 oc59 od59 kV59 dc59 pm59 an59 cd59 ct59 sl59) (c59:codeIn K cd59 "send"=true) (k59:KP K f59)
  (a60:NI K "going" f60) (l60:LK K f60 "going" "going" Zp2 oc60 od60 kV60 dc60 pm60 an60 cd60 ct60 sl60) (c60:codeIn K cd60 "going"=true) (k60:KP K f60)
  (a61:NI K "paid_reset" f61) (l61:LK K f61 "paid_reset" "paid_reset" Zp1 oc61 od61 kV61 dc61 pm61 an61 cd61 ct61 sl61) (c61:codeIn K cd61 "paid_reset"=true) (k61:KP K f61)
  (a62:NI K "is_due" f62) (l62:LK K f62 "is_due" "is_due" Zp0 oc62 od62 kV62 dc62 pm62 an62 cd62 ct62 sl62) (c62:codeIn K cd62 "is_due"=true) (k62:KP K f62)
  (a63:NI K "again" f63) (l63:LK K f63 "again" "again" ZpZ oc63 od63 kV63 dc63 pm63 an63 cd63 ct63 sl63) (c63:codeIn K cd63 "again"=true) (k63:KP K f63)
  (a64:NI K "most_at_once" f64) (l64:LK K f64 "most_at_once" "most_at_once" ZpY oc64 od64 kV64 dc64 pm64 an64 cd64 ct64 sl64) (c64:codeIn K cd64 "most_at_once"=true) (k64:KP K f64)
  (a65:NI K "paid_syn" f65) (l65:LK K f65 "paid_syn" "paid_syn" ZpX oc65 od65 kV65 dc65 pm65 an65 cd65 ct65 sl65) (c65:codeIn K cd65 "paid_syn"=true) (k65:KP K f65)
  (a66:NI K "segment_of" f66) (l66:LK K f66 "segment_of" "segment_of" ZpW oc66 od66 kV66 dc66 pm66 an66 cd66 ct66 sl66) (c66:codeIn K cd66 "segment_of"=true) (k66:KP K f66)
  (a67:NI K "going_as_new" f67) (l67:LK K f67 "going_as_new" "going_as_new" ZpV oc67 od67 kV67 dc67 pm67 an67 cd67 ct67 sl67) (c67:codeIn K cd67 "going_as_new"=true) (k67:KP K f67)
  (a68:NI K "new_syn" f68) (l68:LK K f68 "new_syn" "new_syn" ZpU oc68 od68 kV68 dc68 pm68 an68 cd68 ct68 sl68) (c68:codeIn K cd68 "new_syn"=true) (k68:KP K f68)
  (a69:NI K "has_more" f69) (l69:LK K f69 "has_more" "has_more" ZpT oc69 od69 kV69 dc69 pm69 an69 cd69 ct69 sl69) (c69:codeIn K cd69 "has_more"=true) (k69:KP K f69)
  (a70:NI K "has_new_data" f70) (l70:LK K f70 "has_new_data" "has_new_data" ZpS oc70 od70 kV70 dc70 pm70 an70 cd70 ct70 sl70) (c70:codeIn K cd70 "has_new_data"=true) (k70:KP K f70)
  (a71:NI K "unsent" f71) (l71:LK K f71 "unsent" "unsent" ZpR oc71 od71 kV71 dc71 pm71 an71 cd71 ct71 sl71) (c71:codeIn K cd71 "unsent"=true) (k71:KP K f71)
  (a72:NI K "has_new_fin" f72) (l72:LK K f72 "has_new_fin" "has_new_fin" ZpQ oc72 od72 kV72 dc72 pm72 an72 cd72 ct72 sl72) (c72:codeIn K cd72 "has_new_fin"=true) (k72:KP K f72)
  (a73:NI K "new_piece" f73) (l73:LK K f73 "new_piece" "new_piece" ZpP oc73 od73 kV73 dc73 pm73 an73 cd73 ct73 sl73) (c73:codeIn K cd73 "new_piece"=true) (k73:KP K f73)
  (a74:NI K "new_data" f74) (l74:LK K f74 "new_data" "new_data" ZpO oc74 od74 kV74 dc74 pm74 an74 cd74 ct74 sl74) (c74:codeIn K cd74 "new_data"=true) (k74:KP K f74)
  (a75:NI K "new_fin" f75) (l75:LK K f75 "new_fin" "new_fin" ZpN oc75 od75 kV75 dc75 pm75 an75 cd75 ct75 sl75) (c75:codeIn K cd75 "new_fin"=true) (k75:KP K f75)
  (a76:NI K "going_as_probe" f76) (l76:LK K f76 "going_as_probe" "going_as_probe" ZpM oc76 od76 kV76 dc76 pm76 an76 cd76 ct76 sl76) (c76:codeIn K cd76 "going_as_probe"=true) (k76:KP K f76)
  (a77:NI K "going_as_answer" f77) (l77:LK K f77 "going_as_answer" "going_as_answer" ZpL oc77 od77 kV77 dc77 pm77 an77 cd77 ct77 sl77) (c77:codeIn K cd77 "going_as_answer"=true) (k77:KP K f77)
  (a78:findIn K (.ref C_Host) "__init__"=some (some (.ref f78))) (i78:isFn K (.ref f78)=true) (l78:LK K f78 "__init__" "Host.__init__" ZmI oc78 od78 kV78 dc78 pm78 an78 cd78 ct78 sl78) (c78:codeIn K cd78 "Host.__init__"=true) (k78:KP K f78)
  (a79:findIn K (.ref C_Host) "listens"=some (some (.ref f79))) (i79:isFn K (.ref f79)=true) (l79:LK K f79 "listens" "Host.listens" ZmH oc79 od79 kV79 dc79 pm79 an79 cd79 ct79 sl79) (c79:codeIn K cd79 "Host.listens"=true) (k79:KP K f79)
  (a80:findIn K (.ref C_Host) "calls"=some (some (.ref f80))) (i80:isFn K (.ref f80)=true) (l80:LK K f80 "calls" "Host.calls" ZmG oc80 od80 kV80 dc80 pm80 an80 cd80 ct80 sl80) (c80:codeIn K cd80 "Host.calls"=true) (k80:KP K f80)
  (a81:findIn K (.ref C_Host) "arrives"=some (some (.ref f81))) (i81:isFn K (.ref f81)=true) (l81:LK K f81 "arrives" "Host.arrives" ZmF oc81 od81 kV81 dc81 pm81 an81 cd81 ct81 sl81) (c81:codeIn K cd81 "Host.arrives"=true) (k81:KP K f81)
  (a82:findIn K (.ref C_Host) "sends"=some (some (.ref f82))) (i82:isFn K (.ref f82)=true) (l82:LK K f82 "sends" "Host.sends" ZmE oc82 od82 kV82 dc82 pm82 an82 cd82 ct82 sl82) (c82:codeIn K cd82 "Host.sends"=true) (k82:KP K f82)
  (a83:findIn K (.ref C_Host) "taken_end"=some (some (.ref f83))) (i83:isFn K (.ref f83)=true) (l83:LK K f83 "taken_end" "Host.taken_end" ZkU oc83 od83 kV83 dc83 pm83 an83 cd83 ct83 sl83) (c83:codeIn K cd83 "Host.taken_end"=true) (k83:KP K f83)
  (a84:NI K "live_end" f84) (l84:LK K f84 "live_end" "live_end" ZpK oc84 od84 kV84 dc84 pm84 an84 cd84 ct84 sl84) (c84:codeIn K cd84 "live_end"=true) (k84:KP K f84)
  (a85:NI K "made_end" f85) (l85:LK K f85 "made_end" "made_end" ZpJ oc85 od85 kV85 dc85 pm85 an85 cd85 ct85 sl85) (c85:codeIn K cd85 "made_end"=true) (k85:KP K f85)
  (a86:NI K "end_for" f86) (l86:LK K f86 "end_for" "end_for" ZpI oc86 od86 kV86 dc86 pm86 an86 cd86 ct86 sl86) (c86:codeIn K cd86 "end_for"=true) (k86:KP K f86)
  (a87:NI K "is_call" f87) (l87:LK K f87 "is_call" "is_call" ZpH oc87 od87 kV87 dc87 pm87 an87 cd87 ct87 sl87) (c87:codeIn K cd87 "is_call"=true) (k87:KP K f87)
  (a88:NI K "_law_cell" f88) (l88:LK K f88 "_law_cell" "_law_cell" ZpG oc88 od88 kV88 dc88 pm88 an88 cd88 ct88 sl88) (c88:codeIn K cd88 "_law_cell"=true) (k88:KP K f88)
  (a89:NI K "_law_mix" f89) (l89:LK K f89 "_law_mix" "_law_mix" ZpF oc89 od89 kV89 dc89 pm89 an89 cd89 ct89 sl89) (c89:codeIn K cd89 "_law_mix"=true) (k89:KP K f89)
  (a90:NI K "_law_flow" f90) (l90:LK K f90 "_law_flow" "_law_flow" ZpE oc90 od90 kV90 dc90 pm90 an90 cd90 ct90 sl90) (c90:codeIn K cd90 "_law_flow"=true) (k90:KP K f90)
  (a91:NI K "law" f91) (l91:LK K f91 "law" "law" Ziz oc91 od91 kV91 dc91 pm91 an91 cd91 ct91 sl91) (c91:codeIn K cd91 "law"=true) (k91:KP K f91)
  (pg_End:plainGet K C_End Str.empty=true) (hd_End:hasDictIn K C_End=true) (po_End:plainOver K C_End=true) (sa_End:findIn K (.ref C_End) "__setattr__"=some (some (.builtin "object.__setattr__"))) (mk_End:makesIn K C_End=true) (kc_End:keepIn K (.ref C_End)=true)
  (pg_Host:plainGet K C_Host Str.empty=true) (hd_Host:hasDictIn K C_Host=true) (po_Host:plainOver K C_Host=true) (sa_Host:findIn K (.ref C_Host) "__setattr__"=some (some (.builtin "object.__setattr__"))) (mk_Host:makesIn K C_Host=true) (kc_Host:keepIn K (.ref C_Host)=true)
  (pg_Pile:plainGet K C_Pile Str.empty=true) (hd_Pile:hasDictIn K C_Pile=true) (po_Pile:plainOver K C_Pile=true) (sa_Pile:findIn K (.ref C_Pile) "__setattr__"=some (some (.builtin "object.__setattr__"))) (mk_Pile:makesIn K C_Pile=true) (kc_Pile:keepIn K (.ref C_Pile)=true)
  (zA0:FN K C_End "behind")
  (zA1:FN K C_End "come")
  (zA2:FN K C_End "early")
  (zA3:FN K C_End "early_fin")
  (zA4:FN K C_End "error")
  (zA5:FN K C_End "first")
  (zA6:FN K C_End "has_closed")
  (zA7:FN K C_End "most")
  (zA8:FN K C_End "nxt")
  (zA9:FN K C_End "ours")
  (zA10:FN K C_End "owed_reset")
  (zA11:FN K C_End "owes_answer")
  (zA12:FN K C_End "owes_syn")
  (zA13:FN K C_End "probes")
  (zA14:FN K C_End "rcv")
  (zA15:FN K C_End "since")
  (zA16:FN K C_End "state")
  (zA17:FN K C_End "theirs")
  (zA18:FN K C_End "told")
  (zA19:FN K C_End "told_by")
  (zA20:FN K C_End "tries")
  (zA21:FN K C_End "una")
  (zA22:FN K C_End "wait")
  (zA23:FN K C_End "wnd")
  (zA24:FN K C_End "written")
  (zA25:FN K C_Host "coming_first")
  (zA26:FN K C_Host "ends")
  (zA27:FN K C_Host "latest")
  (zA28:FN K C_Host "owed_reset")
  (zA29:FN K C_Host "turn")
  (zA30:FN K C_Host "untaken")
  (zA31:FN K C_Pile "row")
  (zg0:nsIn K mainGlobals "ACK"=some (some (.int 16 zt0)))
  (zg1:nsIn K mainGlobals "ANSWER"=some (some (.int 3 zt1)))
  (zg2:nsIn K mainGlobals "CLOSED"=some (some (.str "closed" zt2)))
  (zg3:nsIn K mainGlobals "CLOSE_WAIT"=some (some (.str "close wait" zt3)))
  (zg4:nsIn K mainGlobals "CLOSING"=some (some (.str "closing" zt4)))
  (zg5:nsIn K mainGlobals "DATA"=some (some (.int 7 zt5)))
  (zg6:nsIn K mainGlobals "FIN"=some (some (.int 1 zt6)))
  (zg7:nsIn K mainGlobals "FIRST_WAIT"=some (some (.int 1000 zt7)))
  (zg8:nsIn K mainGlobals "FLAGS"=some (some (.int 4 zt8)))
  (zg9:nsIn K mainGlobals "GOAL"=some (some (.int 1 zt9)))
  (zg10:nsIn K mainGlobals "GREATEST_DATA"=some (some (.int 16 zt10)))
  (zg11:nsIn K mainGlobals "GREATEST_FLAGS"=some (some (.int 31 zt11)))
  (zg12:nsIn K mainGlobals "GREATEST_WORD"=some (some (.int 65535 zt12)))
  (zg13:nsIn K mainGlobals "HALF_ROUND"=some (some (.int 2147483648 zt13)))
  (zg14:nsIn K mainGlobals "LAST_ACK"=some (some (.str "last ack" zt14)))
  (zg15:nsIn K mainGlobals "LAST_WAIT"=some (some (.int 120000 zt15)))
  (zg16:nsIn K mainGlobals "LEAST_MOST"=some (some (.int 4 zt16)))
  (zg17:nsIn K mainGlobals "LISTEN"=some (some (.str "listen" zt17)))
  (zg18:nsIn K mainGlobals "LONGEST_WAIT"=some (some (.int 16000 zt18)))
  (zg19:nsIn K mainGlobals "LONG_HEAD"=some (some (.int 24 zt19)))
  (zg20:nsIn K mainGlobals "MOST"=some (some (.int 6 zt20)))
  (zg21:nsIn K mainGlobals "MOST_TRIES"=some (some (.int 6 zt21)))
  (zg22:nsIn K mainGlobals "MOST_UNTOLD"=some (some (.int 12 zt22)))
  (zg23:nsIn K mainGlobals "NO_ERROR"=some (some (.str "" zt23)))
  (zg24:nsIn K mainGlobals "NUMBER"=some (some (.int 2 zt24)))
  (zg25:nsIn K mainGlobals "OPEN"=some (some (.str "open" zt25)))
  (zg26:nsIn K mainGlobals "PSH"=some (some (.int 8 zt26)))
  (zg27:nsIn K mainGlobals "REFUSED"=some (some (.str "refused" zt27)))
  (zg28:nsIn K mainGlobals "RESET"=some (some (.str "reset" zt28)))
  (zg29:nsIn K mainGlobals "RIGHT_SUM"=some (some (.int 65535 zt29)))
  (zg30:nsIn K mainGlobals "ROOM"=some (some (.int 64 zt30)))
  (zg31:nsIn K mainGlobals "ROUND"=some (some (.int 4294967296 zt31)))
  (zg32:nsIn K mainGlobals "RST"=some (some (.int 4 zt32)))
  (zg33:nsIn K mainGlobals "SHORT_HEAD"=some (some (.int 20 zt33)))
  (zg34:nsIn K mainGlobals "SOURCE"=some (some (.int 0 zt34)))
  (zg35:nsIn K mainGlobals "STEP_OF_FIRSTS"=some (some (.int 64000 zt35)))
  (zg36:nsIn K mainGlobals "SYN"=some (some (.int 2 zt36)))
  (zg37:nsIn K mainGlobals "SYN_COME"=some (some (.str "syn come" zt37)))
  (zg38:nsIn K mainGlobals "SYN_SENT"=some (some (.str "syn sent" zt38)))
  (zg39:nsIn K mainGlobals "TIME"=some (some (.str "time" zt39)))
  (zg40:nsIn K mainGlobals "TIME_WAIT"=some (some (.str "time wait" zt40)))
  (zg41:nsIn K mainGlobals "WAIT_ONE"=some (some (.str "wait one" zt41)))
  (zg42:nsIn K mainGlobals "WAIT_TWO"=some (some (.str "wait two" zt42)))
  (zg43:nsIn K mainGlobals "WINDOW"=some (some (.int 5 zt43)))
  (zg44:nsIn K mainGlobals "WORDS"=some (some (.int 65536 zt44)))
  (z_enumerate:nsIn K mainGlobals "enumerate"=some none)
  (z_len:nsIn K mainGlobals "len"=some none)
  (z_list:nsIn K mainGlobals "list"=some none)
  (z_max:nsIn K mainGlobals "max"=some none)
  (z_min:nsIn K mainGlobals "min"=some none)
  (z_range:nsIn K mainGlobals "range"=some none)
  (z_sum:nsIn K mainGlobals "sum"=some none)
  (z_tuple:nsIn K mainGlobals "tuple"=some none) :
  ∃fd:FuncData,(∀(s:Shared) (v:Value),BindsTo s fd ⟨[v],[]⟩ [("_law_script",v)])∧∀base:Heap,K.In base→base.Ns mainGlobals mg→FnOk l.prog w K mg base CX0 11 fa fd ["_law_script"] (ZlM K):=by
 have e:=hfa.symm.trans (mg_of X G a91)
 cases e
 have eC_End:C_End=zB mg "End":=(ZjP (mg_of X G aC_End)).symm
 have eC_Host:C_Host=zB mg "Host":=(ZjP (mg_of X G aC_Host)).symm
 have eC_Pile:C_Pile=zB mg "Pile":=(ZjP (mg_of X G aC_Pile)).symm
 subst eC_End
 subst eC_Host
 subst eC_Pile
 have g:Glb K mg:=⟨⟨_,mg_of X G zg0⟩,⟨_,mg_of X G zg1⟩,⟨_,mg_of X G zg2⟩,⟨_,mg_of X G zg3⟩,⟨_,mg_of X G zg4⟩,⟨_,mg_of X G zg5⟩,⟨_,mg_of X G zg6⟩,⟨_,mg_of X G zg7⟩,⟨_,mg_of X G zg8⟩,⟨_,mg_of X G zg9⟩,⟨_,mg_of X G zg10⟩,⟨_,mg_of X G zg11⟩,⟨_,mg_of X G zg12⟩,⟨_,mg_of X G zg13⟩,⟨_,mg_of X G zg14⟩,⟨_,mg_of X G zg15⟩,⟨_,mg_of X G zg16⟩,⟨_,mg_of X G zg17⟩,⟨_,mg_of X G zg18⟩,⟨_,mg_of X G zg19⟩,⟨_,mg_of X G zg20⟩,⟨_,mg_of X G zg21⟩,⟨_,mg_of X G zg22⟩,⟨_,mg_of X G zg23⟩,⟨_,mg_of X G zg24⟩,⟨_,mg_of X G zg25⟩,⟨_,mg_of X G zg26⟩,⟨_,mg_of X G zg27⟩,⟨_,mg_of X G zg28⟩,⟨_,mg_of X G zg29⟩,⟨_,mg_of X G zg30⟩,⟨_,mg_of X G zg31⟩,⟨_,mg_of X G zg32⟩,⟨_,mg_of X G zg33⟩,⟨_,mg_of X G zg34⟩,⟨_,mg_of X G zg35⟩,⟨_,mg_of X G zg36⟩,⟨_,mg_of X G zg37⟩,⟨_,mg_of X G zg38⟩,⟨_,mg_of X G zg39⟩,⟨_,mg_of X G zg40⟩,⟨_,mg_of X G zg41⟩,⟨_,mg_of X G zg42⟩,⟨_,mg_of X G zg43⟩,⟨_,mg_of X G zg44⟩,mg_none_of X G z_enumerate,mg_none_of X G z_len,mg_none_of X G z_list,mg_none_of X G z_max,mg_none_of X G z_min,mg_none_of X G z_range,mg_none_of X G z_sum,mg_none_of X G z_tuple,⟨pg_End,hd_End,po_End,sa_End⟩,⟨pg_Host,hd_Host,po_Host,sa_Host⟩,⟨pg_Pile,hd_Pile,po_Pile,sa_Pile⟩,zA0,zA1,zA2,zA3,zA4,zA5,zA6,zA7,zA8,zA9,zA10,zA11,zA12,zA13,zA14,zA15,zA16,zA17,zA18,zA19,zA20,zA21,zA22,zA23,zA24,zA25,zA26,zA27,zA28,zA29,zA30,zA31⟩
 have F0:=Zdm (st:=zs0) l0 c0 k0
 have b0:=F0.binds (ps:=zP0) fun _ _ _ _ _ _=>us1 fun _=>rfl
 have D0:Mk0 K mg "Pile" "Pile.__init__" zs0 zP0:=⟨_,_,F0,b0,⟨mk_Pile,a0,i0,kc_Pile⟩,mg_of X G aC_Pile⟩
 have F7:=Zdm (st:=zs7) l7 c7 k7
 have b7:=F7.binds (ps:=zP7) fun _ _ _ _ _ _=>us5 fun _ _ _ _ _=>rfl
 have D7:Mk0 K mg "End" "End.__init__" zs7 zP7:=⟨_,_,F7,b7,⟨mk_End,a7,i7,kc_End⟩,mg_of X G aC_End⟩
 have F78:=Zdm (st:=ZmI) l78 c78 k78
 have b78:=F78.binds (ps:=ZnD) fun _ _ _ _ _ _=>us2 fun _ _=>rfl
 have D78:Mk0 K mg "Host" "Host.__init__" ZmI ZnD:=⟨_,_,F78,b78,⟨mk_Host,a78,i78,kc_Host⟩,mg_of X G aC_Host⟩
 have F79:=Zdm (st:=ZmH) l79 c79 k79
 have b79:=F79.binds (ps:=ZnC) fun _ _ _ _ _ _=>us2 fun _ _=>rfl
 have D79:Me0 K mg "Host" "listens" "Host.listens" ZmH ZnC:=⟨_,_,F79,b79,⟨a79,i79,k79⟩⟩
 have F80:=Zdm (st:=ZmG) l80 c80 k80
 have b80:=F80.binds (ps:=ZnB) fun _ _ _ _ _ _=>us3 fun _ _ _=>rfl
 have D80:Me0 K mg "Host" "calls" "Host.calls" ZmG ZnB:=⟨_,_,F80,b80,⟨a80,i80,k80⟩⟩
 have F81:=Zdm (st:=ZmF) l81 c81 k81
 have b81:=F81.binds (ps:=ZnA) fun _ _ _ _ _ _=>us3 fun _ _ _=>rfl
 have D81:Me0 K mg "Host" "arrives" "Host.arrives" ZmF ZnA:=⟨_,_,F81,b81,⟨a81,i81,k81⟩⟩
 have F82:=Zdm (st:=ZmE) l82 c82 k82
 have b82:=F82.binds (ps:=Znz) fun _ _ _ _ _ _=>us2 fun _ _=>rfl
 have D82:Me0 K mg "Host" "sends" "Host.sends" ZmE Znz:=⟨_,_,F82,b82,⟨a82,i82,k82⟩⟩
 have F83:=Zdm (st:=ZkU) l83 c83 k83
 have b83:=F83.binds (ps:=Zny) fun _ _ _ _ _ _=>us2 fun _ _=>rfl
 have D83:Me0 K mg "Host" "taken_end" "Host.taken_end" ZkU Zny:=⟨_,_,F83,b83,⟨a83,i83,k83⟩⟩
 have F91:=Zdm (st:=Ziz) l91 c91 k91
 have b91:=F91.binds (ps:=Znx) fun _ _ _ _ _ _=>us1 fun _=>rfl
 have D91:Zw K mg "law" Ziz Znx:=⟨_,_,F91,b91,mg_of X G a91⟩
 refine ⟨fnOf "law" "law" (ZeD Ziz) (Zbd Ziz) (Zj Ziz) .none kV91 dc91 pm91 an91 cd91 ct91,fun s v=>.of_eq rfl,fun base BX BG=>?_⟩
 exact ZrG law_true (Zu0 F91 D0 (dmk X G a1 l1 c1 k1) (dmk X G a2 l2 c2 k2) (dmk X G a3 l3 c3 k3) (dmk X G a4 l4 c4 k4) (dmk X G a5 l5 c5 k5) (dmk X G a6 l6 c6 k6) D7 (dmk X G a8 l8 c8 k8) (dmk X G a9 l9 c9 k9) (dmk X G a10 l10 c10 k10) (dmk X G a11 l11 c11 k11) (dmk X G a12 l12 c12 k12) (dmk X G a13 l13 c13 k13) (dmk X G a14 l14 c14 k14) (dmk X G a15 l15 c15 k15) (dmk X G a16 l16 c16 k16) (dmk X G a17 l17 c17 k17) (dmk X G a18 l18 c18 k18) (dmk X G a19 l19 c19 k19) (dmk X G a20 l20 c20 k20) (dmk X G a21 l21 c21 k21) (dmk X G a22 l22 c22 k22) (dmk X G a23 l23 c23 k23) (dmk X G a24 l24 c24 k24) (dmk X G a25 l25 c25 k25) (dmk X G a26 l26 c26 k26) (dmk X G a27 l27 c27 k27) (dmk X G a28 l28 c28 k28) (dmk X G a29 l29 c29 k29) (dmk X G a30 l30 c30 k30) (dmk X G a31 l31 c31 k31) (dmk X G a32 l32 c32 k32) (dmk X G a33 l33 c33 k33) (dmk X G a34 l34 c34 k34) (dmk X G a35 l35 c35 k35) (dmk X G a36 l36 c36 k36) (dmk X G a37 l37 c37 k37) (dmk X G a38 l38 c38 k38) (dmk X G a39 l39 c39 k39) (dmk X G a40 l40 c40 k40) (dmk X G a41 l41 c41 k41) (dmk X G a42 l42 c42 k42) (dmk X G a43 l43 c43 k43) (dmk X G a44 l44 c44 k44) (dmk X G a45 l45 c45 k45) (dmk X G a46 l46 c46 k46) (dmk X G a47 l47 c47 k47) (dmk X G a48 l48 c48 k48) (dmk X G a49 l49 c49 k49) (dmk X G a50 l50 c50 k50) (dmk X G a51 l51 c51 k51) (dmk X G a52 l52 c52 k52) (dmk X G a53 l53 c53 k53) (dmk X G a54 l54 c54 k54) (dmk X G a55 l55 c55 k55) (dmk X G a56 l56 c56 k56) (dmk X G a57 l57 c57 k57) (dmk X G a58 l58 c58 k58) (dmk X G a59 l59 c59 k59) (dmk X G a60 l60 c60 k60) (dmk X G a61 l61 c61 k61) (dmk X G a62 l62 c62 k62) (dmk X G a63 l63 c63 k63) (dmk X G a64 l64 c64 k64) (dmk X G a65 l65 c65 k65) (dmk X G a66 l66 c66 k66) (dmk X G a67 l67 c67 k67) (dmk X G a68 l68 c68 k68) (dmk X G a69 l69 c69 k69) (dmk X G a70 l70 c70 k70) (dmk X G a71 l71 c71 k71) (dmk X G a72 l72 c72 k72) (dmk X G a73 l73 c73 k73) (dmk X G a74 l74 c74 k74) (dmk X G a75 l75 c75 k75) (dmk X G a76 l76 c76 k76) (dmk X G a77 l77 c77 k77) D78 D79 D80 D81 D82 D83 (dmk X G a84 l84 c84 k84) (dmk X G a85 l85 c85 k85) (dmk X G a86 l86 c86 k86) (dmk X G a87 l87 c87 k87) (dmk X G a88 l88 c88 k88) (dmk X G a89 l89 c89 k89) (dmk X G a90 l90 c90 k90) g)
theorem ZzO {l:OpenLaw} {q:Program} {loose:List Str} {XP:(Str→Option Value)→Heap→Prop} {YP:World→Heap→Prop} {d:DefRec} {K:Params→Frag} (hn:l.most=some 63) (hdf:d.params.defaults=[])
  (hY:∀(w:World) (h:Heap),YP w h→(K w.params).In h)
  (F:∀(w:World) (mg:Str→Option Value) (fa:Addr) (h:Heap),(K w.params).In h→h.Ns mainGlobals mg→mg d.name=some (.ref fa)→
   ∃fd:FuncData,(∀(s:Shared) (u:Value),BindsTo s fd ⟨[u],[]⟩ [("_law_script",u)])∧∀base:Heap,(K w.params).In base→base.Ns mainGlobals mg→FnOk l.prog w (K w.params) mg base CX0 11 fa fd ["_law_script"] (ZlM (K w.params))) :
  WalkO q loose XP YP l.row.toRowW d [] (fun f vs=>PySem.call f vs):=
 L2.ZqS (n:=63) (k:=11) (x:="_law_script") (CX:=fun _=>CX0) (sp:=fun w=>ZlM (K w.params)) hn (by decide) hdf ⟨rfl,by decide,by decide⟩ hY F (fun _ H a ns hl hO hS=>⟨a,ns,rfl,hO,hS,hl,fun _=>rfl⟩) fun _ _ _ _ _ z=>z
end My
open PySem PySem.W PyProof.Rows
set_option maxRecDepth 100000 in
set_option maxHeartbeats 0 in
theorem PySem.Challenge.cw_wirestream_k40_two_talks_holds : PySem.Challenge.rw_wirestream_k40_two_talks.Holds := by
 w_on; o_law; k_head; (case hw=>w_witness2)
 k_fill
 refine My.ZzO (l:=PySem.Challenge.rw_wirestream_k40_two_talks) rfl rfl (fun w h Y=>PySem.W.kIn_of Y) ?F
 case F=>
  intro w mg fa h KX G hmg
  refine' My.Zvp KX G hmg ?aC_End ?aC_Host ?aC_Pile ?a0 ?i0 ?l0 ?c0 ?k0 ?a1 ?l1 ?c1 ?k1 ?a2 ?l2 ?c2 ?k2 ?a3 ?l3 ?c3 ?k3 ?a4 ?l4 ?c4 ?k4 ?a5 ?l5 ?c5 ?k5 ?a6 ?l6 ?c6 ?k6 ?a7 ?i7 ?l7 ?c7 ?k7 ?a8 ?l8 ?c8 ?k8 ?a9 ?l9 ?c9 ?k9 ?a10 ?l10 ?c10 ?k10 ?a11 ?l11 ?c11 ?k11 ?a12 ?l12 ?c12 ?k12 ?a13 ?l13 ?c13 ?k13 ?a14 ?l14 ?c14 ?k14 ?a15 ?l15 ?c15 ?k15 ?a16 ?l16 ?c16 ?k16 ?a17 ?l17 ?c17 ?k17 ?a18 ?l18 ?c18 ?k18 ?a19 ?l19 ?c19 ?k19 ?a20 ?l20 ?c20 ?k20 ?a21 ?l21 ?c21 ?k21 ?a22 ?l22 ?c22 ?k22 ?a23 ?l23 ?c23 ?k23 ?a24 ?l24 ?c24 ?k24 ?a25 ?l25 ?c25 ?k25 ?a26 ?l26 ?c26 ?k26 ?a27 ?l27 ?c27 ?k27 ?a28 ?l28 ?c28 ?k28 ?a29 ?l29 ?c29 ?k29 ?a30 ?l30 ?c30 ?k30 ?a31 ?l31 ?c31 ?k31 ?a32 ?l32 ?c32 ?k32 ?a33 ?l33 ?c33 ?k33 ?a34 ?l34 ?c34 ?k34 ?a35 ?l35 ?c35 ?k35 ?a36 ?l36 ?c36 ?k36 ?a37 ?l37 ?c37 ?k37 ?a38 ?l38 ?c38 ?k38 ?a39 ?l39 ?c39 ?k39 ?a40 ?l40 ?c40 ?k40 ?a41 ?l41 ?c41 ?k41 ?a42 ?l42 ?c42 ?k42 ?a43 ?l43 ?c43 ?k43 ?a44 ?l44 ?c44 ?k44 ?a45 ?l45 ?c45 ?k45 ?a46 ?l46 ?c46 ?k46 ?a47 ?l47 ?c47 ?k47 ?a48 ?l48 ?c48 ?k48 ?a49 ?l49 ?c49 ?k49 ?a50 ?l50 ?c50 ?k50 ?a51 ?l51 ?c51 ?k51 ?a52 ?l52 ?c52 ?k52 ?a53 ?l53 ?c53 ?k53 ?a54 ?l54 ?c54 ?k54 ?a55 ?l55 ?c55 ?k55 ?a56 ?l56 ?c56 ?k56 ?a57 ?l57 ?c57 ?k57 ?a58 ?l58 ?c58 ?k58 ?a59 ?l59 ?c59 ?k59 ?a60 ?l60 ?c60 ?k60 ?a61 ?l61 ?c61 ?k61 ?a62 ?l62 ?c62 ?k62 ?a63 ?l63 ?c63 ?k63 ?a64 ?l64 ?c64 ?k64 ?a65 ?l65 ?c65 ?k65 ?a66 ?l66 ?c66 ?k66 ?a67 ?l67 ?c67 ?k67 ?a68 ?l68 ?c68 ?k68 ?a69 ?l69 ?c69 ?k69 ?a70 ?l70 ?c70 ?k70 ?a71 ?l71 ?c71 ?k71 ?a72 ?l72 ?c72 ?k72 ?a73 ?l73 ?c73 ?k73 ?a74 ?l74 ?c74 ?k74 ?a75 ?l75 ?c75 ?k75 ?a76 ?l76 ?c76 ?k76 ?a77 ?l77 ?c77 ?k77 ?a78 ?i78 ?l78 ?c78 ?k78 ?a79 ?i79 ?l79 ?c79 ?k79 ?a80 ?i80 ?l80 ?c80 ?k80 ?a81 ?i81 ?l81 ?c81 ?k81 ?a82 ?i82 ?l82 ?c82 ?k82 ?a83 ?i83 ?l83 ?c83 ?k83 ?a84 ?l84 ?c84 ?k84 ?a85 ?l85 ?c85 ?k85 ?a86 ?l86 ?c86 ?k86 ?a87 ?l87 ?c87 ?k87 ?a88 ?l88 ?c88 ?k88 ?a89 ?l89 ?c89 ?k89 ?a90 ?l90 ?c90 ?k90 ?a91 ?l91 ?c91 ?k91 ?pg_End ?hd_End ?po_End ?sa_End ?mk_End ?kc_End ?pg_Host ?hd_Host ?po_Host ?sa_Host ?mk_Host ?kc_Host ?pg_Pile ?hd_Pile ?po_Pile ?sa_Pile ?mk_Pile ?kc_Pile ?zA0 ?zA1 ?zA2 ?zA3 ?zA4 ?zA5 ?zA6 ?zA7 ?zA8 ?zA9 ?zA10 ?zA11 ?zA12 ?zA13 ?zA14 ?zA15 ?zA16 ?zA17 ?zA18 ?zA19 ?zA20 ?zA21 ?zA22 ?zA23 ?zA24 ?zA25 ?zA26 ?zA27 ?zA28 ?zA29 ?zA30 ?zA31 ?zg0 ?zg1 ?zg2 ?zg3 ?zg4 ?zg5 ?zg6 ?zg7 ?zg8 ?zg9 ?zg10 ?zg11 ?zg12 ?zg13 ?zg14 ?zg15 ?zg16 ?zg17 ?zg18 ?zg19 ?zg20 ?zg21 ?zg22 ?zg23 ?zg24 ?zg25 ?zg26 ?zg27 ?zg28 ?zg29 ?zg30 ?zg31 ?zg32 ?zg33 ?zg34 ?zg35 ?zg36 ?zg37 ?zg38 ?zg39 ?zg40 ?zg41 ?zg42 ?zg43 ?zg44 ?z_enumerate ?z_len ?z_list ?z_max ?z_min ?z_range ?z_sum ?z_tuple
  case aC_End | aC_Host | aC_Pile | a0 | i0 | l0 | c0 | k0 | a1 | l1 | c1 | k1 | a2 | l2 | c2 | k2 | a3 | l3 | c3 | k3 | a4 | l4 | c4 | k4 | a5 | l5 | c5 | k5 | a6 | l6 | c6 | k6 | a7 | i7 | l7 | c7 | k7 | a8 | l8 | c8 | k8 | a9 | l9 | c9 | k9 | a10 | l10 | c10 | k10 | a11 | l11 | c11 | k11 | a12 | l12 | c12 | k12 | a13 | l13 | c13 | k13 | a14 | l14 | c14 | k14 | a15 | l15 | c15 | k15 | a16 | l16 | c16 | k16 | a17 | l17 | c17 | k17 | a18 | l18 | c18 | k18 | a19 | l19 | c19 | k19 | a20 | l20 | c20 | k20 | a21 | l21 | c21 | k21 | a22 | l22 | c22 | k22 | a23 | l23 | c23 | k23 | a24 | l24 | c24 | k24 | a25 | l25 | c25 | k25 | a26 | l26 | c26 | k26 | a27 | l27 | c27 | k27 | a28 | l28 | c28 | k28 | a29 | l29 | c29 | k29 | a30 | l30 | c30 | k30 | a31 | l31 | c31 | k31 | a32 | l32 | c32 | k32 | a33 | l33 | c33 | k33 | a34 | l34 | c34 | k34 | a35 | l35 | c35 | k35 | a36 | l36 | c36 | k36 | a37 | l37 | c37 | k37 | a38 | l38 | c38 | k38 | a39 | l39 | c39 | k39 | a40 | l40 | c40 | k40 | a41 | l41 | c41 | k41 | a42 | l42 | c42 | k42 | a43 | l43 | c43 | k43 | a44 | l44 | c44 | k44 | a45 | l45 | c45 | k45 | a46 | l46 | c46 | k46 | a47 | l47 | c47 | k47 | a48 | l48 | c48 | k48 | a49 | l49 | c49 | k49 | a50 | l50 | c50 | k50 | a51 | l51 | c51 | k51 | a52 | l52 | c52 | k52 | a53 | l53 | c53 | k53 | a54 | l54 | c54 | k54 | a55 | l55 | c55 | k55 | a56 | l56 | c56 | k56 | a57 | l57 | c57 | k57 | a58 | l58 | c58 | k58 | a59 | l59 | c59 | k59 | a60 | l60 | c60 | k60 | a61 | l61 | c61 | k61 | a62 | l62 | c62 | k62 | a63 | l63 | c63 | k63 | a64 | l64 | c64 | k64 | a65 | l65 | c65 | k65 | a66 | l66 | c66 | k66 | a67 | l67 | c67 | k67 | a68 | l68 | c68 | k68 | a69 | l69 | c69 | k69 | a70 | l70 | c70 | k70 | a71 | l71 | c71 | k71 | a72 | l72 | c72 | k72 | a73 | l73 | c73 | k73 | a74 | l74 | c74 | k74 | a75 | l75 | c75 | k75 | a76 | l76 | c76 | k76 | a77 | l77 | c77 | k77 | a78 | i78 | l78 | c78 | k78 | a79 | i79 | l79 | c79 | k79 | a80 | i80 | l80 | c80 | k80 | a81 | i81 | l81 | c81 | k81 | a82 | i82 | l82 | c82 | k82 | a83 | i83 | l83 | c83 | k83 | a84 | l84 | c84 | k84 | a85 | l85 | c85 | k85 | a86 | l86 | c86 | k86 | a87 | l87 | c87 | k87 | a88 | l88 | c88 | k88 | a89 | l89 | c89 | k89 | a90 | l90 | c90 | k90 | a91 | l91 | c91 | k91 | pg_End | hd_End | po_End | sa_End | mk_End | kc_End | pg_Host | hd_Host | po_Host | sa_Host | mk_Host | kc_Host | pg_Pile | hd_Pile | po_Pile | sa_Pile | mk_Pile | kc_Pile | zA0 | zA1 | zA2 | zA3 | zA4 | zA5 | zA6 | zA7 | zA8 | zA9 | zA10 | zA11 | zA12 | zA13 | zA14 | zA15 | zA16 | zA17 | zA18 | zA19 | zA20 | zA21 | zA22 | zA23 | zA24 | zA25 | zA26 | zA27 | zA28 | zA29 | zA30 | zA31 | zg0 | zg1 | zg2 | zg3 | zg4 | zg5 | zg6 | zg7 | zg8 | zg9 | zg10 | zg11 | zg12 | zg13 | zg14 | zg15 | zg16 | zg17 | zg18 | zg19 | zg20 | zg21 | zg22 | zg23 | zg24 | zg25 | zg26 | zg27 | zg28 | zg29 | zg30 | zg31 | zg32 | zg33 | zg34 | zg35 | zg36 | zg37 | zg38 | zg39 | zg40 | zg41 | zg42 | zg43 | zg44 | z_enumerate | z_len | z_list | z_max | z_min | z_range | z_sum | z_tuple=>change _=_; k_is
#print axioms PySem.Challenge.cw_wirestream_k40_two_talks_holds
